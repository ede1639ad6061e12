import PyProof.Rows.All
import Wide.All
import OpenK.AllK
import Wide.FinOn
import KE.KNest
import HandS.Base
import HandS.Call
import HandS.List
import HandS.Comp
import HandS.AnyAll
import HandS.GenList
import HandS.Words
import HandS.Walk
import HandS.Zip
import HandS.IsInst
import HandS.Style
import HandS.TupLe
import HandS.TupAny
import HandS.TupMul
import HandS.Wide
import HandS.Gcd
import HandS.Conv
import HandS.Exc
import HandS.ExcOwn
import HandS.Flow
import HandS.HeadWalk
import HandS.HeadHook4
import HandS.Head2
import KE.GoesMore
import PyProof.EnumMake
import HandS.WideBits
import HandS.Zip0
import PySem.Challenge.RW_safehelms_k17_whole_table_papers_judged
import HandS.Head3
set_option Elab.async false
set_option linter.all false
set_option maxRecDepth 100000
set_option maxHeartbeats 2000000
/-! all(test for target in iter), the test any expression of the layer -/
namespace Gx
open PySem PySem.Spec PyProof.Rows L2 GenW GxR

/-- the frame of a generator expression of X's def -/
abbrev genv (X : Cx) (scope : Scope) (cl : List (Str × Addr)) (C : Addr) (code : Value) : Env := genEnv scope cl C code builtinsNs X.env
/-- its context -/
abbrev gcx (X : Cx) (s : Shared) (H : Hp) (G : Env) (fp : List Addr) (pn : List (Addr × Obj)) : Cx :=
  { X with A := X.A.in1.in1.deeper G, s_0 := s, H_0 := H, env := G, outer := X.stack, stack := G :: X.stack, ex := fp, fn := fun _ => false, pn := pn, xe := fun _ _ => False }

section
variable {X : Cx} {pins : List (Addr × Obj)} {σ : L2.St} {H : Hp} {s : Shared}

theorem inv_woken {pl : List (Addr × Obj)} {s2 : Shared} (I : Inv X pl σ H s) (eh : s2.heap = s.heap) (eo : s2.os = s.os) (eb : AllBare s2.gens) : Inv X pl σ H s2 := by
  obtain ⟨hh, g, d, t, o⟩ := s2
  have eh' : hh = s.heap := eh
  have eo' : o = s.os := eo
  subst eh' eo'
  exact ⟨I.ok, I.os, eb, I.base, I.loc, I.cell, I.free, I.freeC, I.pin, I.hok, I.len⟩

theorem gen_start {scope : Scope} {own : List (Str × Nat)} {fp : List Addr} {code : Value} {it : Value} {s' : Shared} (I : Inv X pins σ H s) (ok : BlkOk X.N X.env.scope scope own) (hcell : ∀ y ∈ scope.names, y.2 ≠ .cell)
    (hN : X.N.Nodup) (hh : X.A.handled = none) (hfp : ∀ b ∈ fp, FpOk X pins H b ∧ b < s.heap.objs.size)
    (hns : s'.heap.Ns s.heap.objs.size (fun y => if y = ".0" then some it else none)) (kp : ∀ b o, s.heap.get? b = some o → s'.heap.get? b = some o) (ho : s'.os = s.os) (hb : AllBare s'.gens) :
    Inv (gcx X s H (genv X scope (cloFrom X.env.cells scope.names []) s.heap.objs.size code) fp []) [] (wipe σ (own.map (·.2))) H s' := by
  have hfree : ∀ y ∈ scope.names, y.2 = .free → ∃ c, X.env.cells.lookup y.1 = some c := fun y hy e =>
    (ok.free y hy e).elim (fun k => I.ok.has _ (.inl k)) fun k => I.ok.has _ (.inr k)
  have cm : ∀ {y c}, (y, c) ∈ cloFrom X.env.cells scope.names [] → X.env.cells.lookup y = some c := fun {y c} hm => by
    rcases cloFrom_mem hm with hm | ⟨h1, rfl⟩
    · cases hm
    · obtain ⟨c, hc⟩ := hfree _ h1 rfl
      rw [hc] <;> rfl
  have cml : ∀ {y c}, (cloFrom X.env.cells scope.names []).lookup y = some c → X.env.cells.lookup y = some c := fun e => cm (PySem.mem_of_lookup e)
  have look : ∀ {y}, scope.names.lookup y = some .free → ∃ c, (cloFrom X.env.cells scope.names []).lookup y = some c ∧ X.env.cells.lookup y = some c := fun {y} hl => by
    obtain ⟨c', e'⟩ := mem_lookup (cloFrom_has (cells := X.env.cells) (acc := []) (PySem.mem_of_lookup hl))
    exact ⟨c', e', cml e'⟩
  have okB : (gcx X s H (genv X scope (cloFrom X.env.cells scope.names []) s.heap.objs.size code) fp []).Ok := by
    refine ⟨I.ok.mod, ok.kind, I.ok.glob, rfl, Nat.le_refl _, fun y z c e1 e2 => I.ok.inj y z c (cml e1) (cml e2), fun y hy => ?_, fun y c z e => ?_, fun _ => hh, Around.frames_deeper I.ok.frames, .inr ⟨rfl, rfl⟩,
      fun b hb => ⟨Nat.ne_of_lt (hfp b hb).2, fun y c e => (hfp b hb).1.2.2.2.2.1 y c (cml e)⟩, I.bs, Nat.le_trans I.ok.bsz I.sz, fun b o e hb => ?_, fun b hb z => ?_, I.stack, I.stkFree⟩
    · rcases hy with hy | hy
      · exact absurd rfl (hcell _ (PySem.mem_of_lookup (show scope.names.lookup y = some .cell from hy)))
      · obtain ⟨c, h1, _⟩ := look hy
        exact ⟨c, h1⟩
    · exact absurd (show false = true from z) Bool.false_ne_true
    · rcases (hfp b hb).1.2.2.2.1 with z | z
      · exact I.ok.noex b o e z
      · exact absurd (Nat.lt_of_lt_of_le (Heap.lt_size e) (Nat.le_trans I.ok.bsz z)) (Nat.lt_irrefl _)
    · rcases List.mem_cons.mp (I.stkSub b z) with z | z
      · exact (hfp b hb).1.2.1 z
      · exact (hfp b hb).1.2.2.1 z
  refine ⟨okB, ho, hb, Un.kept kp, ⟨_, hns, fun i y av e1 e2 e3 => ?_⟩, fun y c e => ?_, I.hok.fresh (Nat.le_refl _), fun y c e => I.freeC y c (cml e), fun p hp => ?_, I.hok.kept kp, by rw [wipe_length]; exact I.len⟩
  · obtain ⟨e2, hne⟩ := wipe_some e2
    have no : ∀ k, scope.names.lookup y = some k → (k = .local ∨ k = .cell) → False := fun k e hk => by
      rcases ok.own _ (PySem.mem_of_lookup e) hk with e' | e'
      · obtain ⟨p, hp, hpy⟩ := List.mem_map.mp e'
        have e4 := ok.ix p hp
        rw [show p.1 = y from hpy] at e4
        exact hne (List.mem_map.mpr ⟨p, hp, nodup_ix hN e4 e1⟩)
      · exact e' (List.mem_of_getElem? e1)
    have hfr : scope.names.lookup y = some .free := by
      rcases e3 with e3 | e3 | e3
      · exact (no _ e3 (.inl rfl)).elim
      · exact (no _ e3 (.inr rfl)).elim
      · exact e3
    obtain ⟨m, hn, hl⟩ := I.loc
    have hvis : Vis X.env.scope y := (ok.free _ (PySem.mem_of_lookup hfr) rfl).elim (fun k => .inr (.inl k)) fun k => .inr (.inr k)
    obtain ⟨w, r, q⟩ := hl i y av e1 e2 hvis
    obtain ⟨c, h1, h2⟩ := look hfr
    refine ⟨w, r, .inr ⟨.inr hfr, c, h1, ?_⟩⟩
    rcases q with ⟨k, _⟩ | ⟨_, c', e', z⟩
    · have k : X.env.scope.names.lookup y = some .local := k
      rcases ok.free _ (PySem.mem_of_lookup hfr) rfl with k' | k' <;> rw [show X.env.scope.names.lookup y = _ from k'] at k <;> cases k
    · rw [h2] at e'
      cases e'
      exact z.keeps kp
  · obtain ⟨w, z⟩ := I.cell y c (cml e)
    exact ⟨w, z.keeps kp⟩
  · exact absurd (show p ∈ ([] : List (Addr × Obj)) ++ [] from hp) (by simp)

/-- pins more in its context -/
theorem gen_pinned {s1 : Shared} {H' : Hp} {G : Env} {fp : List Addr} {pn : List (Addr × Obj)} {σ' : L2.St} (I : Inv (gcx X s H G fp []) [] σ' H' s1)
    (h : ∀ p ∈ pn, s1.heap.get? p.1 = some p.2 ∧ H' p.1 = none ∧ p.1 ≠ G.locals ∧ p.1 ∉ frs X.stack ∧ ∀ v, p.2.data ≠ .cell v) : Inv (gcx X s H G fp pn) [] σ' H' s1 :=
  ⟨⟨I.ok.mod, I.ok.kind, I.ok.glob, I.ok.blt, I.ok.above, I.ok.inj, I.ok.has, I.ok.cab, I.ok.hd, I.ok.frames, I.ok.stk, I.ok.exf, I.ok.bs, I.ok.bsz, I.ok.noex, I.ok.exfs, I.ok.funs, I.ok.frf⟩, I.os, I.bare, I.base, I.loc, I.cell, I.free, I.freeC,
    fun p hp => h p (by simpa using hp), I.hok, I.len⟩

theorem over_comp {A : Around} {elt : Expr} {gs : List Comprehension} {scope : Scope} {pos : Pos} {it acc : Value} {env : Env} : A.over (.compLoop (.GeneratorExp elt gs scope pos) 0 it acc env) [] = A.deeper env := rfl
theorem over_comp0 {A : Around} {elt : Expr} {gs : List Comprehension} {scope : Scope} {pos : Pos} {it acc : Value} {env : Env} : A.over (.compStart (.GeneratorExp elt gs scope pos) 0 it acc env) [] = A.deeper env := rfl
end
end Gx
set_option Elab.async false
set_option linter.all false
set_option maxRecDepth 100000
set_option maxHeartbeats 2000000
namespace Gx
open PySem PySem.Spec PyProof.Rows L2 GenW GxR

/-- how a run of it ends: Qe, all were true -/
abbrev gEnd (X' : Cx) (σw : L2.St) (Qe : Hp → Prop) : GenEnd := fun _ _ r s1 => ((r = .ok (.ret .none) ∨ r = .ok .next) ∧ (∃ H', Inv X' [] σw H' s1 ∧ Qe H')) ∨ ∃ e, r = .error e ∧ False
/-- a test's answer is handed out; Qx: it was false -/
abbrev gYld (X' : Cx) (Qx : Hp → Prop) : Protocol := fun _ _ v s1 kap => ∃ (k : Bool) (pl : List (Addr × Obj)) (σ2 : L2.St) (H' : Hp), v = .bool k ∧ Inv X' pl σ2 H' s1 ∧ (k = false → Qx H') ∧
  (k = true → ∀ s2 : Shared, s2.heap = s1.heap → s2.os = s1.os → AllBare s2.gens → kap (.send .none) s2)

section
variable {X : Cx} {σ : L2.St} {H : Hp} {s : Shared}
theorem gen_loop {G : Env} {fp : List Addr} {pn : List (Addr × Obj)} {elt tg iter : Expr} {scope : Scope} {pos : Pos} {g : TG} {te : TE} {it : Addr} {J : It} {tn : Nat → Heap → Prop} {vs : List Nat} {Qe Qx : Hp → Prop} {W : Nat → Nat → Hp → Prop}
    (hc : X.calm = true) (hco : G.scope.isCoroutine = false) (pg : PG (gcx X s H G fp pn) tg g) (pe : PE (gcx X s H G fp pn) elt te) (T : Turn X.prog X.w X.K tg J fp it tn)
    (turn : ∀ i m H', W i m H' → (J.stop i H' ∧ Qe H') ∨ (J.go i H' ∧ ∃ Nx : Hp → Prop, (∀ H2, Nx H2 → ∃ m', m' < m ∧ W (i + 1) m' H2) ∧ ∀ x H2, J.yld i H' x H2 → g x (wipe σ vs) H2 fun σ2 H3 => wipe σ2 vs = wipe σ vs ∧
      te σ2 H3 fun y H4 => ∃ k : Bool, y = .bl k ∧ if k = true then Nx H4 else Qx H4))
    (hpn : ∀ b ∈ fp, ∀ p ∈ pn, p.1 ≠ b) : ∀ (n m i : Nat) (H' : Hp) (s₀ s1 : Shared), m < n → Inv (gcx X s H G fp pn) [] (wipe σ vs) H' s1 → tn i s1.heap → (∀ b ∈ fp, H' b = none) → W i m H' →
      Seg (model X.prog X.w) X.A.in1.in1 (gEnd (gcx X s H G fp pn) (wipe σ vs) Qe) (gYld (gcx X s H G fp pn) Qx) n s₀ (.compLoop (.GeneratorExp elt [⟨tg, iter, [], 0⟩] scope pos) 0 (.ref it) .none G)
        ((model X.prog X.w).den (.compLoop (.GeneratorExp elt [⟨tg, iter, [], 0⟩] scope pos) 0 (.ref it) .none G)) [] s1 := by
  have stat : ∀ {σ' : L2.St} {H' : Hp} {s' : Shared}, Inv (gcx X s H G fp pn) [] σ' H' s' → (∀ b ∈ fp, H' b = none) → ∀ b ∈ fp, FpOk (gcx X s H G fp pn) [] H' b := fun {σ' H' s'} I' hn b hb =>
    ⟨hn b hb, (I'.ok.exf b hb).1, I'.ok.exfs b hb, .inl hb, fun x c e => (I'.ok.exf b hb).2 x c e, fun p hp => hpn b hb p (by simpa using hp)⟩
  intro n
  induction n with
  | zero => intro m i H' s₀ s1 hm; exact absurd hm (Nat.not_lt_zero m)
  | succ n ih =>
    intro m i H' s₀ s1 hm I st hfn w
    show Seg _ _ _ _ _ s₀ _ ((compTurn (.GeneratorExp elt [⟨tg, iter, [], 0⟩] scope pos) 0 (.ref it) .none G).onRaise (leaving G)) [] s1
    rw [compTurn_gen, Sem.onRaise_eq_wrap]
    refine seg_bind_wrap (wpAny_standAt ?_)
    rcases turn i m H' w with ⟨stop, qe⟩ | ⟨go, Nx, hNx, step⟩
    · have td := T.done (gcx X s H G fp pn) rfl rfl rfl hc i [] s1 _ H' (fun _ _ => False) I (stat I hfn) st stop
      refine seg_bind_wrap ?_
      rw [over_comp]
      refine wpAny_mono td (fun r s2 hr => ?_) fun _ _ z => z.elim
      obtain ⟨hr, I2⟩ := hr
      subst hr
      exact seg_end (.ok .next) (.inl ⟨.inr rfl, H', I2, qe⟩)
    · have ti := T.item (gcx X s H G fp pn) rfl rfl rfl hc i [] s1 _ H' (fun _ _ => False) I (stat I hfn) st go
      refine seg_bind_wrap ?_
      rw [over_comp]
      refine wpAny_mono ti (fun r s2 hr => ?_) fun _ _ z => z.elim
      obtain ⟨u, hr, h2⟩ := hr
      subst hr
      refine seg_bind_wrap ?_
      rw [over_comp]
      refine wpAny_mono h2 (fun _ s3 h3 => ?_) fun _ _ z => z.elim
      obtain ⟨x, H3, I3, r3, y3, st3, n3⟩ := h3
      have I3' := I3.pinned (stat I3 n3) (T.obj _ _ st3)
      refine seg_bind_wrap ?_
      rw [over_comp]
      refine wpAny_mono (pg.run _ s3 _ H3 x u _ I3' r3 (step x H3 y3)) (fun _ s4 h4 => ?_) fun _ _ z => z.elim
      obtain ⟨σ4, H4, I4, hw4, q4⟩ := h4
      refine seg_bind_wrap ?_
      refine wpAny_tests_nil ?_
      simp only [if_true]
      have hy : ∀ v, yieldOut G v = yieldValue v := fun v => by simp only [yieldOut, hco, Bool.false_eq_true, if_false]
      simp only [hy]
      rw [Sem.bind_eq_wrap', Sem.bind_eq_wrap', Sem.wrap_wrap, Sem.wrap_wrap]
      refine seg_wrap ?_
      rw [over_comp]
      refine wpAny_mono (pe.run _ s4 σ4 H4 _ I4 q4) (fun yv s5 h5 => ?_) fun _ _ z => z.elim
      obtain ⟨y, H5, I5, r5, k, ek, q5⟩ := h5
      subst ek
      obtain rfl : yv = Value.bool k := r5
      refine seg_at (seg_yield rfl rfl rfl ⟨k, _, σ4, H5, rfl, I5, fun hk => ?_, fun hk s6 e1 e2 e3 => ?_⟩)
      · rw [hk] at q5
        exact q5
      · rw [if_pos hk] at q5
        obtain ⟨m', hm', w'⟩ := hNx H5 q5
        have I6 := inv_woken I5 e1 e2 e3
        have pin6 : ∀ b ∈ fp, ∀ o, s3.heap.get? b = some o → s6.heap.get? b = some o ∧ H5 b = none := fun b hb o e =>
          let z := I6.pin (b, o) (List.mem_append_right _ (List.mem_append_right _ (mem_pinsAt hb e)))
          ⟨z.1, z.2.1⟩
        refine seg_again rfl (ih m' (i + 1) H5 s6 s6 (by omega) ((I6.unpinned (pins := [])).weak (by rw [← hw4, wipe_length]) fun j v e => ?_) (T.keep _ _ _ st3 fun b hb o e => (pin6 b hb o e).1) (fun b hb => ?_) w')
        · rw [← hw4] at e
          exact (wipe_some e).1
        · obtain ⟨o, e, _⟩ := T.obj _ _ st3 b hb
          exact (pin6 b hb o e).2

theorem gen_begin {G : Env} {fp : List Addr} {pn : List (Addr × Obj)} {elt tg iter : Expr} {scope : Scope} {pos : Pos} {it : Addr} {J : It} {tn : Nat → Heap → Prop} {R : GenEnd} {Y : Protocol} {n : Nat} {s₀ s1 : Shared} (T : Turn X.prog X.w X.K tg J fp it tn) (st : tn 0 s1.heap)
    (loop : Seg (model X.prog X.w) X.A.in1.in1 R Y n s₀ (.compLoop (.GeneratorExp elt [⟨tg, iter, [], 0⟩] scope pos) 0 (.ref it) .none G) ((model X.prog X.w).den (.compLoop (.GeneratorExp elt [⟨tg, iter, [], 0⟩] scope pos) 0 (.ref it) .none G)) [] s1) :
    Seg (model X.prog X.w) X.A.in1.in1 R Y n s₀ (.compStart (.GeneratorExp elt [⟨tg, iter, [], 0⟩] scope pos) 0 (.ref it) .none G) ((model X.prog X.w).den (.compStart (.GeneratorExp elt [⟨tg, iter, [], 0⟩] scope pos) 0 (.ref it) .none G)) [] s1 := by
  show Seg _ _ _ _ _ s₀ _ ((compStart (.GeneratorExp elt [⟨tg, iter, [], 0⟩] scope pos) 0 (.ref it) .none G).onRaise (leaving G)) [] s1
  unfold compStart
  rw [Sem.onRaise_eq_wrap]
  show Seg _ _ _ _ _ s₀ _ ((ask >>= _).wrap _ _ _ _) [] s1
  refine seg_bind_wrap (wpAny_askSetting ?_)
  split
  · exact seg_again rfl loop
  · first
      | exact seg_bind_wrap (wpAny_rule (seg_bind_wrap (wpAny_standAt (seg_bind_wrap (T.self _ 0 s1 _ _ st (seg_again rfl loop))))))
      | (refine seg_bind_wrap (wpAny_rule ?_)
         show Seg _ _ _ _ _ s₀ _ ((standAt iter.pos >>= _).wrap _ _ _ _) [] s1
         exact seg_bind_wrap (wpAny_standAt (seg_bind_wrap (T.self _ 0 s1 _ _ st (seg_again rfl loop)))))
end
end Gx
set_option Elab.async false
set_option linter.all false
set_option maxRecDepth 100000
set_option maxHeartbeats 2000000
namespace Gx
open PySem PySem.Spec PyProof.Rows L2 GenW GxR

section
variable {X' : Cx} {A : Around} {σw : L2.St} {Qe Qx : Hp → Prop} {a : Addr} {g : Nat}
/-- where a drawn value's generator stands -/
def Sus (X' : Cx) (A : Around) (σw : L2.St) (Qe Qx : Hp → Prop) (a : Addr) (g n : Nat) (s : Shared) : Prop :=
  s.heap.IsGen a g ∧ s.heap.NoLimit ∧ ∃ gs, s.gens[g]? = some gs ∧ gs.Goes (model X'.prog X'.w) A.in1.in1 (gEnd X' σw Qe) (gYld X' Qx) n (.send .none) (s.setGen g .running)

theorem step_next {n : Nat} {s : Shared} {Q : Option Value → Shared → Prop} {E : Value → Shared → Prop} (hh : A.handled = none) (hd : A.depth < recursionLimit)
    (hg : ∀ pl σ2 H2 s2, Inv X' pl σ2 H2 s2 → s2.heap.IsGen a g ∧ s2.heap.NoLimit) (hS : Sus X' A σw Qe Qx a g n s)
    (hy : ∀ s1 pl σ2 H2, Inv X' pl σ2 H2 s1 → Qx H2 → Q (some (.bool false)) s1) (hk : ∀ m s1 pl σ2 H2, n = m + 1 → Inv X' pl σ2 H2 s1 → Sus X' A σw Qe Qx a g m s1 → Q (some (.bool true)) s1)
    (hz : ∀ s1 H2, Inv X' [] σw H2 s1 → Qe H2 → Q none s1) : wpAny (model X'.prog X'.w) A.in1 (pyNext (.ref a)) Q E s := by
  obtain ⟨h1, h2, gs, hgs, hgo⟩ := hS
  have hgl : g < s.gens.size := (Array.getElem?_eq_some_iff.mp hgs).1
  refine wpAny_gsz (n := g + 1) hgl (next_genG (A := A.in1) hh h2 hd h1 hgs hgo (fun v s₁ gs' hb hv => ?_) (fun s₁ hp h' hkp => ?_) fun e s₁ he => he.elim)
  · intro hsz
    obtain ⟨k, pl, σ2, H', rfl, I, qx, kap⟩ := hv
    have I2 : Inv X' pl σ2 H' (s₁.setGen g gs') := inv_woken I rfl rfl (allBare_setGen I.bare hb)
    cases k with
    | false => exact hy _ pl σ2 H' I2 (qx rfl)
    | true =>
      have q := kap rfl
      cases n with
      | zero => exact (q s₁ rfl rfl I.bare).elim
      | succ m =>
        have hsz1 : g < s₁.gens.size := by
          have z : (s₁.setGen g gs').gens.size = s₁.gens.size := setGen_size _ _ _
          have hsz' : g + 1 ≤ (s₁.setGen g gs').gens.size := hsz
          omega
        obtain ⟨j1, j2⟩ := hg _ _ _ _ I2
        exact hk m _ pl σ2 H' rfl I2 ⟨j1, j2, gs', setGen_at hsz1, q _ rfl rfl (allBare_setGen (allBare_setGen I.bare hb) rfl)⟩
  · intro _
    obtain ⟨H', I, qe⟩ := hp
    have I2 : Inv X' [] σw H' (s₁.setGen g .finished) := inv_woken I rfl rfl (allBare_setGen I.bare rfl)
    exact hz _ H' (I2.kept (t' := s₁.toks) hkp) qe

theorem all_drain {R : Result → Shared → Prop} (hh : A.handled = none) (hd : A.depth < recursionLimit)
    (hg : ∀ pl σ2 H2 s2, Inv X' pl σ2 H2 s2 → s2.heap.IsGen a g ∧ s2.heap.NoLimit)
    (hy : ∀ s1 pl σ2 H2, Inv X' pl σ2 H2 s1 → Qx H2 → R (.ok (.ret (.bool false))) s1) (hz : ∀ s1 H2, Inv X' [] σw H2 s1 → Qe H2 → R (.ok (.ret (.bool true))) s1) :
    ∀ (n : Nat) (s : Shared), Sus X' A σw Qe Qx a g n s → codeAny (model X'.prog X'.w) A (.builtin "all.loop" ⟨[.ref a], []⟩) R s := by
  intro n
  induction n with
  | zero =>
    intro s hS
    refine codeAny_builtin F.entry_all_loop ?_
    rw [Around.under_plainId F.plain_all_loop _]
    show wpAny _ A.in1 (pyNext (.ref a) >>= _) _ _ s
    refine wpAny_bind (step_next hh hd hg hS (fun s1 pl σ2 H2 I q => ?_) (fun m s1 pl σ2 H2 e => nomatch e) fun s1 H2 I q => ?_)
    · refine wpAny_bind (wpAny_holding (wpAny_truthy_bool ?_))
      refine wpAny_bind (wpAny_letGo ?_)
      simp only [Bool.false_eq_true, if_false]
      exact wpAny_bind (wpAny_rule (wpAny_pure (hy _ _ _ _ I q)))
    · exact wpAny_bind (wpAny_rule (wpAny_pure (hz _ _ I q)))
  | succ n ih =>
    intro s hS
    refine codeAny_builtin F.entry_all_loop ?_
    rw [Around.under_plainId F.plain_all_loop _]
    show wpAny _ A.in1 (pyNext (.ref a) >>= _) _ _ s
    refine wpAny_bind (step_next hh hd hg hS (fun s1 pl σ2 H2 I q => ?_) (fun m s1 pl σ2 H2 e I hS1 => ?_) fun s1 H2 I q => ?_)
    · refine wpAny_bind (wpAny_holding (wpAny_truthy_bool ?_))
      refine wpAny_bind (wpAny_letGo ?_)
      simp only [Bool.false_eq_true, if_false]
      exact wpAny_bind (wpAny_rule (wpAny_pure (hy _ _ _ _ I q)))
    · obtain rfl : n = m := by omega
      refine wpAny_bind (wpAny_holding (wpAny_truthy_bool ?_))
      refine wpAny_bind (wpAny_letGo ?_)
      simp only [if_true]
      exact wpAny_pure ⟨plainId_quiet F.plain_all_loop _, ih _ hS1⟩
    · exact wpAny_bind (wpAny_rule (wpAny_pure (hz _ _ I q)))

theorem call_allG {Q' : Value → Shared → Prop} {E : Value → Shared → Prop} {n : Nat} {s : Shared} (hh : A.handled = none) (hd : A.depth < recursionLimit)
    (hg : ∀ pl σ2 H2 s2, Inv X' pl σ2 H2 s2 → s2.heap.IsGen a g ∧ s2.heap.NoLimit) (hS : Sus X' A σw Qe Qx a g n s)
    (hy : ∀ s1 pl σ2 H2, Inv X' pl σ2 H2 s1 → Qx H2 → Q' (.bool false) s1) (hz : ∀ s1 H2, Inv X' [] σw H2 s1 → Qe H2 → Q' (.bool true) s1) :
    wpAny (model X'.prog X'.w) A (call (.builtin "all") [.ref a]) Q' E s := by
  refine call_function_tree F.kind_all F.plain_all F.entry_all (F.args_all1 _) ?_
  unfold Builtin.«all»
  refine wpAny_bind (m := oneArg "all" _) (wpAny_pure ?_)
  refine wpAny_bind (wpAny_pyIter_gen hS.1 ?_)
  refine wpAny_pure ⟨plainId_quiet F.plain_all_loop _, all_drain hh hd hg (fun s1 pl σ2 H2 I q => ?_) (fun s1 H2 I q => ?_) n s hS⟩
  · exact hy _ _ _ _ I q
  · exact hz _ _ I q
end
end Gx
set_option Elab.async false
set_option linter.all false
set_option maxRecDepth 100000
set_option maxHeartbeats 2000000
namespace Gx
open PySem PySem.Spec PyProof.Rows L2 GenW GxR

/-- all(elt for tg in iter): behind the first look at iter the def's table may have grown; W by the turn and a measure -/
def tAllG (P : Addr) (wi : TI) (g : TG) (te : TE) (vs : List Nat) : TE := fun σ H Q => wi σ H fun J H1 => TabG H1 P ∧ ∀ H2, Tabbed P H1 H2 → ∃ W : Nat → Nat → Hp → Prop, (∃ m, W 0 m H2) ∧ ∀ i m H', W i m H' →
  (J.stop i H' ∧ Q (.bl true) H') ∨ (J.go i H' ∧ ∃ Nx : Hp → Prop, (∀ H3, Nx H3 → ∃ m', m' < m ∧ W (i + 1) m' H3) ∧ ∀ x H3, J.yld i H' x H3 → g x (wipe σ vs) H3 fun σ2 H4 => wipe σ2 vs = wipe σ vs ∧
    te σ2 H4 fun y H5 => ∃ k : Bool, y = .bl k ∧ if k = true then Nx H5 else Q (.bl false) H5)

section
variable {X : Cx} {pins : List (Addr × Obj)} {σ : L2.St} {H : Hp} {s : Shared}
/-- the code object of the expression: taken from the def's table, or made and laid there -/
theorem gen_code {c P : Addr} {gpos : Pos} {qn : Str} {scope : Scope} {Q : Value → Shared → Prop} (TB : TabB X.base X.mg c P) (hcode : X.env.code = .ref c) (I : Inv X pins σ H s) (ht : TabG H P)
    (hQ : ∀ code H2 s2, Tabbed P H H2 → Inv X pins σ H2 s2 → (∀ b o, b ≠ P → s.heap.get? b = some o → s2.heap.get? b = some o) → Q code s2) :
    wpAny (model X.prog X.w) X.A (genexprCode X.env gpos qn scope) Q X.xe s := by
  obtain ⟨ps, hP, htr⟩ := ht
  have hPs : s.heap.get? P = some { cls := .none, data := .fields ps } := I.hok P _ hP
  have cd : PySem.W.CodeHd s.heap c P := TB.code.keeps fun b u e => I.bk b u e
  cases hf : codeAmong gpos ps.toList with
  | some cv => exact wpAny_genexprCode_hit hcode (cd.code hPs htr) hf (hQ cv H s ⟨⟨ps, hP, htr⟩, fun _ _ => rfl⟩ I fun _ _ _ e => e)
  | none =>
    refine wpAny_genexprCodeX hcode (cd.code hPs htr) (cd.tab hPs) hf fun c' h' tk hx _ _ hco' _ htab' _ => ?_
    obtain ⟨_, _, _, _, _, _, _, _, _, _, _, _, _, _, _, _, _, _, _, htr2, _⟩ := hco'
    refine hQ _ (upd H P (.tbl (ps ++ #[rawInt gpos.line, rawInt gpos.col, .ref c']))) _ ⟨⟨_, upd_same, htr2⟩, fun b hb => upd_ne hb⟩ ?_ fun b o hb e => hx b o hb e
    exact inv_tab (g' := s.gens) (d' := s.drawn) (t' := tk) I hP (fun b o hb e => hx b o hb e) htab'.2 I.bare

theorem pe_allG {c P : Addr} {elt tg iter : Expr} {p pos gpos : Pos} {scope : Scope} {own : List (Str × Nat)} {wi : TI} {g : TG} {te : TE} {k : Nat}
    (hr : Room (k + 4) X.A) (hc : X.calm = true) (hN : X.N.Nodup) (hgl : Gl X "all") (hm : X.mg "all" = none) (TB : TabB X.base X.mg c P) (hcode : X.env.code = .ref c)
    (hi : PI X tg iter wi) (ok : BlkOk X.N X.env.scope scope own) (hco : scope.isCoroutine = false) (hcell : ∀ y ∈ scope.names, y.2 ≠ .cell) (hdot : scope.names.lookup (".0" : Str) = some NameKind.local)
    (hg : ∀ (s : Shared) (H : Hp) (C : Addr) (cl : List (Str × Addr)) (code : Value) (fp : List Addr) (pn : List (Addr × Obj)), PG (gcx X s H (genv X scope cl C code) fp pn) tg g)
    (he : ∀ (s : Shared) (H : Hp) (C : Addr) (cl : List (Str × Addr)) (code : Value) (fp : List Addr) (pn : List (Addr × Obj)), Room k (gcx X s H (genv X scope cl C code) fp pn).A → PE (gcx X s H (genv X scope cl C code) fp pn) elt te)
    (hs : ∀ v, genFold iter X.env v = pure v := by intro _; rfl)
    (hst : starEach [.GeneratorExp elt [⟨tg, iter, [], 0⟩] scope gpos] X.env = (false, eval (.GeneratorExp elt [⟨tg, iter, [], 0⟩] scope gpos) X.env) :: starEach [] X.env := by rfl) :
    PE X (.Call (.Name "all" p) [.GeneratorExp elt [⟨tg, iter, [], 0⟩] scope gpos] [] pos) (tAllG P wi g te (own.map (·.2))) := by
  refine ⟨fun pins s σ H Q I h => ?_⟩
  have hb : bootBuiltins "all" = some (.builtin "all") := by decide +kernel
  have hfree : ∀ y ∈ scope.names, y.2 = .free → ∃ c, X.env.cells.lookup y.1 = some c := fun y hy e =>
    (ok.free y hy e).elim (fun k => I.ok.has _ (.inl k)) fun k => I.ok.has _ (.inr k)
  refine wpAny_Call_Name_kw (ld_blt I hgl hm hb ?_)
  refine PyProof.Rows.callWith_builtin1 ?_ hst (by rfl)
  rw [hst]
  show wpAny _ _ (spliced ((false, eval (.GeneratorExp elt [⟨tg, iter, [], 0⟩] scope gpos) X.env) :: backTo pos (starEach [] X.env))) _ _ s
  refine Calls.spliced_cons ?_
  refine wpAny_GeneratorExp_make hco (closure_ok hfree) hcell hdot ok.kind (by have := hr.dp; omega) ?_ hs
  refine thn (hi.run pins s σ H _ I h) fun xv s1 hx => thn hx fun itv s2 h2 => ?_
  obtain ⟨it, fp, tn, J, H2, e, I2, T, st2, f2, hT, q⟩ := h2
  subst e
  refine ⟨I2.nolimit, gen_code TB hcode I2 hT fun code H3 s3 hT3 I3 k3 => ?_⟩
  obtain ⟨W, ⟨m0, w0⟩, turn⟩ := q H3 hT3
  obtain ⟨bm, ob, b1, b2, b3, b4, b5, b6, b7, b8⟩ := TB.bm
  refine wpAny_builtinsFor (m := X.mg) (by rw [I3.ok.glob]; exact I3.mod.glob.keeps I3.bk) b1 b2 (I3.bk _ _ b5) b6 b7 b8 ?_
  intro h4 hns hsb
  refine Calls.spliced_nil ?_
  -- where the iterator's objects stand
  obtain ⟨ps, hPt, _⟩ := id hT
  have fpP : ∀ b ∈ fp, b ≠ P := fun b hb z => by
    have z1 := (f2 b hb).1
    rw [z, hPt] at z1
    cases z1
  have st3 : tn 0 s3.heap := T.keep _ _ _ st2 fun b hb o e => k3 b o (fpP b hb) e
  have f3 : ∀ b ∈ fp, FpOk X pins H3 b ∧ b < s3.heap.objs.size := fun b hb => by
    obtain ⟨o, e, _⟩ := T.obj _ _ st3 b hb
    exact ⟨⟨by rw [hT3.2 b (fpP b hb)]; exact (f2 b hb).1, (f2 b hb).2⟩, Heap.lt_size e⟩
  have sz4 : h4.objs.size = s3.heap.objs.size + 1 := by rw [hsb.1, Heap.size_push]
  have k4 : ∀ b o, s3.heap.get? b = some o → h4.get? b = some o := fun b o e => hsb.extBut b o (Nat.ne_of_lt (Heap.lt_size e)) (Heap.get?_push_of_some _ e)
  generalize hgo : ({ cls := .type "generator", data := .fields #[.int s3.gens.size 0, .str "<genexpr>" (s3.toks + 1), .str (X.env.qual ++ "<genexpr>") (s3.toks + 1 + 1)] } : Obj) = go
  have goc : go.cls = .type "generator" := by rw [← hgo] <;> rfl
  have god : go.data = .fields #[.int s3.gens.size 0, .str "<genexpr>" (s3.toks + 1), .str (X.env.qual ++ "<genexpr>") (s3.toks + 1 + 1)] := by rw [← hgo] <;> rfl
  have gos : go.slots = #[] := by rw [← hgo] <;> rfl
  have gop : (h4.push go).get? h4.objs.size = some go := by
    rw [← hgo]
    exact Heap.get?_push_size _ rfl
  have k5 : ∀ b o, s3.heap.get? b = some o → (h4.push go).get? b = some o := fun b o e => Heap.get?_push_of_some _ (k4 b o e)
  -- its context, from its first step on
  have I5 := gen_start (code := code) (s' := { s3 with gens := s3.gens.push (.fresh (.compStart (.GeneratorExp elt [⟨tg, iter, [], 0⟩] scope gpos) 0 (.ref it) .none (genEnv scope (cloFrom X.env.cells scope.names []) s3.heap.objs.size code builtinsNs X.env))), toks := s3.toks + 1 + 1 + 1, heap := h4.push go }) I3 ok hcell hN hr.hd f3 (hns.push _) k5 rfl (I3.bare.push rfl)
  have hga : ∀ v, go.data ≠ .cell v := fun v z => by rw [god] at z; cases z
  have I6 := gen_pinned (pn := [(h4.objs.size, go)]) I5 fun p hp => by
    rw [List.mem_singleton.mp hp]
    refine ⟨gop, I3.hok.fresh (by rw [sz4]; exact Nat.le_succ _), by show h4.objs.size ≠ s3.heap.objs.size; rw [sz4]; exact Nat.succ_ne_self _, fun z => ?_, hga⟩
    rcases List.mem_cons.mp (I3.stkSub _ z) with z | z
    · have z1 := I3.lt
      rw [← z, sz4] at z1
      exact absurd (Nat.lt_of_succ_lt z1) (Nat.lt_irrefl _)
    · exact I3.nofs (by rw [sz4]; exact Nat.le_succ _) z
  have hgen : ∀ pl σ2 H' s', Inv (gcx X s3 H3 (genv X scope (cloFrom X.env.cells scope.names []) s3.heap.objs.size code) fp [(h4.objs.size, go)]) pl σ2 H' s' → s'.heap.IsGen h4.objs.size s3.gens.size ∧ s'.heap.NoLimit := fun pl σ2 H' s' I' =>
    ⟨⟨go, _, _, (I'.pin (h4.objs.size, go) (List.mem_append_left _ (List.mem_singleton.mpr rfl))).1, goc, god, gos⟩, I'.nolimit⟩
  have room : Room k (gcx X s3 H3 (genv X scope (cloFrom X.env.cells scope.names []) s3.heap.objs.size code) fp [(h4.objs.size, go)]).A := (((hr.mono (by omega : k + 3 ≤ k + 4)).in1.in1).deeper _)
  have st5 : tn 0 (h4.push go) := T.keep _ _ _ st3 fun b hb o e => k5 b o e
  -- back in the def
  have back : ∀ {pl : List (Addr × Obj)} {σ2 : L2.St} {H' : Hp} {s' : Shared}, Inv (gcx X s3 H3 (genv X scope (cloFrom X.env.cells scope.names []) s3.heap.objs.size code) fp [(h4.objs.size, go)]) pl σ2 H' s' → Inv X pins σ H' s' := fun {pl σ2 H' s'} I' =>
    I3.call' (ch := fp) I'.os I'.base I'.hok I'.bare fun b hb => ⟨(f3 b hb).1.2.2.2.1, (f3 b hb).1.2.1, (f3 b hb).1.2.2.2.2.1, (f3 b hb).1.2.2.2.2.2⟩
  refine call_allG (X' := gcx X s3 H3 (genv X scope (cloFrom X.env.cells scope.names []) s3.heap.objs.size code) fp [(h4.objs.size, go)]) (g := s3.gens.size) (n := m0 + 1) (σw := wipe σ (own.map (·.2))) (Qe := fun H' => Q (.bl true) H') (Qx := fun H' => Q (.bl false) H') hr.hd (by have := hr.dp; omega) hgen ?_ ?_ ?_
  · obtain ⟨j1, j2⟩ := hgen _ _ _ _ I6
    refine ⟨j1, j2, _, Array.getElem?_push_size .., rfl, ?_⟩
    refine gen_begin (pn := []) T (by exact st5) (gen_loop hc hco (hg _ _ _ _ _ _ _) (he _ _ _ _ _ _ _ room) T turn (fun b hb p hp z => ?_) (m0 + 1) m0 0 H3 _ _ (Nat.lt_succ_self _) (inv_woken I6 rfl rfl (allBare_setGen I6.bare rfl)) (by exact st5) (fun b hb => (f3 b hb).1.1) w0)
    rw [List.mem_singleton.mp hp] at z
    have z1 := (f3 b hb).2
    rw [← z, sz4] at z1
    exact absurd (Nat.lt_of_succ_lt z1) (Nat.lt_irrefl _)
  · intro s' pl σ2 H' I' q'
    exact ⟨.bl false, H', back I', rfl, q'⟩
  · intro s' H' I' q'
    exact ⟨.bl true, H', back I', rfl, q'⟩
end
end Gx
set_option Elab.async false
set_option linter.all false
set_option maxRecDepth 100000
set_option maxHeartbeats 2000000
/-! # The layer Dn: what a def does, as a function of plain data.
A value is data (a tree that is never written to) or a place r n in the store, a list that may be written to.
con: a list of the written part, or the script. -/
namespace Dn
open PySem PySem.Spec PyProof.Rows L2 GxR

inductive D where
  | non | bl (b : Bool) | int (i : Int) | str (x : Str) | tup (ds : List D) | lst (ds : List D) | con (ds : List D) | dic | obj (c : Str) (fs : List (Str × D))
inductive Val where
  | d (x : D) | r (n : Nat)
inductive Cell where
  | lst (ds : List D) | dead
abbrev Sto := List Cell
abbrev Env := List (Option Val)
/-- an error in flight: its class, its fields -/
structure Exn where
  c : Str
  fs : List (Str × D)
inductive Out (α : Type) where
  | ok (a : α) (S : Sto) | exc (x : Exn) (S : Sto) | bad
def Out.bind {α β : Type} (r : Out α) (k : α → Sto → Out β) : Out β := match r with
  | .ok a S => k a S
  | .exc x S => .exc x S
  | .bad => .bad
@[simp] theorem Out.bind_ok {α β : Type} (a : α) (S : Sto) (k : α → Sto → Out β) : (Out.ok a S).bind k = k a S := (rfl)
@[simp] theorem Out.bind_exc {α β : Type} (x : Exn) (S : Sto) (k : α → Sto → Out β) : (Out.exc x S : Out α).bind k = .exc x S := (rfl)
@[simp] theorem Out.bind_bad {α β : Type} (k : α → Sto → Out β) : (Out.bad : Out α).bind k = .bad := (rfl)

/-- what is fixed: the written part, the tables of the defs that have generator expressions, the classes' places -/
structure Wd where
  K : PySem.W.Frag
  tabs : List Addr
  ca : Str → Addr

abbrev Mu := List (Option Addr)
def outM (μ : Mu) (a : Addr) : Prop := ∀ n : Nat, μ[n]? ≠ some (some a)

/-- a tracked list apart from the store -/
def FrL (H : Hp) (μ : Mu) (a : Addr) (vs : List V) : Prop := outM μ a ∧ H a = some (.lst vs)
/-- a list that nobody can write to -/
def CoL (W : Wd) (H : Hp) (μ : Mu) (a : Addr) (vs : List V) : Prop := FrL H μ a vs ∨ (∃ o, H a = some (.frz o (.lst vs))) ∨
  ∃ (o : Obj) (its : Array Value) (n : Nat), W.K.lookup a = some o ∧ o.cls = .type "list" ∧ o.dict = none ∧ o.data = .seq its n ∧ its.size ≤ sizeLine ∧ Vals vs its.toList
theorem FrL.sq {W : Wd} {H : Hp} {μ : Mu} {a : Addr} {vs : List V} (h : FrL H μ a vs) : SqL W.K H a vs := .inl (.inl h.2)
theorem CoL.sq {W : Wd} {H : Hp} {μ : Mu} {a : Addr} {vs : List V} (h : CoL W H μ a vs) : SqL W.K H a vs := h.elim FrL.sq fun h => h.elim (fun z => .inl (.inr z)) .inr
theorem CoL.of {W : Wd} {H : Hp} {μ : Mu} {a : Addr} {vs : List V} (h : SqL W.K H a vs) (n : outM μ a) : CoL W H μ a vs := h.elim (fun z => z.elim (fun z => .inl ⟨n, z⟩) fun z => .inr (.inl z)) fun z => .inr (.inr z)
mutual
def RelD (W : Wd) (H : Hp) (μ : Mu) : D → V → Prop
  | .non, v => v = .non
  | .bl b, v => v = .bl b
  | .int i, v => v = .int i
  | .str x, v => v = .str x
  | .tup ds, v => ∃ a vs, v = .ref a ∧ SqT W.K H a vs ∧ RelDs W H μ ds vs
  | .lst ds, v => ∃ a vs, v = .ref a ∧ FrL H μ a vs ∧ RelDs W H μ ds vs
  | .con ds, v => ∃ a vs, v = .ref a ∧ CoL W H μ a vs ∧ RelDs W H μ ds vs
  | .dic, v => ∃ a, v = .ref a ∧ outM μ a ∧ H a = some (.dK [])
  | .obj c fs, v => ∃ a dx gs, v = .ref a ∧ outM μ a ∧ H a = some (.ins (W.ca c) dx gs) ∧ RelFs W H μ fs gs
def RelDs (W : Wd) (H : Hp) (μ : Mu) : List D → List V → Prop
  | [], vs => vs = []
  | d :: ds, vs => ∃ v r, vs = v :: r ∧ RelD W H μ d v ∧ RelDs W H μ ds r
def RelFs (W : Wd) (H : Hp) (μ : Mu) : List (Str × D) → List (Str × V) → Prop
  | [], gs => gs = []
  | (f, d) :: fs, gs => ∃ v r, gs = (f, v) :: r ∧ RelD W H μ d v ∧ RelFs W H μ fs r
end
def RelV' (W : Wd) (H : Hp) (μ : Mu) : Val → V → Prop
  | .d x, v => RelD W H μ x v
  | .r n, v => match μ[n]? with
    | some (some a) => v = .ref a
    | some none => True
    | none => False
def CellOk (W : Wd) (H : Hp) (μ : Mu) : Cell → Option Addr → Prop
  | .lst ds, o => ∃ a vs, o = some a ∧ H a = some (.lst vs) ∧ RelDs W H μ ds vs
  | .dead, _ => True
structure RelS (W : Wd) (H : Hp) (μ : Mu) (S : Sto) : Prop where
  len : S.length = μ.length
  nd : ∀ (n m : Nat) (a : Addr), μ[n]? = some (some a) → μ[m]? = some (some a) → n = m
  cell : ∀ (n : Nat) c o, S[n]? = some c → μ[n]? = some o → CellOk W H μ c o
  is : ∀ (n : Nat) a, μ[n]? = some (some a) → ∃ vs, H a = some (.lst vs)
  tab : ∀ P ∈ W.tabs, TabG H P
def RelE (W : Wd) (H : Hp) (μ : Mu) (env : Env) (σ : L2.St) : Prop :=
  env.length = σ.length ∧ ∀ (i : Nat) x, env[i]? = some (some x) → ∃ v, σ[i]? = some (some v) ∧ RelV' W H μ x v
/-- what goes on keeps: places in the store stay or die; what is no place of the store stays as it is, but tables -/
structure Le (H : Hp) (μ : Mu) (H' : Hp) (μ' : Mu) : Prop where
  len : μ.length ≤ μ'.length
  at_ : ∀ (n : Nat) o, μ[n]? = some o → μ'[n]? = some o ∨ μ'[n]? = some none
  keep : ∀ b o, H b = some o → outM μ b → (∀ ps, o ≠ .tbl ps) → H' b = some o ∧ outM μ' b

section
variable {W : Wd} {H H' H2 : Hp} {μ μ' μ2 : Mu}
theorem Le.refl : Le H μ H μ := ⟨Nat.le_refl _, fun _ _ e => .inl e, fun _ _ e n _ => ⟨e, n⟩⟩
theorem Le.trans (a : Le H μ H' μ') (b : Le H' μ' H2 μ2) : Le H μ H2 μ2 := by
  refine ⟨Nat.le_trans a.len b.len, fun n o e => ?_, fun c o e n t => ?_⟩
  · rcases a.at_ n o e with q | q
    · exact b.at_ n o q
    · exact .inr ((b.at_ n none q).elim id id)
  · obtain ⟨e1, n1⟩ := a.keep c o e n t
    exact b.keep c o e1 n1 t
theorem Le.sqT {a : Addr} {vs : List V} (l : Le H μ H' μ') (is : ∀ (n : Nat) a, μ[n]? = some (some a) → ∃ vs, H a = some (.lst vs)) (h : SqT W.K H a vs) : SqT W.K H' a vs := by
  rcases h with (h | ⟨o, h⟩) | h
  · refine .inl (.inl (l.keep a _ h (fun n e => ?_) fun ps z => by cases z).1)
    obtain ⟨ws, q⟩ := is n a e
    rw [h] at q; cases q
  · refine .inl (.inr ⟨o, (l.keep a _ h (fun n e => ?_) fun ps z => by cases z).1⟩)
    obtain ⟨ws, q⟩ := is n a e
    rw [h] at q; cases q
  · exact .inr h
theorem Le.frL {a : Addr} {vs : List V} (l : Le H μ H' μ') (h : FrL H μ a vs) : FrL H' μ' a vs := by
  obtain ⟨n, h⟩ := h
  obtain ⟨q1, q2⟩ := l.keep a _ h n fun ps z => by cases z
  exact ⟨q2, q1⟩
theorem Le.coL {a : Addr} {vs : List V} (l : Le H μ H' μ') (is : ∀ (n : Nat) a, μ[n]? = some (some a) → ∃ vs, H a = some (.lst vs)) (h : CoL W H μ a vs) : CoL W H' μ' a vs := by
  rcases h with h | ⟨o, h⟩ | h
  · exact .inl (l.frL h)
  · refine .inr (.inl ⟨o, (l.keep a _ h (fun n e => ?_) fun ps z => by cases z).1⟩)
    obtain ⟨ws, q⟩ := is n a e
    rw [h] at q; cases q
  · exact .inr (.inr h)
end
/-- the places of the store hold lists -/
def Is (H : Hp) (μ : Mu) : Prop := ∀ (n : Nat) a, μ[n]? = some (some a) → ∃ vs, H a = some (.lst vs)
/-- a constant of the written part that is no place of the store -/
theorem outM_of {H : Hp} {μ : Mu} {a : Addr} (is : Is H μ) (h : ∀ vs, H a ≠ some (.lst vs)) : outM μ a := fun n e => by
  obtain ⟨vs, q⟩ := is n a e
  exact h vs q
end Dn
set_option Elab.async false
set_option linter.all false
set_option maxRecDepth 100000
set_option maxHeartbeats 2000000
namespace Dn
open PySem PySem.Spec PyProof.Rows L2 GxR

section
variable {W : Wd} {H H' H2 : Hp} {μ μ' μ2 : Mu} {S S' : Sto}
theorem RelS.Is (r : RelS W H μ S) : Is H μ := r.is
mutual
theorem RelD.mono (l : Le H μ H' μ') (is : Is H μ) : ∀ (d : D) (v : V), RelD W H μ d v → RelD W H' μ' d v
  | .non, v, h => by simpa [RelD] using h
  | .bl b, v, h => by simpa [RelD] using h
  | .int i, v, h => by simpa [RelD] using h
  | .str x, v, h => by simpa [RelD] using h
  | .tup ds, v, h => by
    simp only [RelD] at h ⊢
    obtain ⟨a, vs, e, q, r⟩ := h
    exact ⟨a, vs, e, l.sqT is q, RelDs.mono l is ds vs r⟩
  | .lst ds, v, h => by
    simp only [RelD] at h ⊢
    obtain ⟨a, vs, e, q, r⟩ := h
    exact ⟨a, vs, e, l.frL q, RelDs.mono l is ds vs r⟩
  | .con ds, v, h => by
    simp only [RelD] at h ⊢
    obtain ⟨a, vs, e, q, r⟩ := h
    exact ⟨a, vs, e, l.coL is q, RelDs.mono l is ds vs r⟩
  | .dic, v, h => by
    simp only [RelD] at h ⊢
    obtain ⟨a, e, n, q⟩ := h
    obtain ⟨q1, q2⟩ := l.keep a _ q n fun ps z => by cases z
    exact ⟨a, e, q2, q1⟩
  | .obj c fs, v, h => by
    simp only [RelD] at h ⊢
    obtain ⟨a, dx, gs, e, n, q, r⟩ := h
    obtain ⟨q1, q2⟩ := l.keep a _ q n fun ps z => by cases z
    exact ⟨a, dx, gs, e, q2, q1, RelFs.mono l is fs gs r⟩
theorem RelDs.mono (l : Le H μ H' μ') (is : Is H μ) : ∀ (ds : List D) (vs : List V), RelDs W H μ ds vs → RelDs W H' μ' ds vs
  | [], vs, h => by simpa [RelDs] using h
  | d :: ds, vs, h => by
    simp only [RelDs] at h ⊢
    obtain ⟨v, r, e, h1, h2⟩ := h
    exact ⟨v, r, e, RelD.mono l is d v h1, RelDs.mono l is ds r h2⟩
theorem RelFs.mono (l : Le H μ H' μ') (is : Is H μ) : ∀ (fs : List (Str × D)) (gs : List (Str × V)), RelFs W H μ fs gs → RelFs W H' μ' fs gs
  | [], gs, h => by simpa [RelFs] using h
  | (f, d) :: fs, gs, h => by
    simp only [RelFs] at h ⊢
    obtain ⟨v, r, e, h1, h2⟩ := h
    exact ⟨v, r, e, RelD.mono l is d v h1, RelFs.mono l is fs r h2⟩
end
theorem RelV'.mono (l : Le H μ H' μ') (is : Is H μ) {x : Val} {v : V} (h : RelV' W H μ x v) : RelV' W H' μ' x v := by
  cases x with
  | d x => exact RelD.mono l is x v h
  | r n =>
    simp only [RelV'] at h ⊢
    cases e : μ[n]? with
    | none => rw [e] at h; exact h.elim
    | some o =>
      rcases l.at_ n o e with q | q
      · rw [q, ← e]; exact h
      · rw [q]; trivial
theorem RelE.mono {env : Env} {σ : L2.St} (l : Le H μ H' μ') (is : Is H μ) (h : RelE W H μ env σ) : RelE W H' μ' env σ :=
  ⟨h.1, fun i x e => let ⟨v, e1, r⟩ := h.2 i x e; ⟨v, e1, r.mono l is⟩⟩
theorem RelDs.length : ∀ {ds : List D} {vs : List V}, RelDs W H μ ds vs → ds.length = vs.length
  | [], vs, h => by simp only [RelDs] at h; subst h; rfl
  | d :: ds, vs, h => by
    simp only [RelDs] at h
    obtain ⟨v, r, rfl, _, h2⟩ := h
    simp [RelDs.length h2]
theorem RelDs.get : ∀ {ds : List D} {vs : List V} {i : Nat} {d : D}, RelDs W H μ ds vs → ds[i]? = some d → ∃ v, vs[i]? = some v ∧ RelD W H μ d v
  | [], vs, i, d, h, e => by simp at e
  | x :: ds, vs, i, d, h, e => by
    simp only [RelDs] at h
    obtain ⟨v, r, rfl, h1, h2⟩ := h
    cases i with
    | zero => simp at e; subst e; exact ⟨v, by simp, h1⟩
    | succ i => simp at e; obtain ⟨u, q, z⟩ := RelDs.get h2 e; exact ⟨u, by simpa using q, z⟩
theorem RelDs.append : ∀ {ds es : List D} {vs ws : List V}, RelDs W H μ ds vs → RelDs W H μ es ws → RelDs W H μ (ds ++ es) (vs ++ ws)
  | [], es, vs, ws, h, h' => by simp only [RelDs] at h; subst h; simpa using h'
  | x :: ds, es, vs, ws, h, h' => by
    simp only [RelDs] at h
    obtain ⟨v, r, rfl, h1, h2⟩ := h
    simp only [List.cons_append, RelDs]
    exact ⟨v, r ++ ws, rfl, h1, RelDs.append h2 h'⟩
theorem RelDs.take : ∀ {ds : List D} {vs : List V} (n : Nat), RelDs W H μ ds vs → RelDs W H μ (ds.take n) (vs.take n)
  | [], vs, n, h => by simp only [RelDs] at h; subst h; simp [RelDs]
  | x :: ds, vs, n, h => by
    simp only [RelDs] at h
    obtain ⟨v, r, rfl, h1, h2⟩ := h
    cases n with
    | zero => simp [RelDs]
    | succ n => simp only [List.take_succ_cons, RelDs]; exact ⟨v, r.take n, rfl, h1, RelDs.take n h2⟩
theorem RelDs.drop : ∀ {ds : List D} {vs : List V} (n : Nat), RelDs W H μ ds vs → RelDs W H μ (ds.drop n) (vs.drop n)
  | [], vs, n, h => by simp only [RelDs] at h; subst h; simp [RelDs]
  | x :: ds, vs, n, h => by
    cases n with
    | zero => simpa using h
    | succ n =>
      simp only [RelDs] at h
      obtain ⟨v, r, rfl, h1, h2⟩ := h
      simpa using RelDs.drop n h2
theorem RelDs.set : ∀ {ds : List D} {vs : List V} {d : D} {v : V} (n : Nat), RelDs W H μ ds vs → RelD W H μ d v → RelDs W H μ (ds.set n d) (vs.set n v)
  | [], vs, d, v, n, h, r => by simp only [RelDs] at h; subst h; simp [RelDs]
  | x :: ds, vs, d, v, n, h, r => by
    simp only [RelDs] at h
    obtain ⟨u, us, rfl, h1, h2⟩ := h
    cases n with
    | zero => simp only [List.set_cons_zero, RelDs]; exact ⟨v, us, rfl, r, h2⟩
    | succ n => simp only [List.set_cons_succ, RelDs]; exact ⟨u, us.set n v, rfl, h1, RelDs.set n h2 r⟩
theorem RelDs.reverse {ds : List D} : ∀ {vs : List V}, RelDs W H μ ds vs → RelDs W H μ ds.reverse vs.reverse := by
  induction ds with
  | nil => intro vs h; simp only [RelDs] at h; subst h; simp [RelDs]
  | cons x ds ih =>
    intro vs h
    simp only [RelDs] at h
    obtain ⟨v, r, rfl, h1, h2⟩ := h
    simp only [List.reverse_cons]
    exact (ih h2).append (by simp only [RelDs]; exact ⟨v, [], rfl, h1, rfl⟩)
theorem RelDs.rep {ds : List D} {vs : List V} (h : RelDs W H μ ds vs) : ∀ k : Nat, RelDs W H μ (List.replicate k ds).flatten (List.replicate k vs).flatten
  | 0 => by simp [RelDs]
  | k + 1 => by simp only [List.replicate_succ, List.flatten_cons]; exact h.append (h.rep k)

/-- something new that is no place of the store -/
theorem Le.new {p : Addr} {o : HO} (hp : H p = none) : Le H μ (upd H p o) μ :=
  ⟨Nat.le_refl _, fun _ _ e => .inl e, fun b u e n _ => ⟨by rw [upd_ne (ne_of_none e hp)]; exact e, n⟩⟩
theorem outM.new {p : Addr} (is : Is H μ) (hp : H p = none) : outM μ p := fun n e => by
  obtain ⟨vs, q⟩ := is n p e
  rw [hp] at q; cases q
theorem TabG.upd' {P p : Addr} {o : HO} (h : TabG H P) (hp : H p = none) : TabG (upd H p o) P := by
  obtain ⟨ps, e, t⟩ := h
  exact ⟨ps, by rw [upd_ne (ne_of_none e hp)]; exact e, t⟩
theorem RelS.new {p : Addr} {o : HO} (h : RelS W H μ S) (hp : H p = none) : RelS W (upd H p o) μ S := by
  refine ⟨h.len, h.nd, fun n c o' e e1 => ?_, fun n a e => ?_, fun P hP => TabG.upd' (h.tab P hP) hp⟩
  · have ok := h.cell n c o' e e1
    cases c with
    | dead => trivial
    | lst ds =>
      obtain ⟨a, vs, e2, e3, r⟩ := ok
      exact ⟨a, vs, e2, by rw [upd_ne (ne_of_none e3 hp)]; exact e3, RelDs.mono (Le.new hp) h.is ds vs r⟩
  · obtain ⟨vs, q⟩ := h.is n a e
    exact ⟨vs, by rw [upd_ne (ne_of_none q hp)]; exact q⟩
end
end Dn
set_option Elab.async false
set_option linter.all false
set_option maxRecDepth 100000
set_option maxHeartbeats 2000000
namespace Dn
open PySem PySem.Spec PyProof.Rows L2 GxR
section
variable {W : Wd} {H H' H2 : Hp} {μ μ' μ2 : Mu} {S S' : Sto}
mutual
theorem RelD.sub (o : ∀ a, outM μ a → outM μ' a) : ∀ (d : D) (v : V), RelD W H μ d v → RelD W H μ' d v
  | .non, v, h => by simpa [RelD] using h
  | .bl b, v, h => by simpa [RelD] using h
  | .int i, v, h => by simpa [RelD] using h
  | .str x, v, h => by simpa [RelD] using h
  | .tup ds, v, h => by
    simp only [RelD] at h ⊢
    obtain ⟨a, vs, e, q, r⟩ := h
    exact ⟨a, vs, e, q, RelDs.sub o ds vs r⟩
  | .lst ds, v, h => by
    simp only [RelD] at h ⊢
    obtain ⟨a, vs, e, q, r⟩ := h
    exact ⟨a, vs, e, ⟨o _ q.1, q.2⟩, RelDs.sub o ds vs r⟩
  | .con ds, v, h => by
    simp only [RelD] at h ⊢
    obtain ⟨a, vs, e, q, r⟩ := h
    exact ⟨a, vs, e, q.imp (fun z => ⟨o _ z.1, z.2⟩) id, RelDs.sub o ds vs r⟩
  | .dic, v, h => by
    simp only [RelD] at h ⊢
    obtain ⟨a, e, n, q⟩ := h
    exact ⟨a, e, o _ n, q⟩
  | .obj c fs, v, h => by
    simp only [RelD] at h ⊢
    obtain ⟨a, dx, gs, e, n, q, r⟩ := h
    exact ⟨a, dx, gs, e, o _ n, q, RelFs.sub o fs gs r⟩
theorem RelDs.sub (o : ∀ a, outM μ a → outM μ' a) : ∀ (ds : List D) (vs : List V), RelDs W H μ ds vs → RelDs W H μ' ds vs
  | [], vs, h => by simpa [RelDs] using h
  | d :: ds, vs, h => by
    simp only [RelDs] at h ⊢
    obtain ⟨v, r, e, h1, h2⟩ := h
    exact ⟨v, r, e, RelD.sub o d v h1, RelDs.sub o ds r h2⟩
theorem RelFs.sub (o : ∀ a, outM μ a → outM μ' a) : ∀ (fs : List (Str × D)) (gs : List (Str × V)), RelFs W H μ fs gs → RelFs W H μ' fs gs
  | [], gs, h => by simpa [RelFs] using h
  | (f, d) :: fs, gs, h => by
    simp only [RelFs] at h ⊢
    obtain ⟨v, r, e, h1, h2⟩ := h
    exact ⟨v, r, e, RelD.sub o d v h1, RelFs.sub o fs r h2⟩
end
/-! ### a new place -/
theorem outM.push {p : Addr} {b : Addr} (h : outM μ b) (hb : b ≠ p) : outM (μ ++ [some p]) b := fun n e => by
  by_cases hn : n < μ.length
  · rw [List.getElem?_append_left hn] at e
    exact h n e
  · rw [List.getElem?_append_right (Nat.le_of_not_lt hn)] at e
    cases hk : n - μ.length with
    | zero => rw [hk] at e; simp at e; exact hb e.symm
    | succ k => rw [hk] at e; simp at e
theorem Le.push {p : Addr} {o : HO} (hp : H p = none) : Le H μ (upd H p o) (μ ++ [some p]) :=
  ⟨by simp, fun n o e => .inl (by rw [List.getElem?_append_left (List.getElem?_eq_some_iff.mp e).1]; exact e),
   fun b u e n _ => ⟨by rw [upd_ne (ne_of_none e hp)]; exact e, n.push (ne_of_none e hp)⟩⟩
theorem RelS.push {p : Addr} {ds : List D} {vs : List V} (h : RelS W H μ S) (hp : H p = none) (r : RelDs W H μ ds vs) : RelS W (upd H p (.lst vs)) (μ ++ [some p]) (S ++ [.lst ds]) := by
  have hl := h.len
  have out := outM.new h.is hp
  refine ⟨by simp [hl], fun n m a e1 e2 => ?_, fun n c o e1 e2 => ?_, fun n a e => ?_, fun P hP => TabG.upd' (h.tab P hP) hp⟩
  · by_cases hn : n < μ.length
    · rw [List.getElem?_append_left hn] at e1
      by_cases hm : m < μ.length
      · rw [List.getElem?_append_left hm] at e2
        exact h.nd n m a e1 e2
      · rw [List.getElem?_append_right (Nat.le_of_not_lt hm)] at e2
        cases hk : m - μ.length with
        | zero => rw [hk] at e2; simp at e2; rw [← e2] at e1; exact (out n e1).elim
        | succ k => rw [hk] at e2; simp at e2
    · rw [List.getElem?_append_right (Nat.le_of_not_lt hn)] at e1
      cases hk : n - μ.length with
      | succ k => rw [hk] at e1; simp at e1
      | zero =>
        rw [hk] at e1; simp at e1
        by_cases hm : m < μ.length
        · rw [List.getElem?_append_left hm] at e2
          rw [← e1] at e2; exact (out m e2).elim
        · rw [List.getElem?_append_right (Nat.le_of_not_lt hm)] at e2
          cases hk2 : m - μ.length with
          | zero => omega
          | succ k => rw [hk2] at e2; simp at e2
  · by_cases hn : n < S.length
    · rw [List.getElem?_append_left hn] at e1
      rw [List.getElem?_append_left (hl ▸ hn)] at e2
      have ok := h.cell n c o e1 e2
      cases c with
      | dead => trivial
      | lst es =>
        obtain ⟨a, ws, e3, e4, r4⟩ := ok
        exact ⟨a, ws, e3, by rw [upd_ne (ne_of_none e4 hp)]; exact e4, RelDs.mono (Le.push hp) h.is es ws r4⟩
    · rw [List.getElem?_append_right (Nat.le_of_not_lt hn)] at e1
      rw [List.getElem?_append_right (Nat.le_of_not_lt (hl ▸ hn))] at e2
      rw [hl] at e1
      cases hk : n - μ.length with
      | succ k => rw [hk] at e1; simp at e1
      | zero =>
        rw [hk] at e1 e2; simp at e1 e2
        subst e1; subst e2
        exact ⟨p, vs, rfl, upd_same, RelDs.mono (Le.push hp) h.is ds vs r⟩
  · by_cases hn : n < μ.length
    · rw [List.getElem?_append_left hn] at e
      obtain ⟨ws, q⟩ := h.is n a e
      exact ⟨ws, by rw [upd_ne (ne_of_none q hp)]; exact q⟩
    · rw [List.getElem?_append_right (Nat.le_of_not_lt hn)] at e
      cases hk : n - μ.length with
      | succ k => rw [hk] at e; simp at e
      | zero => rw [hk] at e; simp at e; subst e; exact ⟨vs, upd_same⟩
/-! ### a place is written -/
theorem Le.put {a : Addr} {n : Nat} {vs : List V} (hn : μ[n]? = some (some a)) : Le H μ (upd H a (.lst vs)) μ :=
  ⟨Nat.le_refl _, fun _ _ e => .inl e, fun b u e o _ => ⟨by rw [upd_ne (fun z => o n (by rw [z]; exact hn))]; exact e, o⟩⟩
theorem TabG.put {P a : Addr} {ws vs : List V} (h : TabG H P) (ha : H a = some (.lst ws)) : TabG (upd H a (.lst vs)) P := by
  obtain ⟨ps, e, t⟩ := h
  refine ⟨ps, ?_, t⟩
  rw [upd_ne (fun z => by rw [z, ha] at e; cases e)]
  exact e
theorem RelS.put {a : Addr} {n : Nat} {ds : List D} {vs : List V} (h : RelS W H μ S) (hn : μ[n]? = some (some a)) (r : RelDs W H μ ds vs) : RelS W (upd H a (.lst vs)) μ (S.set n (.lst ds)) := by
  obtain ⟨ws, hw⟩ := h.is n a hn
  refine ⟨by simp [h.len], h.nd, fun m c o e1 e2 => ?_, fun m b e => ?_, fun P hP => TabG.put (h.tab P hP) hw⟩
  · by_cases hm : n = m
    · subst hm
      have hlt : n < S.length := by rw [h.len]; exact (List.getElem?_eq_some_iff.mp hn).1
      rw [List.getElem?_set_self hlt] at e1
      cases e1
      rw [hn] at e2; cases e2
      exact ⟨a, vs, rfl, upd_same, RelDs.mono (Le.put hn) h.is ds vs r⟩
    · rw [List.getElem?_set_ne hm] at e1
      have ok := h.cell m c o e1 e2
      cases c with
      | dead => trivial
      | lst es =>
        obtain ⟨b, us, e3, e4, r4⟩ := ok
        subst e3
        exact ⟨b, us, rfl, by rw [upd_ne (fun z => hm (h.nd n m a hn (by rw [← z]; exact e2)))]; exact e4, RelDs.mono (Le.put hn) h.is es us r4⟩
  · by_cases hb : b = a
    · subst hb; exact ⟨vs, upd_same⟩
    · obtain ⟨us, q⟩ := h.is m b e
      exact ⟨us, by rw [upd_ne hb]; exact q⟩
/-! ### a place dies -/
theorem outM.kill {b : Addr} (n : Nat) (h : outM μ b) : outM (μ.set n none) b := fun m e => by
  by_cases hm : n = m
  · subst hm
    by_cases hl : n < μ.length
    · rw [List.getElem?_set_self hl] at e; cases e
    · rw [List.getElem?_eq_none (by simp; omega)] at e; cases e
  · rw [List.getElem?_set_ne hm] at e; exact h m e
theorem Le.kill (n : Nat) : Le H μ H (μ.set n none) := by
  refine ⟨by simp, fun m o e => ?_, fun b o e h _ => ⟨e, h.kill n⟩⟩
  by_cases hm : n = m
  · subst hm
    exact .inr (List.getElem?_set_self (List.getElem?_eq_some_iff.mp e).1)
  · exact .inl (by rw [List.getElem?_set_ne hm]; exact e)
theorem RelS.kill (n : Nat) (h : RelS W H μ S) : RelS W H (μ.set n none) (S.set n .dead) := by
  refine ⟨by simp [h.len], fun i j a e1 e2 => ?_, fun m c o e1 e2 => ?_, fun m a e => ?_, h.tab⟩
  · by_cases hi : n = i
    · subst hi
      by_cases hl : n < μ.length
      · rw [List.getElem?_set_self hl] at e1; cases e1
      · rw [List.getElem?_eq_none (by simp; omega)] at e1; cases e1
    · rw [List.getElem?_set_ne hi] at e1
      by_cases hj : n = j
      · subst hj
        by_cases hl : n < μ.length
        · rw [List.getElem?_set_self hl] at e2; cases e2
        · rw [List.getElem?_eq_none (by simp; omega)] at e2; cases e2
      · rw [List.getElem?_set_ne hj] at e2
        exact h.nd i j a e1 e2
  · by_cases hm : n = m
    · subst hm
      by_cases hl : n < S.length
      · rw [List.getElem?_set_self hl] at e1; cases e1; trivial
      · rw [List.getElem?_eq_none (by simp; omega)] at e1; cases e1
    · rw [List.getElem?_set_ne hm] at e1 e2
      have ok := h.cell m c o e1 e2
      cases c with
      | dead => trivial
      | lst es =>
        obtain ⟨b, us, e3, e4, r4⟩ := ok
        exact ⟨b, us, e3, e4, RelDs.sub (fun _ z => z.kill n) es us r4⟩
  · by_cases hm : n = m
    · subst hm
      by_cases hl : n < μ.length
      · rw [List.getElem?_set_self hl] at e; cases e
      · rw [List.getElem?_eq_none (by simp; omega)] at e; cases e
    · rw [List.getElem?_set_ne hm] at e
      exact h.is m a e
theorem outM.dead {a : Addr} {n : Nat} (h : RelS W H μ S) (hn : μ[n]? = some (some a)) : outM (μ.set n none) a := fun m e => by
  by_cases hm : n = m
  · subst hm
    rw [List.getElem?_set_self (List.getElem?_eq_some_iff.mp hn).1] at e; cases e
  · rw [List.getElem?_set_ne hm] at e
    exact hm (h.nd n m a hn e)
/-! ### places behind the first k go -/
theorem outM.take {b : Addr} (k : Nat) (h : outM μ b) : outM (μ.take k) b := fun n e => by
  rw [List.getElem?_take] at e
  split at e
  · exact h n e
  · cases e
theorem RelS.take (k : Nat) (h : RelS W H μ S) : RelS W H (μ.take k) (S.take k) := by
  refine ⟨by simp [h.len], fun i j a e1 e2 => ?_, fun m c o e1 e2 => ?_, fun m a e => ?_, h.tab⟩
  · rw [List.getElem?_take] at e1 e2
    split at e1
    · split at e2
      · exact h.nd i j a e1 e2
      · cases e2
    · cases e1
  · rw [List.getElem?_take] at e1 e2
    split at e1
    · rename_i hk
      rw [if_pos hk] at e2
      have ok := h.cell m c o e1 e2
      cases c with
      | dead => trivial
      | lst es =>
        obtain ⟨b, us, e3, e4, r4⟩ := ok
        exact ⟨b, us, e3, e4, RelDs.sub (fun _ z => z.take k) es us r4⟩
    · cases e1
  · rw [List.getElem?_take] at e
    split at e
    · exact h.is m a e
    · cases e
theorem Le.take (l : Le H μ H' μ') : Le H μ H' (μ'.take μ.length) := by
  refine ⟨by rw [List.length_take]; exact Nat.le_min.mpr ⟨Nat.le_refl _, l.len⟩, fun n o e => ?_, fun b o e n t => let ⟨q1, q2⟩ := l.keep b o e n t; ⟨q1, q2.take _⟩⟩
  have hn := (List.getElem?_eq_some_iff.mp e).1
  rw [List.getElem?_take, if_pos hn]
  exact l.at_ n o e
/-- but the one at n, which becomes the k-th -/
theorem outM.comp {b : Addr} {o : Option Addr} {k n : Nat} (hn : μ[n]? = some o) (h : outM μ b) : outM (μ.take k ++ [o]) b := fun m e => by
  by_cases hm : m < (μ.take k).length
  · rw [List.getElem?_append_left hm] at e
    exact h.take k m e
  · rw [List.getElem?_append_right (Nat.le_of_not_lt hm)] at e
    cases hk : m - (μ.take k).length with
    | zero => rw [hk] at e; simp at e; rw [e] at hn; exact h n hn
    | succ j => rw [hk] at e; simp at e
theorem RelS.comp {k n : Nat} {o : Option Addr} {c : Cell} (h : RelS W H μ S) (hk : k ≤ n) (hn : μ[n]? = some o) (hc : S[n]? = some c) : RelS W H (μ.take k ++ [o]) (S.take k ++ [c]) := by
  have hnl := (List.getElem?_eq_some_iff.mp hn).1
  have l1 : (μ.take k).length = k := by rw [List.length_take]; omega
  have l2 : (S.take k).length = k := by rw [List.length_take, h.len]; omega
  have back : ∀ (i : Nat) (a : Addr), (μ.take k ++ [o])[i]? = some (some a) → (i < k ∧ μ[i]? = some (some a)) ∨ (i = k ∧ o = some a) := fun i a e => by
    by_cases hi : i < k
    · rw [List.getElem?_append_left (by omega), List.getElem?_take, if_pos hi] at e
      exact .inl ⟨hi, e⟩
    · rw [List.getElem?_append_right (by omega), l1] at e
      cases hq : i - k with
      | zero => rw [hq] at e; simp at e; exact .inr ⟨by omega, e⟩
      | succ j => rw [hq] at e; simp at e
  refine ⟨by simp [h.len], fun i j a e1 e2 => ?_, fun m c' o' e1 e2 => ?_, fun m a e => ?_, h.tab⟩
  · rcases back i a e1 with ⟨h1, q1⟩ | ⟨h1, q1⟩ <;> rcases back j a e2 with ⟨h2, q2⟩ | ⟨h2, q2⟩
    · exact h.nd i j a q1 q2
    · rw [q2] at hn
      have := h.nd i n a q1 hn
      omega
    · rw [q1] at hn
      have := h.nd j n a q2 hn
      omega
    · omega
  · have sub : ∀ a, outM μ a → outM (μ.take k ++ [o]) a := fun a z => z.comp hn
    have fin : CellOk W H μ c' o' → CellOk W H (μ.take k ++ [o]) c' o' := fun ok => by
      cases c' with
      | dead => trivial
      | lst es =>
        obtain ⟨b, us, e3, e4, r4⟩ := ok
        exact ⟨b, us, e3, e4, RelDs.sub sub es us r4⟩
    by_cases hi : m < k
    · rw [List.getElem?_append_left (by omega), List.getElem?_take, if_pos hi] at e1 e2
      exact fin (h.cell m c' o' e1 e2)
    · rw [List.getElem?_append_right (by omega), l2] at e1
      rw [List.getElem?_append_right (by omega), l1] at e2
      cases hq : m - k with
      | zero =>
        rw [hq] at e1 e2; simp at e1 e2
        subst e1; subst e2
        exact fin (h.cell n c o hc hn)
      | succ j => rw [hq] at e1; simp at e1
  · rcases back m a e with ⟨_, q⟩ | ⟨_, q⟩
    · exact h.is m a q
    · rw [q] at hn; exact h.is n a hn
theorem Le.comp {n : Nat} {o : Option Addr} (l : Le H μ H' μ') (hn : μ'[n]? = some o) : Le H μ H' (μ'.take μ.length ++ [o]) := by
  have l1 : (μ'.take μ.length).length = μ.length := by rw [List.length_take]; have := l.len; omega
  refine ⟨by simp; have := l.len; omega, fun m p e => ?_, fun b u e z t => let ⟨q1, q2⟩ := l.keep b u e z t; ⟨q1, q2.comp hn⟩⟩
  have hm := (List.getElem?_eq_some_iff.mp e).1
  rw [List.getElem?_append_left (by omega), List.getElem?_take, if_pos hm]
  exact l.at_ m p e
end
end Dn
set_option Elab.async false
set_option linter.all false
set_option maxRecDepth 100000
set_option maxHeartbeats 2000000
/-! ### readings by such a function -/
namespace Dn
open PySem PySem.Spec PyProof.Rows L2 GxR

def RelVs (W : Wd) (H : Hp) (μ : Mu) : List Val → List V → Prop
  | [], vs => vs = []
  | x :: xs, vs => ∃ v r, vs = v :: r ∧ RelV' W H μ x v ∧ RelVs W H μ xs r
/-- an error in flight (told of more later) -/
def RelX (W : Wd) (H : Hp) (μ : Mu) (x : Exn) (u : Value) (dd : Option Addr) : Prop := u = .ref (W.ca x.c)
def Post {α : Type} (W : Wd) (E : XK) (H : Hp) (μ : Mu) (r : Out α) (K : α → Sto → Hp → Mu → Prop) : Prop := match r with
  | .ok a S => ∀ H' μ', Le H μ H' μ' → RelS W H' μ' S → K a S H' μ'
  | .exc x S => ∀ H' μ' u dd, Le H μ H' μ' → RelS W H' μ' S → RelX W H' μ' x u dd → E u dd H'
  | .bad => False
section
variable {α β : Type} {W : Wd} {E : XK} {H H' : Hp} {μ μ' : Mu} {S : Sto}
theorem Post.imp {r : Out α} {K K' : α → Sto → Hp → Mu → Prop} (h : Post W E H μ r K) (hk : ∀ a S H' μ', Le H μ H' μ' → RelS W H' μ' S → K a S H' μ' → K' a S H' μ') : Post W E H μ r K' := by
  cases r with
  | ok a S => exact fun H' μ' l s => hk a S H' μ' l s (h H' μ' l s)
  | exc x S => exact h
  | bad => exact h
theorem Post.le {r : Out α} {K : α → Sto → Hp → Mu → Prop} (h : Post W E H μ r K) (l : Le H μ H' μ') : Post W E H' μ' r K := by
  cases r with
  | ok a S => exact fun H2 μ2 l2 s => h H2 μ2 (l.trans l2) s
  | exc x S => exact fun H2 μ2 u dd l2 s => h H2 μ2 u dd (l.trans l2) s
  | bad => exact h
theorem Post.bind {r : Out α} {k : α → Sto → Out β} {K : β → Sto → Hp → Mu → Prop} (h : Post W E H μ (r.bind k) K) : Post W E H μ r fun a S H' μ' => Post W E H' μ' (k a S) K := by
  cases r with
  | ok a S => exact fun H' μ' l s => Post.le (show Post W E H μ (k a S) K from h) l
  | exc x S => exact h
  | bad => exact h
theorem Post.at_ {a : α} {K : α → Sto → Hp → Mu → Prop} (h : Post W E H μ (.ok a S) K) (s : RelS W H μ S) : K a S H μ := h H μ .refl s
end

def QV (W : Wd) (Q : VK) : Val → Sto → Hp → Mu → Prop := fun x _ H μ => ∀ v, RelV' W H μ x v → Q v H
def QVs (W : Wd) (Q : List V → Hp → Prop) : List Val → Sto → Hp → Mu → Prop := fun xs _ H μ => ∀ vs, RelVs W H μ xs vs → Q vs H
def QB (Q : Bool → Hp → Prop) : Bool → Sto → Hp → Mu → Prop := fun b _ H _ => Q b H
abbrev DEf := Env → Sto → Out Val
abbrev DTf := Env → Sto → Out Bool
abbrev DAf := Env → Sto → Out (List Val)
def tE (W : Wd) (E : XK) (f : DEf) : TE := fun σ H Q => ∃ env S μ, RelE W H μ env σ ∧ RelS W H μ S ∧ Post W E H μ (f env S) (QV W Q)
def tT (W : Wd) (E : XK) (f : DTf) : TT := fun σ H Q => ∃ env S μ, RelE W H μ env σ ∧ RelS W H μ S ∧ Post W E H μ (f env S) (QB Q)
def tA (W : Wd) (E : XK) (f : DAf) : TA := fun σ H Q => ∃ env S μ, RelE W H μ env σ ∧ RelS W H μ S ∧ Post W E H μ (f env S) (QVs W Q)
abbrev DE (W : Wd) (E : XK) (X : Cx) (e : Expr) (f : DEf) : Prop := PE X e (tE W E f)
abbrev DT (W : Wd) (E : XK) (X : Cx) (e : Expr) (f : DTf) : Prop := PT X e (tT W E f)
abbrev DWt (W : Wd) (E : XK) (X : Cx) (e : Expr) (f : DTf) : Prop := PW X e (tT W E f)
abbrev DA (W : Wd) (E : XK) (X : Cx) (es : List Expr) (f : DAf) : Prop := PA X es (tA W E f)
theorem _root_.L2.PE.imp {X : Cx} {e : Expr} {t t' : TE} (h : PE X e t) (hi : ∀ σ H Q, t' σ H Q → t σ H Q) : PE X e t' := ⟨fun pins s σ H Q I q => h.run pins s σ H Q I (hi σ H Q q)⟩
theorem _root_.L2.PT.imp {X : Cx} {e : Expr} {t t' : TT} (h : PT X e t) (hi : ∀ σ H Q, t' σ H Q → t σ H Q) : PT X e t' := ⟨fun pins s σ H Q I q => h.run pins s σ H Q I (hi σ H Q q)⟩
theorem _root_.L2.PW.imp {X : Cx} {e : Expr} {t t' : TT} (h : PW X e t) (hi : ∀ σ H Q, t' σ H Q → t σ H Q) : PW X e t' := ⟨fun wh pins s σ H Q I q => h.run wh pins s σ H Q I (hi σ H Q q)⟩
theorem _root_.L2.PA.imp {X : Cx} {e : List Expr} {t t' : TA} (h : PA X e t) (hi : ∀ σ H Q, t' σ H Q → t σ H Q) : PA X e t' := ⟨fun pos pins s σ H Q I q => h.run pos pins s σ H Q I (hi σ H Q q)⟩
theorem _root_.L2.PS.imp {X : Cx} {e : Stmt} {t t' : TS} (h : PS X e t) (hi : ∀ D σ H, t' D σ H → t D σ H) : PS X e t' := ⟨fun pins s σ H D I q => h.run pins s σ H D I (hi D σ H q)⟩
theorem _root_.L2.PSs.imp {X : Cx} {e : List Stmt} {t t' : TS} (h : PSs X e t) (hi : ∀ D σ H, t' D σ H → t D σ H) : PSs X e t' := ⟨fun pins s σ H D I q => h.run pins s σ H D I (hi D σ H q)⟩

/-! ### what is fixed in a def's body (or a block of it) -/
structure Dx (W : Wd) (CX : CXT) (E : XK) (X : Cx) (mg : Str → Option Value) (N : List Str) (sc : Scope) (k : Nat) : Prop where
  eK : X.K = W.K
  emg : X.mg = mg
  eN : X.N = N
  esc : X.env.scope = sc
  nd : List.Nodup N
  calm : X.calm = true
  room : Room k X.A
  pass : Passes CX X E
  own : PassesOwn (model X.prog X.w) X.A X.env X.xe

section
variable {W : Wd} {E : XK} {X : Cx} {pos : Pos}
/-! ### names, constants -/
def dVar (i : Nat) : DEf := fun env S => match env[i]? with
  | some (some x) => .ok x S
  | _ => .bad
theorem de_var {i : Nat} {x : Str} (hN : X.N[i]? = some x) (hv : Vis X.env.scope x) (hd : (x == ("__debug__" : Str)) = false := by decide) (hcd : (x == ("__classdict__" : Str)) = false := by decide) :
    DE W E X (.Name x pos) (dVar i) := (pe_var hN hv hd hcd).imp fun σ H Q ⟨env, S, μ, hE, hS, hp⟩ => by
  unfold dVar at hp
  cases e : env[i]? with
  | none => rw [e] at hp; exact hp.elim
  | some o =>
    cases o with
    | none => rw [e] at hp; exact hp.elim
    | some x =>
      rw [e] at hp
      obtain ⟨v, e1, r⟩ := hE.2 i x e
      exact ⟨v, e1, hp.at_ hS v r⟩
def dC (d : D) : DEf := fun _ S => .ok (.d d) S
theorem de_c {e : Expr} {d : D} {v : V} (h : PE X e (tC v)) (r : ∀ H μ, RelD W H μ d v) : DE W E X e (dC d) := h.imp fun σ H Q ⟨env, S, μ, hE, hS, hp⟩ => hp.at_ hS v (r H μ)
theorem de_int {i j} : DE W E X (.Constant (.int i) j pos) (dC (.int i)) := de_c pe_int fun _ _ => by simp [RelD]
theorem de_bl {b j} : DE W E X (.Constant (.bool b) j pos) (dC (.bl b)) := de_c pe_bl fun _ _ => by simp [RelD]
theorem de_non {j} : DE W E X (.Constant .none j pos) (dC .non) := de_c pe_non fun _ _ => by simp [RelD]
theorem de_str {x j} : DE W E X (.Constant (.str x) j pos) (dC (.str x)) := de_c pe_str fun _ _ => by simp [RelD]
/-- code that is never come to -/
def dBad : DEf := fun _ _ => .bad
theorem de_bad {e : Expr} : DE W E X e dBad := ⟨fun _ _ _ _ _ _ ⟨_, _, _, _, _, h⟩ => h.elim⟩

/-! ### two-place operations -/
abbrev Op2 := Val → Val → Sto → Out Val
def DOp (W : Wd) (E : XK) (r : R2) (o : Op2) : Prop := ∀ (x y : Val) (S : Sto) (H : Hp) (μ : Mu) (v w : V) (Q : VK), RelS W H μ S → RelV' W H μ x v → RelV' W H μ y w → Post W E H μ (o x y S) (QV W Q) → r v w H Q
def dOp (o : Op2) (f g : DEf) : DEf := fun env S => (f env S).bind fun x S1 => (g env S1).bind fun y S2 => o x y S2
theorem tE_op {r : R2} {o : Op2} {f g : DEf} (hd : DOp W E r o) (σ : L2.St) (H : Hp) (Q : VK) (h : tE W E (dOp o f g) σ H Q) : tOp r (tE W E f) (tE W E g) σ H Q := by
  obtain ⟨env, S, μ, hE, hS, hp⟩ := h
  refine ⟨env, S, μ, hE, hS, hp.bind.imp fun x S1 H1 μ1 l1 s1 p1 v rv => ?_⟩
  refine ⟨env, S1, μ1, hE.mono l1 hS.is, s1, p1.bind.imp fun y S2 H2 μ2 l2 s2 p2 w rw' => ?_⟩
  exact hd x y S2 H2 μ2 v w Q s2 (rv.mono l2 s1.is) rw' p2
theorem de_op {op : Operator} {r : R2} {o : Op2} {a b : Expr} {f g : DEf} (ho : OpR X (binaryOp op) r) (hd : DOp W E r o) (ha : DE W E X a f) (hb : DE W E X b g) : DE W E X (.BinOp a op b pos) (dOp o f g) :=
  (pe_op ho ha hb).imp (tE_op hd)
theorem de_cmp {op : CmpOp} {r : R2} {o : Op2} {a b : Expr} {f g : DEf} (ho : OpR X (compareOp op) r) (hd : DOp W E r o) (ha : DE W E X a f) (hb : DE W E X b g) (hm : behindInMarks op b = false) : DE W E X (.Compare a [op] [b] pos) (dOp o f g) :=
  (pe_cmpR ho ha hb hm).imp (tE_op hd)
/-- a value as a test -/
def dB (f : DEf) : DTf := fun env S => (f env S).bind fun x S1 => match x with
  | .d (.bl b) => .ok b S1
  | _ => .bad
theorem tE_test {f : DEf} (σ : L2.St) (H : Hp) (Q : Bool → Hp → Prop) (h : tT W E (dB f) σ H Q) : tTest (tE W E f) σ H Q := by
  obtain ⟨env, S, μ, hE, hS, hp⟩ := h
  refine ⟨env, S, μ, hE, hS, hp.bind.imp fun x S1 H1 μ1 l1 s1 p1 v rv => ?_⟩
  cases x with
  | r n => exact p1.elim
  | d x =>
    cases x with
    | bl b =>
      have e : v = .bl b := by simpa [RelV', RelD] using rv
      exact ⟨b, e, p1.at_ s1⟩
    | _ => exact p1.elim
theorem dt_cmp {op : CmpOp} {r : R2} {o : Op2} {a b : Expr} {f g : DEf} (ho : OpR X (compareOp op) r) (hd : DOp W E r o) (ha : DE W E X a f) (hb : DE W E X b g) (hm : behindInMarks op b = false) : DT W E X (.Compare a [op] [b] pos) (dB (dOp o f g)) :=
  (pt_cmpR ho ha hb hm).imp fun σ H Q h => by
    obtain ⟨env, S, μ, hE, hS, hp⟩ := tE_test σ H Q h
    exact tE_op hd σ H _ ⟨env, S, μ, hE, hS, hp⟩
/-- chains -/
def dChain (o o' : Op2) (f g h : DEf) : DEf := fun env S => (f env S).bind fun x S1 => (g env S1).bind fun y S2 => (o x y S2).bind fun z S3 => match z with
  | .d (.bl true) => (h env S3).bind fun w S4 => o' y w S4
  | .d (.bl false) => .ok (.d (.bl false)) S3
  | _ => .bad
theorem tE_chain {r r' : R2} {o o' : Op2} {f g h : DEf} (hd : DOp W E r o) (hd' : DOp W E r' o') (σ : L2.St) (H : Hp) (Q : VK) (hh : tE W E (dChain o o' f g h) σ H Q) : tChain r r' (tE W E f) (tE W E g) (tE W E h) σ H Q := by
  obtain ⟨env, S, μ, hE, hS, hp⟩ := hh
  refine ⟨env, S, μ, hE, hS, hp.bind.imp fun x S1 H1 μ1 l1 s1 p1 v rv => ?_⟩
  refine ⟨env, S1, μ1, hE.mono l1 hS.is, s1, p1.bind.imp fun y S2 H2 μ2 l2 s2 p2 w rw' => ?_⟩
  refine hd x y S2 H2 μ2 v w _ s2 (rv.mono l2 s1.is) rw' (p2.bind.imp fun z S3 H3 μ3 l3 s3 p3 u ru => ?_)
  cases z with
  | r n => exact p3.elim
  | d z =>
    cases z with
    | bl b =>
      have e : u = .bl b := by simpa [RelV', RelD] using ru
      refine ⟨b, e, ?_⟩
      cases b with
      | true =>
        rw [if_pos rfl]
        refine ⟨env, S3, μ3, (hE.mono (l1.trans l2) hS.is).mono l3 s2.is, s3, p3.bind.imp fun t S4 H4 μ4 l4 s4 p4 q rq => ?_⟩
        exact hd' y t S4 H4 μ4 w q Q s4 ((rw'.mono l3 s2.is).mono l4 s3.is) rq p4
      | false =>
        rw [if_neg Bool.false_ne_true]
        exact p3.at_ s3 _ (by simp [RelV', RelD])
    | _ => exact p3.elim
theorem de_chain {op op' : CmpOp} {r r' : R2} {o o' : Op2} {a b c : Expr} {f g h : DEf} (ho : OpR X (compareOp op) r) (ho' : OpR X (compareOp op') r') (hd : DOp W E r o) (hd' : DOp W E r' o') (ha : DE W E X a f) (hb : DE W E X b g) (hc : DE W E X c h)
    (hm : lastMarks [op, op'] [b, c] = false := by with_unfolding_all rfl) : DE W E X (.Compare a [op, op'] [b, c] pos) (dChain o o' f g h) :=
  (pe_chain ho ho' ha hb hc hm).imp (tE_chain hd hd')
theorem dt_chain {op op' : CmpOp} {r r' : R2} {o o' : Op2} {a b c : Expr} {f g h : DEf} (ho : OpR X (compareOp op) r) (ho' : OpR X (compareOp op') r') (hd : DOp W E r o) (hd' : DOp W E r' o') (ha : DE W E X a f) (hb : DE W E X b g) (hc : DE W E X c h)
    (hm : lastMarks [op, op'] [b, c] = false := by with_unfolding_all rfl) : DT W E X (.Compare a [op, op'] [b, c] pos) (dB (dChain o o' f g h)) :=
  (pt_chain ho ho' ha hb hc hm).imp fun σ H Q h => tE_chain hd hd' σ H _ (by obtain ⟨env, S, μ, hE, hS, hp⟩ := tE_test σ H Q h; exact ⟨env, S, μ, hE, hS, hp⟩)

/-! ### and, or, not, if -/
def dtAnd (f g : DTf) : DTf := fun env S => (f env S).bind fun b S1 => if b = true then g env S1 else .ok false S1
def dtOr (f g : DTf) : DTf := fun env S => (f env S).bind fun b S1 => if b = true then .ok true S1 else g env S1
def dtNot (f : DTf) : DTf := fun env S => (f env S).bind fun b S1 => .ok (!b) S1
variable {a b : Expr} {rest : List Expr} {f g : DTf}
theorem dw_and1 (ha : DT W E X a f) : DWt W E X (.BoolOp .And [a] pos) f := pw_and1 ha
theorem dw_or1 (ha : DT W E X a f) : DWt W E X (.BoolOp .Or [a] pos) f := pw_or1 ha
theorem dw_and (ha : DT W E X a f) (hb : DWt W E X (.BoolOp .And (b :: rest) pos) g) : DWt W E X (.BoolOp .And (a :: b :: rest) pos) (dtAnd f g) := (pw_and ha hb).imp fun σ H Q ⟨env, S, μ, hE, hS, hp⟩ => by
  refine ⟨env, S, μ, hE, hS, hp.bind.imp fun c S1 H1 μ1 l1 s1 p1 => ?_⟩
  show if c = true then _ else _
  cases c with
  | true => rw [if_pos rfl] at p1 ⊢; exact ⟨env, S1, μ1, hE.mono l1 hS.is, s1, p1⟩
  | false => rw [if_neg Bool.false_ne_true] at p1 ⊢; exact p1.at_ s1
theorem dw_or (ha : DT W E X a f) (hb : DWt W E X (.BoolOp .Or (b :: rest) pos) g) : DWt W E X (.BoolOp .Or (a :: b :: rest) pos) (dtOr f g) := (pw_or ha hb).imp fun σ H Q ⟨env, S, μ, hE, hS, hp⟩ => by
  refine ⟨env, S, μ, hE, hS, hp.bind.imp fun c S1 H1 μ1 l1 s1 p1 => ?_⟩
  show if c = true then _ else _
  cases c with
  | false => rw [if_neg Bool.false_ne_true] at p1 ⊢; exact ⟨env, S1, μ1, hE.mono l1 hS.is, s1, p1⟩
  | true => rw [if_pos rfl] at p1 ⊢; exact p1.at_ s1
theorem dt_w {e : Expr} (h : DWt W E X e f) : DT W E X e f := h.pt
theorem dt_not (ha : DT W E X a f) : DT W E X (.UnaryOp .Not a pos) (dtNot f) := (pt_not ha).imp fun σ H Q ⟨env, S, μ, hE, hS, hp⟩ =>
  ⟨env, S, μ, hE, hS, hp.bind.imp fun c S1 H1 μ1 l1 s1 p1 => p1.at_ s1⟩
variable {F G : DEf}
/-! .. as values -/
def dAnd (F G : DEf) : DEf := fun env S => (dB F env S).bind fun b S1 => if b = true then G env S1 else .ok (.d (.bl false)) S1
def dOr (F G : DEf) : DEf := fun env S => (dB F env S).bind fun b S1 => if b = true then .ok (.d (.bl true)) S1 else G env S1
def dNot (F : DEf) : DEf := fun env S => (dB F env S).bind fun b S1 => .ok (.d (.bl (!b))) S1
theorem de_one {op} (h : DE W E X a F) : DE W E X (.BoolOp op [a] pos) F := pe_one h
theorem dB_bind {k : Bool → Sto → Out Val} {env : Env} {S : Sto} {H : Hp} {μ : Mu} {Q : VK} {K : Val → Sto → Hp → Mu → Prop} (h : Post W E H μ ((dB F env S).bind k) K)
    (hk : ∀ c S1 H1 μ1, Le H μ H1 μ1 → RelS W H1 μ1 S1 → Post W E H1 μ1 (k c S1) K → Q (.bl c) H1) : Post W E H μ (F env S) (QV W Q) := by
  have h2 : Post W E H μ ((F env S).bind fun x S1 => (match x with | .d (.bl b) => (.ok b S1 : Out Bool) | _ => .bad).bind k) K := by
    unfold dB at h
    cases e : F env S with
    | ok x S1 => rw [e] at h; exact h
    | exc x S1 => rw [e] at h; exact h
    | bad => rw [e] at h; exact h
  refine h2.bind.imp fun x S1 H1 μ1 l1 s1 p1 v rv => ?_
  cases x with
  | r n => exact p1.elim
  | d x =>
    cases x with
    | bl b =>
      have e : v = .bl b := by simpa [RelV', RelD] using rv
      rw [e]
      exact hk b S1 H1 μ1 l1 s1 p1
    | _ => exact p1.elim
theorem de_and (ha : DE W E X a F) (hb : DE W E X (.BoolOp .And (b :: rest) pos) G) : DE W E X (.BoolOp .And (a :: b :: rest) pos) (dAnd F G) := (pe_and ha hb).imp fun σ H Q ⟨env, S, μ, hE, hS, hp⟩ => by
  refine ⟨env, S, μ, hE, hS, dB_bind (Q := fun x H1 => ∃ c, x = .bl c ∧ if c = true then tE W E G σ H1 Q else Q (.bl false) H1) hp fun c S1 H1 μ1 l1 s1 p1 => ⟨c, rfl, ?_⟩⟩
  cases c with
  | true => rw [if_pos rfl] at p1 ⊢; exact ⟨env, S1, μ1, hE.mono l1 hS.is, s1, p1⟩
  | false => rw [if_neg Bool.false_ne_true] at p1 ⊢; exact p1.at_ s1 _ (by simp [RelV', RelD])
theorem de_or (ha : DE W E X a F) (hb : DE W E X (.BoolOp .Or (b :: rest) pos) G) : DE W E X (.BoolOp .Or (a :: b :: rest) pos) (dOr F G) := (pe_or ha hb).imp fun σ H Q ⟨env, S, μ, hE, hS, hp⟩ => by
  refine ⟨env, S, μ, hE, hS, dB_bind (Q := fun x H1 => ∃ c, x = .bl c ∧ if c = true then Q (.bl true) H1 else tE W E G σ H1 Q) hp fun c S1 H1 μ1 l1 s1 p1 => ⟨c, rfl, ?_⟩⟩
  cases c with
  | false => rw [if_neg Bool.false_ne_true] at p1 ⊢; exact ⟨env, S1, μ1, hE.mono l1 hS.is, s1, p1⟩
  | true => rw [if_pos rfl] at p1 ⊢; exact p1.at_ s1 _ (by simp [RelV', RelD])
theorem de_not (ha : DE W E X a F) : DE W E X (.UnaryOp .Not a pos) (dNot F) := (pe_not ha).imp fun σ H Q ⟨env, S, μ, hE, hS, hp⟩ =>
  ⟨env, S, μ, hE, hS, dB_bind (Q := fun x H1 => ∃ c, x = .bl c ∧ Q (.bl (!c)) H1) hp fun c S1 H1 μ1 l1 s1 p1 => ⟨c, rfl, p1.at_ s1 _ (by simp [RelV', RelD])⟩⟩
def dIf (f : DTf) (F G : DEf) : DEf := fun env S => (f env S).bind fun b S1 => if b = true then F env S1 else G env S1
theorem de_if {c : Expr} (hc : DT W E X c f) (ha : DE W E X a F) (hb : DE W E X b G) : DE W E X (.IfExp c a b pos) (dIf f F G) := (pe_ifExp hc ha hb).imp fun σ H Q ⟨env, S, μ, hE, hS, hp⟩ => by
  refine ⟨env, S, μ, hE, hS, hp.bind.imp fun c S1 H1 μ1 l1 s1 p1 => ?_⟩
  show if c = true then _ else _
  cases c with
  | true => rw [if_pos rfl] at p1 ⊢; exact ⟨env, S1, μ1, hE.mono l1 hS.is, s1, p1⟩
  | false => rw [if_neg Bool.false_ne_true] at p1 ⊢; exact ⟨env, S1, μ1, hE.mono l1 hS.is, s1, p1⟩
/-- any value's truth as a test (bools) -/
theorem dt_val (ha : DE W E X a F) (he : ∀ whole, isTrue a X.env whole = (do let v ← whole; standAt a.pos; holding [v] (truthy v)) := by intro _; rfl) : DT W E X a (dB F) :=
  (pt_val ha he).imp fun σ H Q h => tE_test σ H Q h

/-! ### argument lists -/
def dNil : DAf := fun _ S => .ok [] S
def dCons (F : DEf) (As : DAf) : DAf := fun env S => (F env S).bind fun x S1 => (As env S1).bind fun xs S2 => .ok (x :: xs) S2
theorem da_nil : DA W E X [] dNil := pa_nil.imp fun σ H Q ⟨env, S, μ, hE, hS, hp⟩ => hp.at_ hS [] rfl
theorem da_cons {e : Expr} {es : List Expr} {As : DAf} (ha : DE W E X e F) (hr : DA W E X es As) (hs : starEach (e :: es) X.env = (false, eval e X.env) :: starEach es X.env := by rfl) : DA W E X (e :: es) (dCons F As) :=
  (pa_cons ha hr hs).imp fun σ H Q ⟨env, S, μ, hE, hS, hp⟩ => by
    refine ⟨env, S, μ, hE, hS, hp.bind.imp fun x S1 H1 μ1 l1 s1 p1 v rv => ?_⟩
    refine ⟨env, S1, μ1, hE.mono l1 hS.is, s1, p1.bind.imp fun xs S2 H2 μ2 l2 s2 p2 vs rvs => ?_⟩
    exact p2.at_ s2 _ ⟨v, vs, rfl, rv.mono l2 s1.is, rvs⟩
/-- a call of something with values -/
abbrev Opn := List Val → Sto → Out Val
def DCall (W : Wd) (E : XK) (r : List V → Hp → VK → Prop) (o : Opn) : Prop := ∀ (xs : List Val) (S : Sto) (H : Hp) (μ : Mu) (vs : List V) (Q : VK), RelS W H μ S → RelVs W H μ xs vs → Post W E H μ (o xs S) (QV W Q) → r vs H Q
def dCall (o : Opn) (As : DAf) : DEf := fun env S => (As env S).bind fun xs S1 => o xs S1
theorem tE_call {r : List V → Hp → VK → Prop} {o : Opn} {As : DAf} (hd : DCall W E r o) (σ : L2.St) (H : Hp) (Q : VK) (h : tE W E (dCall o As) σ H Q) : tA W E As σ H fun vs H1 => r vs H1 Q := by
  obtain ⟨env, S, μ, hE, hS, hp⟩ := h
  exact ⟨env, S, μ, hE, hS, hp.bind.imp fun xs S1 H1 μ1 l1 s1 p1 vs rvs => hd xs S1 H1 μ1 vs Q s1 rvs p1⟩
end
end Dn
set_option Elab.async false
set_option linter.all false
set_option maxRecDepth 100000
set_option maxHeartbeats 4000000
/-! a tuple times 0, times 1 -/
namespace Dn
open PySem PySem.Spec PyProof.Rows L2
theorem tuple_mul1 (l : Addr) (items : Array Value) (n : Nat) (dd : Option Addr) (sl : Array (Option Value)) (u : Tok) :
    Meets (Builtin.«tuple.__mul__» ⟨[.ref l, .int 1 u], []⟩) (fun _ R s => s.heap.get? l = some { cls := .type "tuple", dict := dd, data := .seq items n, slots := sl } ∧ R (.ok (.ret (Value.ref l))) s) :=
  .of_wp fun prog w A R s h => by
    obtain ⟨hp, g, d, tk, os⟩ := s
    obtain ⟨hl, h⟩ := h
    have f1 := AutoSeq1.idx_int
    wp_walk using wpAny_loadPart' hl
    exact ⟨_, rfl, h⟩
theorem tuple_mul0 (l : Addr) (items : Array Value) (n : Nat) (dd : Option Addr) (sl : Array (Option Value)) (u : Tok) (hne : items.isEmpty = false) :
    Meets (Builtin.«tuple.__mul__» ⟨[.ref l, .int 0 u], []⟩) (fun _ R s => s.heap.get? l = some { cls := .type "tuple", dict := dd, data := .seq items n, slots := sl } ∧
      R (.ok (.ret (Value.ref s.heap.objs.size))) { s with heap := s.heap.push { cls := Value.type "tuple", data := Data.seq #[] }, toks := s.toks }) :=
  .of_wp fun prog w A R s h => by
    obtain ⟨hp, g, d, tk, os⟩ := s
    obtain ⟨hl, h⟩ := h
    have f1 := AutoSeq1.idx_int
    wp_walk using wpAny_loadPart' hl
    repeat (first
      | (refine wpAny_ite_false (decide_eq_false (by rw [hne]; decide)) ?_; wp_walk using wpAny_loadPart' hl)
      | (refine wpAny_ite_true (decide_eq_true (by simp)) ?_; wp_walk using wpAny_loadPart' hl))
    exact ⟨_, rfl, h⟩
def rRep1 (K : PySem.W.Frag) : R2 := fun x y H Q => ∃ l xs, x = .ref l ∧ y = .int 1 ∧ SqT K H l xs ∧ Q (.ref l) H
def rRep0 (K : PySem.W.Frag) : R2 := fun x y H Q => ∃ l xs, x = .ref l ∧ y = .int 0 ∧ SqT K H l xs ∧ xs ≠ [] ∧ ∀ p, H p = none → Q (.ref p) (upd H p (.tup []))
section
variable {X : Cx}
theorem op_rep1 : OpR X (binaryOp .Mult) (rRep1 X.K) := by
  intro pins s σ H x y v u Q I rx ry h
  obtain ⟨l, xs, rfl, rfl, hT, q⟩ := h
  cases rx
  obtain ⟨t, rfl⟩ := ry
  obtain ⟨its, r, ⟨⟨cls, dd, data, sl⟩, ho, hc, n, hd⟩, hs⟩ := I.tuple hT
  simp only at hc hd
  subst hc hd
  refine wpAny_binaryOp_repeat_ref (T := "tuple") (U := "int") (by decide) ⟨_, ho, rfl⟩ (fun s' => typeIs_int s' 1 t) noFill_tuple_mul F.fills_int_mul F.slot_int_rmul repeat_tuple F.slot_int_index.lookup
    (call_meets F.slot_int_rmul (typeIs_int s 1 t) F.entry_int_rmul (F.args_int_rmul_2 _ _) (int_rmul_tuple 1 t l its.toArray n dd sl)
      ⟨ho, rfl, ⟨_, ho, rfl⟩, call_meets F.slot_tuple_mul ⟨_, ho, rfl⟩ F.entry_tuple_mul (F.args_tuple_mul_2 _ _) (tuple_mul1 l its.toArray n dd sl t) ⟨ho, ?_⟩⟩)
  exact ⟨.ref l, _, I, rfl, q⟩
theorem op_rep0 : OpR X (binaryOp .Mult) (rRep0 X.K) := by
  intro pins s σ H x y v u Q I rx ry h
  obtain ⟨l, xs, rfl, rfl, hT, hne, q⟩ := h
  cases rx
  obtain ⟨t, rfl⟩ := ry
  obtain ⟨its, r, ⟨⟨cls, dd, data, sl⟩, ho, hc, n, hd⟩, hs⟩ := I.tuple hT
  simp only at hc hd
  subst hc hd
  have hn : its ≠ [] := fun e => hne (by
    have hle : its.length = xs.length := r.length.symm
    rw [e] at hle
    exact List.eq_nil_of_length_eq_zero hle.symm)
  have hi : its.toArray.isEmpty = false := by
    cases its with
    | nil => exact absurd rfl hn
    | cons a b => rfl
  refine wpAny_binaryOp_repeat_ref (T := "tuple") (U := "int") (by decide) ⟨_, ho, rfl⟩ (fun s' => typeIs_int s' 0 t) noFill_tuple_mul F.fills_int_mul F.slot_int_rmul repeat_tuple F.slot_int_index.lookup
    (call_meets F.slot_int_rmul (typeIs_int s 0 t) F.entry_int_rmul (F.args_int_rmul_2 _ _) (int_rmul_tuple 0 t l its.toArray n dd sl)
      ⟨ho, rfl, ⟨_, ho, rfl⟩, call_meets F.slot_tuple_mul ⟨_, ho, rfl⟩ F.entry_tuple_mul (F.args_tuple_mul_2 _ _) (tuple_mul0 l its.toArray n dd sl t hi) ⟨ho, ?_⟩⟩)
  refine ⟨.ref s.heap.objs.size, _, I.laid (t' := s.toks) (o := .tup []) (fun b ob q => Heap.get?_push_of_some _ q) (Nat.le_refl _) ?_, rfl, q _ (I.hok.fresh (Nat.le_refl _))⟩
  exact ⟨by rw [sizeLine_eq]; decide, [], .nil, IsTup.new _ _⟩
end
end Dn
set_option Elab.async false
set_option linter.all false
set_option maxRecDepth 100000
set_option maxHeartbeats 4000000
/-! ### operators on data -/
namespace Dn
open PySem PySem.Spec PyProof.Rows L2 GxR

abbrev szL : Nat := 16777216
theorem szL_eq : sizeLine = szL := sizeLine_eq
/-- the items of a list, wherever it stands -/
def seqL (x : Val) (S : Sto) : Option (List D) := match x with
  | .d (.lst ds) => some ds
  | .d (.con ds) => some ds
  | .r n => (match S[n]? with | some (.lst ds) => some ds | _ => none)
  | _ => none
/-- of a list that is tracked -/
def trkL (x : Val) (S : Sto) : Option (List D) := match x with
  | .d (.lst ds) => some ds
  | .r n => (match S[n]? with | some (.lst ds) => some ds | _ => none)
  | _ => none
def seqT (x : Val) : Option (List D) := match x with
  | .d (.tup ds) => some ds
  | _ => none
section
variable {W : Wd} {E : XK} {H : Hp} {μ : Mu} {S : Sto}
theorem cell_rel {n : Nat} {ds : List D} {v : V} (s : RelS W H μ S) (h : RelV' W H μ (.r n) v) (e : S[n]? = some (.lst ds)) : ∃ a vs, v = .ref a ∧ μ[n]? = some (some a) ∧ H a = some (.lst vs) ∧ RelDs W H μ ds vs := by
  have hn : n < μ.length := by rw [← s.len]; exact (List.getElem?_eq_some_iff.mp e).1
  have e1 : μ[n]? = some μ[n] := List.getElem?_eq_getElem hn
  obtain ⟨a, vs, e2, e3, r⟩ := s.cell n _ _ e e1
  rw [e2] at e1
  simp only [RelV', e1] at h
  exact ⟨a, vs, h, e1, e3, r⟩
theorem trkL_rel {x : Val} {ds : List D} {v : V} (s : RelS W H μ S) (h : RelV' W H μ x v) (e : trkL x S = some ds) : ∃ a vs, v = .ref a ∧ H a = some (.lst vs) ∧ RelDs W H μ ds vs := by
  unfold trkL at e
  split at e
  · cases e
    simp only [RelV', RelD] at h
    obtain ⟨a, vs, e1, q, r⟩ := h
    exact ⟨a, vs, e1, q.2, r⟩
  · split at e
    · rename_i e1
      cases e
      obtain ⟨a, vs, h1, _, h2, h3⟩ := cell_rel s h e1
      exact ⟨a, vs, h1, h2, h3⟩
    · cases e
  · cases e
theorem seqL_rel {x : Val} {ds : List D} {v : V} (s : RelS W H μ S) (h : RelV' W H μ x v) (e : seqL x S = some ds) : ∃ a vs, v = .ref a ∧ SqL W.K H a vs ∧ RelDs W H μ ds vs := by
  unfold seqL at e
  split at e
  · cases e
    simp only [RelV', RelD] at h
    obtain ⟨a, vs, e1, q, r⟩ := h
    exact ⟨a, vs, e1, q.sq, r⟩
  · cases e
    simp only [RelV', RelD] at h
    obtain ⟨a, vs, e1, q, r⟩ := h
    exact ⟨a, vs, e1, q.sq, r⟩
  · split at e
    · rename_i e1
      cases e
      obtain ⟨a, vs, h1, _, h2, h3⟩ := cell_rel s h e1
      exact ⟨a, vs, h1, .inl (.inl h2), h3⟩
    · cases e
  · cases e
theorem seqT_rel {x : Val} {ds : List D} {v : V} (h : RelV' W H μ x v) (e : seqT x = some ds) : ∃ a vs, v = .ref a ∧ SqT W.K H a vs ∧ RelDs W H μ ds vs := by
  unfold seqT at e
  split at e
  · cases e
    simpa only [RelV', RelD] using h
  · cases e
theorem int_rel {i : Int} {v : V} (h : RelV' W H μ (.d (.int i)) v) : v = .int i := by simpa only [RelV', RelD] using h
theorem bl_rel {i : Bool} {v : V} (h : RelV' W H μ (.d (.bl i)) v) : v = .bl i := by simpa only [RelV', RelD] using h
theorem str_rel {i : Str} {v : V} (h : RelV' W H μ (.d (.str i)) v) : v = .str i := by simpa only [RelV', RelD] using h
theorem non_rel {v : V} (h : RelV' W H μ (.d .non) v) : v = .non := by simpa only [RelV', RelD] using h
theorem rel_int (i : Int) : RelV' W H μ (.d (.int i)) (.int i) := by simp only [RelV', RelD]
theorem rel_bl (i : Bool) : RelV' W H μ (.d (.bl i)) (.bl i) := by simp only [RelV', RelD]
theorem rel_str (i : Str) : RelV' W H μ (.d (.str i)) (.str i) := by simp only [RelV', RelD]
theorem rel_non : RelV' W H μ (.d .non) .non := by simp only [RelV', RelD]
/-- a new tuple of data -/
theorem post_tup {ds : List D} {vs : List V} {K : Val → Sto → Hp → Mu → Prop} {p : Addr} (h : Post W E H μ (.ok (.d (.tup ds)) S) K) (s : RelS W H μ S) (hp : H p = none) (r : RelDs W H μ ds vs) :
    K (.d (.tup ds)) S (upd H p (.tup vs)) μ ∧ RelV' W (upd H p (.tup vs)) μ (.d (.tup ds)) (.ref p) := by
  refine ⟨h _ _ (Le.new hp) (s.new hp), ?_⟩
  simp only [RelV', RelD]
  exact ⟨p, vs, rfl, .inl (.inl upd_same), RelDs.mono (Le.new hp) s.is ds vs r⟩
/-- a new list of data -/
theorem post_lst {ds : List D} {vs : List V} {K : Val → Sto → Hp → Mu → Prop} {p : Addr} (h : Post W E H μ (.ok (.d (.lst ds)) S) K) (s : RelS W H μ S) (hp : H p = none) (r : RelDs W H μ ds vs) :
    K (.d (.lst ds)) S (upd H p (.lst vs)) μ ∧ RelV' W (upd H p (.lst vs)) μ (.d (.lst ds)) (.ref p) := by
  refine ⟨h _ _ (Le.new hp) (s.new hp), ?_⟩
  simp only [RelV', RelD]
  exact ⟨p, vs, rfl, ⟨outM.new s.is hp, upd_same⟩, RelDs.mono (Le.new hp) s.is ds vs r⟩
/-- a new list as a place -/
theorem post_cell {ds : List D} {vs : List V} {K : Val → Sto → Hp → Mu → Prop} {p : Addr} (h : Post W E H μ (.ok (.r S.length) (S ++ [.lst ds])) K) (s : RelS W H μ S) (hp : H p = none) (r : RelDs W H μ ds vs) :
    K (.r S.length) (S ++ [.lst ds]) (upd H p (.lst vs)) (μ ++ [some p]) ∧ RelV' W (upd H p (.lst vs)) (μ ++ [some p]) (.r S.length) (.ref p) := by
  refine ⟨h _ _ (Le.push hp) (s.push hp r), ?_⟩
  simp only [RelV', s.len]
  simp

/-! ### ints -/
def oI (C : Int → Int → Bool) (g : Int → Int → D) : Op2 := fun x y S => match x, y with
  | .d (.int i), .d (.int j) => if C i j = true then .ok (.d (g i j)) S else .bad
  | _, _ => .bad
theorem dop_I {C : Int → Int → Bool} {C' : Int → Int → Prop} {g : Int → Int → D} {g' : Int → Int → V} (hc : ∀ i j, C i j = true → C' i j) (hg : ∀ i j H μ, RelD W H μ (g i j) (g' i j)) : DOp W E (rI C' g') (oI C g) := by
  intro x y S H μ v w Q s rx ry h
  unfold oI at h
  split at h
  · split at h
    · rename_i c
      exact ⟨_, _, int_rel rx, int_rel ry, hc _ _ c, h.at_ s _ (hg ..)⟩
    · exact h.elim
  · exact h.elim
abbrev cTrue : Int → Int → Bool := fun _ _ => true
theorem dop_I0 {g : Int → Int → D} {g' : Int → Int → V} (hg : ∀ i j H μ, RelD W H μ (g i j) (g' i j)) : DOp W E (rI0 g') (oI cTrue g) := by
  intro x y S H μ v w Q s rx ry h
  obtain ⟨i, j, e1, e2, _, q⟩ := dop_I (C := cTrue) (C' := fun _ _ => True) (fun _ _ _ => trivial) hg x y S H μ v w Q s rx ry h
  exact ⟨i, j, e1, e2, q⟩
def cMul : Int → Int → Bool := fun i j => decide (i.natAbs.log2 + j.natAbs.log2 < 1000000)
def cDiv : Int → Int → Bool := fun _ j => decide (j ≠ 0) && decide (j.natAbs.log2 < 9000)
def cMod : Int → Int → Bool := fun _ j => decide (j ≠ 0)
def cPow : Int → Int → Bool := fun i j => decide (0 ≤ j) && decide (j ≤ 1000000) && decide (i.natAbs < 2 ^ 64)
def oSub : Op2 := oI cTrue fun i j => .int (i - j)
def oDiv : Op2 := oI cDiv fun i j => .int (i.fdiv j)
def oMod : Op2 := oI cMod fun i j => .int (i.fmod j)
def oPow : Op2 := oI cPow fun i j => .int (i ^ j.toNat)
def oLt : Op2 := oI cTrue fun i j => .bl (decide (i < j))
def oLe : Op2 := oI cTrue fun i j => .bl (decide (i ≤ j))
def oGt : Op2 := oI cTrue fun i j => .bl (decide (j < i))
def oGe : Op2 := oI cTrue fun i j => .bl (decide (j ≤ i))
theorem op_fdivZ {X : Cx} : OpR X (binaryOp .FloorDiv) (rI (fun _ j => j ≠ 0 ∧ j.natAbs.log2 < 9000) fun i j => .int (i.fdiv j)) := opI fun i j _ _ _ _ _ hc q => floordiv_int hc.1 q (.inl (PyProof.noPylong_of_log2 hc.2))
theorem dop_sub : DOp W E (rI0 fun i j => .int (i - j)) oSub := dop_I0 fun _ _ _ _ => by simp [RelD]
theorem dop_div : DOp W E (rI (fun _ j => j ≠ 0 ∧ j.natAbs.log2 < 9000) fun i j => .int (i.fdiv j)) oDiv := dop_I (fun _ _ h => by simpa [cDiv] using h) fun _ _ _ _ => by simp [RelD]
theorem dop_mod : DOp W E (rI (fun _ j => j ≠ 0) fun i j => .int (i.fmod j)) oMod := dop_I (fun _ _ h => by simpa [cMod] using h) fun _ _ _ _ => by simp [RelD]
theorem dop_pow : DOp W E (rI CPow fun i j => .int (i ^ j.toNat)) oPow := dop_I (fun _ _ h => by simpa [cPow, CPow, and_assoc] using h) fun _ _ _ _ => by simp [RelD]
theorem dop_lt : DOp W E (rI0 fun i j => .bl (decide (i < j))) oLt := dop_I0 fun _ _ _ _ => by simp [RelD]
theorem dop_le : DOp W E (rI0 fun i j => .bl (decide (i ≤ j))) oLe := dop_I0 fun _ _ _ _ => by simp [RelD]
theorem dop_gt : DOp W E (rI0 fun i j => .bl (decide (j < i))) oGt := dop_I0 fun _ _ _ _ => by simp [RelD]
theorem dop_ge : DOp W E (rI0 fun i j => .bl (decide (j ≤ i))) oGe := dop_I0 fun _ _ _ _ => by simp [RelD]

/-! ### + -/
def oAdd : Op2 := fun x y S => match x, y with
  | .d (.int i), .d (.int j) => .ok (.d (.int (i + j))) S
  | .d (.tup a), .d (.tup b) => if a.length + b.length ≤ szL then .ok (.d (.tup (a ++ b))) S else .bad
  | .d (.str a), .d (.str b) => if a.length + b.length ≤ szL then .ok (.d (.str (a ++ b))) S else .bad
  | _, _ => match trkL x S, trkL y S with
    | some a, some b => if a.length + b.length ≤ szL then .ok (.d (.lst (a ++ b))) S else .bad
    | _, _ => .bad
def rAddA (K : PySem.W.Frag) : R2 := fun x y H Q => rI0 (fun i j => .int (i + j)) x y H Q ∨ rCatA K x y H Q ∨ (∃ i j, x = .str i ∧ y = .str j ∧ i.length + j.length ≤ sizeLine ∧ Q (.str (i ++ j)) H) ∨ rCat x y H Q
theorem op_addA {X : Cx} : OpR X (binaryOp .Add) (rAddA X.K) := op_add.or (op_catA.or (op_add_str.or op_cat))
theorem dop_add : DOp W E (rAddA W.K) oAdd := by
  intro x y S H μ v w Q s rx ry h
  unfold oAdd at h
  split at h
  · exact .inl ⟨_, _, int_rel rx, int_rel ry, h.at_ s _ (rel_int _)⟩
  · rename_i a b
    split at h
    · rename_i hz
      obtain ⟨p, vs, rfl, q1, r1⟩ := seqT_rel rx rfl
      obtain ⟨p', ws, rfl, q2, r2⟩ := seqT_rel ry rfl
      refine .inr (.inl ⟨p, p', vs, ws, rfl, rfl, q1, q2, by rw [← r1.length, ← r2.length, szL_eq]; exact hz, fun e => ?_, fun e1 e2 => ?_, fun e1 e2 c hc => ?_⟩)
      · have ea : a = [] := List.length_eq_zero_iff.mp (by rw [r1.length, e]; rfl)
        refine h.at_ s _ ?_
        rw [ea]; exact ry
      · have eb : b = [] := List.length_eq_zero_iff.mp (by rw [r2.length, e2]; rfl)
        refine h.at_ s _ ?_
        rw [eb, List.append_nil]; exact rx
      · obtain ⟨k, r⟩ := post_tup h s hc (r1.append r2)
        exact k _ r
    · exact h.elim
  · split at h
    · rename_i hz
      exact .inr (.inr (.inl ⟨_, _, str_rel rx, str_rel ry, by rw [szL_eq]; exact hz, h.at_ s _ (rel_str _)⟩))
    · exact h.elim
  · split at h
    · rename_i a b e1 e2
      split at h
      · rename_i hz
        obtain ⟨p, vs, rfl, q1, r1⟩ := trkL_rel s rx e1
        obtain ⟨p', ws, rfl, q2, r2⟩ := trkL_rel s ry e2
        refine .inr (.inr (.inr ⟨p, p', vs, ws, rfl, rfl, q1, q2, by rw [← r1.length, ← r2.length, szL_eq]; exact hz, fun c hc => ?_⟩))
        obtain ⟨k, r⟩ := post_lst h s hc (r1.append r2)
        exact k _ r
      · exact h.elim
    · exact h.elim

/-! ### * -/
def oMul : Op2 := fun x y S => match x, y with
  | .d (.int i), .d (.int j) => if cMul i j = true then .ok (.d (.int (i * j))) S else .bad
  | .d (.tup a), .d (.int k) => if a ≠ [] ∧ ((2 ≤ k ∧ k ≤ 1000 ∧ a.length ≤ 1000) ∨ k = 0 ∨ k = 1) then .ok (.d (.tup (List.replicate k.toNat a).flatten)) S else .bad
  | _, _ => .bad
def rMulA (K : PySem.W.Frag) : R2 := fun x y H Q => rI CMulW (fun i j => .int (i * j)) x y H Q ∨ rRepT K x y H Q ∨ rRep1 K x y H Q ∨ rRep0 K x y H Q
theorem op_mulA {X : Cx} : OpR X (binaryOp .Mult) (rMulA X.K) := op_mulW.or (op_repT.or (op_rep1.or op_rep0))
theorem dop_mul : DOp W E (rMulA W.K) oMul := by
  intro x y S H μ v w Q s rx ry h
  unfold oMul at h
  split at h
  · split at h
    · rename_i c
      exact .inl ⟨_, _, int_rel rx, int_rel ry, by simpa [cMul, CMulW] using c, h.at_ s _ (rel_int _)⟩
    · exact h.elim
  · split at h
    · rename_i c
      obtain ⟨p, vs, rfl, q1, r1⟩ := seqT_rel rx rfl
      have ne : vs ≠ [] := fun e => c.1 (List.length_eq_zero_iff.mp (by rw [r1.length, e]; rfl))
      rcases c.2 with c2 | rfl | rfl
      · refine .inr (.inl ⟨p, _, vs, rfl, int_rel ry, q1, ne, c2.1, c2.2.1, by rw [← r1.length]; exact c2.2.2, fun l hl => ?_⟩)
        obtain ⟨k, r⟩ := post_tup h s hl (r1.rep _)
        exact k _ r
      · refine .inr (.inr (.inr ⟨p, vs, rfl, int_rel ry, q1, ne, fun l hl => ?_⟩))
        have r0 := r1.rep 0
        obtain ⟨k, r⟩ := post_tup h s hl r0
        exact k _ r
      · refine .inr (.inr (.inl ⟨p, vs, rfl, int_rel ry, q1, ?_⟩))
        refine h.at_ s _ ?_
        simp only [RelV', RelD]
        exact ⟨p, vs, rfl, q1, by simpa using r1⟩
    · exact h.elim
  · exact h.elim

/-! ### ==, != -/
mutual
def D.py : D → Option PyData
  | .non => some .none
  | .bl b => some (.bool b)
  | .int i => some (.int i)
  | .str x => some (.str x)
  | .tup ds => (pys ds).map .tuple
  | .lst ds => (pys ds).map .list
  | .con ds => (pys ds).map .list
  | .dic => none
  | .obj _ _ => none
def pys : List D → Option (List PyData)
  | [] => some []
  | d :: ds => match D.py d, pys ds with
    | some p, some ps => some (p :: ps)
    | _, _ => none
end
def pyV (x : Val) (S : Sto) : Option PyData := match x with
  | .d d => d.py
  | .r n => (match S[n]? with | some (.lst ds) => (pys ds).map .list | _ => none)
mutual
theorem dp_of : ∀ (d : D) (v : V) (p : PyData), RelD W H μ d v → d.py = some p → Dp W.K H v p
  | .non, v, p, h, e => by simp only [RelD] at h; simp only [D.py] at e; cases e; rw [h]; exact .non
  | .bl b, v, p, h, e => by simp only [RelD] at h; simp only [D.py] at e; cases e; rw [h]; exact .bl b
  | .int b, v, p, h, e => by simp only [RelD] at h; simp only [D.py] at e; cases e; rw [h]; exact .int b
  | .str b, v, p, h, e => by simp only [RelD] at h; simp only [D.py] at e; cases e; rw [h]; exact .str b
  | .tup ds, v, p, h, e => by
    simp only [RelD] at h
    obtain ⟨a, vs, rfl, q, r⟩ := h
    simp only [D.py] at e
    cases k : pys ds with
    | none => rw [k] at e; cases e
    | some ps => rw [k] at e; cases e; exact .tup q (dps_of ds vs ps r k)
  | .lst ds, v, p, h, e => by
    simp only [RelD] at h
    obtain ⟨a, vs, rfl, q, r⟩ := h
    simp only [D.py] at e
    cases k : pys ds with
    | none => rw [k] at e; cases e
    | some ps => rw [k] at e; cases e; exact .lst q.sq (dps_of ds vs ps r k)
  | .con ds, v, p, h, e => by
    simp only [RelD] at h
    obtain ⟨a, vs, rfl, q, r⟩ := h
    simp only [D.py] at e
    cases k : pys ds with
    | none => rw [k] at e; cases e
    | some ps => rw [k] at e; cases e; exact .lst q.sq (dps_of ds vs ps r k)
  | .dic, v, p, h, e => by simp only [D.py] at e; cases e
  | .obj _ _, v, p, h, e => by simp only [D.py] at e; cases e
theorem dps_of : ∀ (ds : List D) (vs : List V) (ps : List PyData), RelDs W H μ ds vs → pys ds = some ps → DpAll W.K H vs ps
  | [], vs, ps, h, e => by simp only [RelDs] at h; simp only [pys] at e; cases e; rw [h]; exact .nil
  | d :: ds, vs, ps, h, e => by
    simp only [RelDs] at h
    obtain ⟨v, r, rfl, h1, h2⟩ := h
    simp only [pys] at e
    cases k1 : d.py with
    | none => rw [k1] at e; cases e
    | some p =>
      cases k2 : pys ds with
      | none => rw [k1, k2] at e; cases e
      | some qs => rw [k1, k2] at e; cases e; exact .cons (dp_of d v p h1 k1) (dps_of ds r qs h2 k2)
end
theorem pyV_rel {x : Val} {v : V} {p : PyData} (s : RelS W H μ S) (h : RelV' W H μ x v) (e : pyV x S = some p) : Dp W.K H v p := by
  cases x with
  | d d => exact dp_of d v p h e
  | r n =>
    unfold pyV at e
    dsimp only at e
    split at e
    · rename_i ds e1
      obtain ⟨a, vs, rfl, _, h2, h3⟩ := cell_rel s h e1
      cases k : pys ds with
      | none => rw [k] at e; cases e
      | some ps => rw [k] at e; cases e; exact .lst (.inl (.inl h2)) (dps_of ds vs ps h3 k)
    · cases e
def oEqB (neg : Bool) : Op2 := fun x y S => match x, y with
  | .d (.str a), .d (.str b) => .ok (.d (.bl (xor neg (decide (a = b))))) S
  | .d (.int a), .d (.int b) => .ok (.d (.bl (xor neg (decide (a = b))))) S
  | _, _ => match pyV x S, pyV y S with
    | some d, some e => if SeqAt.shaped d && SeqAt.shaped e then .ok (.d (.bl (xor neg (PyData.eqv d e)))) S else .bad
    | _, _ => .bad
abbrev oEq : Op2 := oEqB false
abbrev oNe : Op2 := oEqB true
def rEqA (K : PySem.W.Frag) : R2 := fun x y H Q => rEq x y H Q ∨ rEqD K x y H Q
def rNeA (K : PySem.W.Frag) : R2 := fun x y H Q => rNe x y H Q ∨ rNeD K x y H Q
theorem op_eqA {X : Cx} (hu : X.A.units + 64 < cLine) : OpR X (compareOp .Eq) (rEqA X.K) := op_eq.or (op_eqD hu)
theorem op_neA {X : Cx} (hu : X.A.units + 64 < cLine) : OpR X (compareOp .NotEq) (rNeA X.K) := op_ne.or (op_neD hu)
theorem dop_eq : DOp W E (rEqA W.K) oEq := by
  intro x y S H μ v w Q s rx ry h
  unfold oEq oEqB at h
  split at h
  · rename_i a b
    have := h.at_ s _ (rel_bl _)
    exact .inl ⟨by rw [str_rel rx, str_rel ry]; rfl, by rw [str_rel rx, str_rel ry]; simpa using this⟩
  · rename_i a b
    have := h.at_ s _ (rel_bl _)
    exact .inl ⟨by rw [int_rel rx, int_rel ry]; rfl, by rw [int_rel rx, int_rel ry]; simpa using this⟩
  · refine .inr ?_
    split at h
    · rename_i d e e1 e2
      split at h
      · rename_i c
        rw [Bool.and_eq_true] at c
        refine ⟨d, e, pyV_rel s rx e1, pyV_rel s ry e2, c.1, c.2, ?_⟩
        have := h.at_ s _ (rel_bl _)
        simpa using this
      · exact h.elim
    · exact h.elim
theorem dop_ne : DOp W E (rNeA W.K) oNe := by
  intro x y S H μ v w Q s rx ry h
  unfold oNe oEqB at h
  split at h
  · rename_i a b
    have := h.at_ s _ (rel_bl _)
    exact .inl ⟨by rw [str_rel rx, str_rel ry]; rfl, by rw [str_rel rx, str_rel ry]; simpa using this⟩
  · rename_i a b
    have := h.at_ s _ (rel_bl _)
    exact .inl ⟨by rw [int_rel rx, int_rel ry]; rfl, by rw [int_rel rx, int_rel ry]; simpa using this⟩
  · refine .inr ?_
    split at h
    · rename_i d e e1 e2
      split at h
      · rename_i c
        rw [Bool.and_eq_true] at c
        refine ⟨d, e, pyV_rel s rx e1, pyV_rel s ry e2, c.1, c.2, ?_⟩
        have := h.at_ s _ (rel_bl _)
        simpa using this
      · exact h.elim
    · exact h.elim

/-! ### a[i] -/
def oIx : Op2 := fun x y S => match y with
  | .d (.int i) => (match x with
    | .d (.tup ds) => (match atI ds i with | some d => .ok (.d d) S | none => .bad)
    | .d (.str z) => if z.length ≤ szL then (match atI z.cps.toList i with | some c => .ok (.d (.str ⟨#[c]⟩)) S | none => .bad) else .bad
    | _ => (match seqL x S with
      | some ds => (match atI ds i with | some d => .ok (.d d) S | none => .bad)
      | none => .bad))
  | _ => .bad
theorem RelDs.atI {ds : List D} {vs : List V} {i : Int} {d : D} (h : RelDs W H μ ds vs) (e : L2.atI ds i = some d) : ∃ v, L2.atI vs i = some v ∧ RelD W H μ d v := by
  unfold L2.atI at e ⊢
  rw [← h.length]
  cases k : ixN ds.length i with
  | none => rw [k] at e; cases e
  | some j =>
    rw [k] at e
    simp only [Option.bind_some] at e ⊢
    exact h.get e
theorem dop_ix : DOp W E (rIx W.K) oIx := by
  intro x y S H μ v w Q s rx ry h
  unfold oIx at h
  split at h
  · rename_i i
    have hw := int_rel ry
    split at h
    · split at h
      · rename_i d e
        obtain ⟨p, vs, rfl, q1, r1⟩ := seqT_rel rx rfl
        obtain ⟨u, e2, r2⟩ := r1.atI e
        exact .inr (.inl ⟨p, vs, i, u, rfl, hw, q1, e2, h.at_ s _ r2⟩)
      · exact h.elim
    · split at h
      · rename_i hz
        split at h
        · rename_i c e
          exact .inr (.inr ⟨_, i, c, str_rel rx, hw, by rw [szL_eq]; exact hz, e, h.at_ s _ (rel_str _)⟩)
        · exact h.elim
      · exact h.elim
    · split at h
      · rename_i ds e0
        split at h
        · rename_i d e
          obtain ⟨p, vs, rfl, q1, r1⟩ := seqL_rel s rx e0
          obtain ⟨u, e2, r2⟩ := r1.atI e
          exact .inl ⟨p, vs, i, u, rfl, hw, q1, e2, h.at_ s _ r2⟩
        · exact h.elim
      · exact h.elim
  · exact h.elim
end
section
variable {W : Wd} {E : XK} {X : Cx} {pos : Pos} {a b : Expr} {f g : DEf}
theorem opr_K {F : Value → Value → Sem Value} {r : PySem.W.Frag → R2} (hK : X.K = W.K) (h : OpR X F (r X.K)) : OpR X F (r W.K) := hK ▸ h
theorem de_add (hK : X.K = W.K) (ha : DE W E X a f) (hb : DE W E X b g) : DE W E X (.BinOp a .Add b pos) (dOp oAdd f g) := de_op (opr_K hK op_addA) dop_add ha hb
theorem de_sub (ha : DE W E X a f) (hb : DE W E X b g) : DE W E X (.BinOp a .Sub b pos) (dOp oSub f g) := de_op op_sub dop_sub ha hb
theorem de_mul (hK : X.K = W.K) (ha : DE W E X a f) (hb : DE W E X b g) : DE W E X (.BinOp a .Mult b pos) (dOp oMul f g) := de_op (opr_K hK op_mulA) dop_mul ha hb
theorem de_div (ha : DE W E X a f) (hb : DE W E X b g) : DE W E X (.BinOp a .FloorDiv b pos) (dOp oDiv f g) := de_op op_fdivZ dop_div ha hb
theorem de_mod (ha : DE W E X a f) (hb : DE W E X b g) : DE W E X (.BinOp a .Mod b pos) (dOp oMod f g) := de_op op_modN dop_mod ha hb
theorem de_pow (ha : DE W E X a f) (hb : DE W E X b g) : DE W E X (.BinOp a .Pow b pos) (dOp oPow f g) := de_op L2.op_pow dop_pow ha hb
theorem de_ix (hK : X.K = W.K) (ha : DE W E X a f) (hb : DE W E X b g) (hs : PlainIx b) : DE W E X (.Subscript a b pos) (dOp oIx f g) := (pe_ix (hK ▸ ix_seq) ha hb hs).imp (tE_op dop_ix)
end
end Dn
set_option Elab.async false
set_option linter.all false
set_option maxRecDepth 100000
set_option maxHeartbeats 4000000
/-! ### slices, displays, is, in, built-in functions -/
namespace Dn
open PySem PySem.Spec PyProof.Rows L2 GxR

section
variable {W : Wd} {E : XK} {H : Hp} {μ : Mu} {S : Sto}
/-! ### unary minus -/
def oNeg : Val → Sto → Out Val := fun x S => match x with
  | .d (.int i) => .ok (.d (.int (-i))) S
  | _ => .bad
def dUn (o : Val → Sto → Out Val) (f : DEf) : DEf := fun env S => (f env S).bind fun x S1 => o x S1
theorem de_neg {X : Cx} {a : Expr} {f : DEf} {pos : Pos} (ha : DE W E X a f) : DE W E X (.UnaryOp .USub a pos) (dUn oNeg f) := (pe_un un_neg ha).imp fun σ H Q ⟨env, S, μ, hE, hS, hp⟩ =>
  ⟨env, S, μ, hE, hS, hp.bind.imp fun x S1 H1 μ1 l1 s1 p1 v rv => by
    unfold oNeg at p1
    split at p1
    · exact ⟨_, int_rel rv, p1.at_ s1 _ (rel_int _)⟩
    · exact p1.elim⟩
/-! ### slices -/
abbrev DOf := Env → Sto → Out (Option Int)
def tO (W : Wd) (E : XK) (f : DOf) : TO := fun σ H Q => ∃ env S μ, RelE W H μ env σ ∧ RelS W H μ S ∧ Post W E H μ (f env S) fun o _ H' _ => Q o H'
abbrev DO' (W : Wd) (E : XK) (X : Cx) (e : Option Expr) (f : DOf) : Prop := PO X e (tO W E f)
theorem _root_.L2.PO.imp {X : Cx} {e : Option Expr} {t t' : TO} (h : PO X e t) (hi : ∀ σ H Q, t' σ H Q → t σ H Q) : PO X e t' := ⟨fun pins s σ H Q I q => h.run pins s σ H Q I (hi σ H Q q)⟩
def dO0 : DOf := fun _ S => .ok none S
def dO1 (f : DEf) : DOf := fun env S => (f env S).bind fun x S1 => match x with
  | .d (.int i) => .ok (some i) S1
  | _ => .bad
theorem do_0 {X : Cx} : DO' W E X none dO0 := po_none.imp fun σ H Q ⟨env, S, μ, hE, hS, hp⟩ => hp.at_ hS
theorem do_1 {X : Cx} {a : Expr} {f : DEf} (ha : DE W E X a f) : DO' W E X (some a) (dO1 f) := (po_some ha).imp fun σ H Q ⟨env, S, μ, hE, hS, hp⟩ =>
  ⟨env, S, μ, hE, hS, hp.bind.imp fun x S1 H1 μ1 l1 s1 p1 v rv => by
    split at p1
    · exact ⟨_, int_rel rv, p1.at_ s1⟩
    · exact p1.elim⟩
def cutL {α : Type} (xs : List α) (lo hi : Option Int) : List α := (xs.drop (HT.sIx xs.length 0 lo)).take (HT.sIx xs.length xs.length hi - HT.sIx xs.length 0 lo)
theorem RelDs.cut {ds : List D} {vs : List V} (h : RelDs W H μ ds vs) (lo hi : Option Int) : RelDs W H μ (cutL ds lo hi) (cutV vs lo hi) := by
  unfold cutL cutV
  rw [← h.length]
  exact (h.drop _).take _
def oSl (x : Val) (lo hi : Option Int) (S : Sto) : Out Val := match x with
  | .d (.tup ds) => .ok (.d (.tup (cutL ds lo hi))) S
  | _ => match seqL x S with
    | some ds => .ok (.d (.lst (cutL ds lo hi))) S
    | none => .bad
def dSl (f : DEf) (lo hi : DOf) : DEf := fun env S => (f env S).bind fun x S1 => (lo env S1).bind fun l S2 => (hi env S2).bind fun h S3 => oSl x l h S3
theorem cut_whole {α : Type} {ds : List α} {lo hi : Option Int} (h1 : HT.sIx ds.length 0 lo = 0) (h2 : HT.sIx ds.length ds.length hi = ds.length) : cutL ds lo hi = ds := by
  unfold cutL
  rw [h1, h2]
  simp
theorem de_slice {X : Cx} {a : Expr} {lo hi : Option Expr} {f : DEf} {fl fh : DOf} {p2 pos : Pos} (hK : X.K = W.K) (ha : DE W E X a f) (hl : DO' W E X lo fl) (hh : DO' W E X hi fh) : DE W E X (.Subscript a (.Slice lo hi none p2) pos) (dSl f fl fh) := by
  have hr : SlR X (fun x lo hi H Q => rSlL W.K x lo hi H Q ∨ rSlA W.K x lo hi H Q) := hK ▸ sl_list.or sl_tupA
  refine (pe_slice hr ha hl hh).imp fun σ H Q ⟨env, S, μ, hE, hS, hp⟩ => ?_
  refine ⟨env, S, μ, hE, hS, hp.bind.imp fun x S1 H1 μ1 l1 s1 p1 v rv => ?_⟩
  refine ⟨env, S1, μ1, hE.mono l1 hS.is, s1, p1.bind.imp fun l S2 H2 μ2 l2 s2 p2 => ?_⟩
  refine ⟨env, S2, μ2, (hE.mono l1 hS.is).mono l2 s1.is, s2, p2.bind.imp fun u S3 H3 μ3 l3 s3 p3 => ?_⟩
  have rv3 := (rv.mono l2 s1.is).mono l3 s2.is
  unfold oSl at p3
  split at p3
  · rename_i ds
    obtain ⟨p, vs, rfl, q1, r1⟩ := seqT_rel rv3 rfl
    refine .inr ⟨p, vs, rfl, q1, fun hw => ?_, fun hw c hc => ?_⟩
    · rw [← r1.length] at hw
      rw [cut_whole hw.1 hw.2] at p3
      exact p3.at_ s3 _ rv3
    · obtain ⟨k, r⟩ := post_tup p3 s3 hc (r1.cut l u)
      exact k _ r
  · split at p3
    · rename_i ds e0
      obtain ⟨p, vs, rfl, q1, r1⟩ := seqL_rel s3 rv3 e0
      refine .inl ⟨p, vs, rfl, q1, fun c hc => ?_⟩
      obtain ⟨k, r⟩ := post_lst p3 s3 hc (r1.cut l u)
      exact k _ r
    · exact p3.elim
/-- xs[::-1] -/
def oRev : Val → Sto → Out Val := fun x S => match seqL x S with
  | some ds => .ok (.d (.lst ds.reverse)) S
  | none => .bad
theorem de_rev {X : Cx} {a : Expr} {f : DEf} {k : Nat} {p1 p2 p3 pos : Pos} (hK : X.K = W.K) (ha : DE W E X a f) : DE W E X (.Subscript a (.Slice none none (some (.UnaryOp .USub (.Constant (.int 1) k p1) p2)) p3) pos) (dUn oRev f) :=
  (pe_revL ha).imp fun σ H Q ⟨env, S, μ, hE, hS, hp⟩ => ⟨env, S, μ, hE, hS, hp.bind.imp fun x S1 H1 μ1 l1 s1 p1 v rv => by
    unfold oRev at p1
    split at p1
    · rename_i ds e0
      obtain ⟨p, vs, rfl, q1, r1⟩ := seqL_rel s1 rv e0
      refine ⟨p, vs, rfl, hK ▸ q1, fun c hc => ?_⟩
      obtain ⟨k, r⟩ := post_lst p1 s1 hc r1.reverse
      exact k _ r
    · exact p1.elim⟩

/-! ### displays -/
def datas : List Val → Option (List D)
  | [] => some []
  | .d x :: xs => (datas xs).map (x :: ·)
  | .r _ :: _ => none
theorem datas_rel : ∀ {xs : List Val} {vs : List V} {ds : List D}, RelVs W H μ xs vs → datas xs = some ds → RelDs W H μ ds vs
  | [], vs, ds, h, e => by
    simp only [datas] at e; cases e
    simp only [RelVs] at h
    simp only [RelDs]; exact h
  | .d x :: xs, vs, ds, h, e => by
    simp only [datas] at e
    simp only [RelVs] at h
    obtain ⟨v, r, rfl, h1, h2⟩ := h
    cases k : datas xs with
    | none => rw [k] at e; cases e
    | some es =>
      rw [k] at e; cases e
      simp only [RelDs]
      exact ⟨v, r, rfl, h1, datas_rel h2 k⟩
  | .r _ :: _, vs, ds, h, e => by simp only [datas] at e; cases e
theorem RelVs.length : ∀ {xs : List Val} {vs : List V}, RelVs W H μ xs vs → xs.length = vs.length
  | [], vs, h => by simp only [RelVs] at h; subst h; rfl
  | x :: xs, vs, h => by
    simp only [RelVs] at h
    obtain ⟨v, r, rfl, _, h2⟩ := h
    simp [RelVs.length h2]
theorem RelVs.mono {H' : Hp} {μ' : Mu} (l : Le H μ H' μ') (is : Is H μ) : ∀ {xs : List Val} {vs : List V}, RelVs W H μ xs vs → RelVs W H' μ' xs vs
  | [], vs, h => by simpa [RelVs] using h
  | x :: xs, vs, h => by
    simp only [RelVs] at h ⊢
    obtain ⟨v, r, e, h1, h2⟩ := h
    exact ⟨v, r, e, h1.mono l is, RelVs.mono l is h2⟩
theorem rel_one {x : Val} {vs : List V} (h : RelVs W H μ [x] vs) : ∃ v, vs = [v] ∧ RelV' W H μ x v := by
  simp only [RelVs] at h
  obtain ⟨v, r, rfl, h1, rfl⟩ := h
  exact ⟨v, rfl, h1⟩
theorem rel_two {x y : Val} {vs : List V} (h : RelVs W H μ [x, y] vs) : ∃ v w, vs = [v, w] ∧ RelV' W H μ x v ∧ RelV' W H μ y w := by
  simp only [RelVs] at h
  obtain ⟨v, r, rfl, h1, w, r', rfl, h2, rfl⟩ := h
  exact ⟨v, w, rfl, h1, h2⟩
def oTup : Opn := fun xs S => match datas xs with
  | some ds => if ds.length ≤ szL then .ok (.d (.tup ds)) S else .bad
  | none => .bad
def oLst : Opn := fun xs S => match datas xs with
  | some ds => if ds.length ≤ szL then .ok (.d (.lst ds)) S else .bad
  | none => .bad
def oCell : Opn := fun xs S => match datas xs with
  | some ds => if ds.length ≤ szL then .ok (.r S.length) (S ++ [.lst ds]) else .bad
  | none => .bad
variable {X : Cx} {pos : Pos} {es : List Expr} {As : DAf}
theorem de_tup {x1} (ha : DA W E X es As) : DE W E X (.Tuple es x1 pos) (dCall oTup As) := (pe_tup ha).imp fun σ H Q ⟨env, S, μ, hE, hS, hp⟩ =>
  ⟨env, S, μ, hE, hS, hp.bind.imp fun xs S1 H1 μ1 l1 s1 p1 vs rvs => by
    unfold oTup at p1
    split at p1
    · rename_i ds e0
      split at p1
      · rename_i hz
        have r := datas_rel rvs e0
        exact ⟨by rw [← r.length, szL_eq]; exact hz, fun c hc => let ⟨k, q⟩ := post_tup p1 s1 hc r; k _ q⟩
      · exact p1.elim
    · exact p1.elim⟩
theorem de_lst (ha : DA W E X es As) : DE W E X (.List es pos) (dCall oLst As) := (pe_lst ha).imp fun σ H Q ⟨env, S, μ, hE, hS, hp⟩ =>
  ⟨env, S, μ, hE, hS, hp.bind.imp fun xs S1 H1 μ1 l1 s1 p1 vs rvs => by
    unfold oLst at p1
    split at p1
    · rename_i ds e0
      split at p1
      · rename_i hz
        have r := datas_rel rvs e0
        exact ⟨by rw [← r.length, szL_eq]; exact hz, fun c hc => let ⟨k, q⟩ := post_lst p1 s1 hc r; k _ q⟩
      · exact p1.elim
    · exact p1.elim⟩
theorem de_cell (ha : DA W E X es As) : DE W E X (.List es pos) (dCall oCell As) := (pe_lst ha).imp fun σ H Q ⟨env, S, μ, hE, hS, hp⟩ =>
  ⟨env, S, μ, hE, hS, hp.bind.imp fun xs S1 H1 μ1 l1 s1 p1 vs rvs => by
    unfold oCell at p1
    split at p1
    · rename_i ds e0
      split at p1
      · rename_i hz
        have r := datas_rel rvs e0
        exact ⟨by rw [← r.length, szL_eq]; exact hz, fun c hc => let ⟨k, q⟩ := post_cell p1 s1 hc r; k _ q⟩
      · exact p1.elim
    · exact p1.elim⟩
/-- a place is written no more: its list is data from here on -/
def oFrz : Val → Sto → Out Val := fun x S => match x with
  | .d d => .ok (.d d) S
  | .r n => match S[n]? with
    | some (.lst ds) => .ok (.d (.lst ds)) (S.set n .dead)
    | _ => .bad
theorem de_frz {a : Expr} {f : DEf} (ha : DE W E X a f) : DE W E X a (dUn oFrz f) := ha.imp fun σ H Q ⟨env, S, μ, hE, hS, hp⟩ =>
  ⟨env, S, μ, hE, hS, hp.bind.imp fun x S1 H1 μ1 l1 s1 p1 v rv => by
    unfold oFrz at p1
    split at p1
    · exact p1.at_ s1 _ rv
    · rename_i n
      split at p1
      · rename_i ds e
        obtain ⟨a, vs, rfl, h1, h2, h3⟩ := cell_rel s1 rv e
        refine p1 H1 (μ1.set n none) (Le.kill n) (s1.kill n) _ ?_
        simp only [RelV', RelD]
        exact ⟨a, vs, rfl, ⟨outM.dead s1 h1, h2⟩, RelDs.sub (fun _ z => z.kill n) ds vs h3⟩
      · exact p1.elim⟩

/-! ### is, is not, in, not in -/
theorem d_non {d : D} {v : V} (h : RelD W H μ d v) : (v = .non) ↔ d = .non := by
  cases d with
  | non => simp only [RelD] at h; simp [h]
  | bl b => simp only [RelD] at h; simp [h]
  | int i => simp only [RelD] at h; simp [h]
  | str x => simp only [RelD] at h; simp [h]
  | tup ds => simp only [RelD] at h; obtain ⟨a, vs, e, _⟩ := h; simp [e]
  | lst ds => simp only [RelD] at h; obtain ⟨a, vs, e, _⟩ := h; simp [e]
  | con ds => simp only [RelD] at h; obtain ⟨a, vs, e, _⟩ := h; simp [e]
  | dic => simp only [RelD] at h; obtain ⟨a, e, _⟩ := h; simp [e]
  | obj c fs => simp only [RelD] at h; obtain ⟨a, _, _, e, _⟩ := h; simp [e]
def isNon : D → Bool
  | .non => true
  | _ => false
theorem isNon_iff {d : D} : isNon d = true ↔ d = .non := by cases d <;> simp [isNon]
theorem isNon_dec {d : D} {v : V} (h : RelD W H μ d v) : decide (v = .non) = isNon d := by
  rw [Bool.eq_iff_iff, decide_eq_true_eq, d_non h, isNon_iff]
/-- x is y: y None or a bool -/
def oIsB (neg : Bool) : Op2 := fun x y S => match x, y with
  | .d a, .d .non => .ok (.d (.bl (xor neg (isNon a)))) S
  | .d (.bl a), .d (.bl b) => .ok (.d (.bl (xor neg (decide (a = b))))) S
  | _, _ => .bad
abbrev oIs : Op2 := oIsB false
abbrev oIsNot : Op2 := oIsB true
theorem op_isA {X : Cx} : OpR X (compareOp .Is) (fun x y H Q => (y = .non ∧ Q (.bl (decide (x = .non))) H) ∨ rIsB x y H Q) := op_isN.or op_isBl
theorem op_isNotA {X : Cx} : OpR X (compareOp .IsNot) (fun x y H Q => (y = .non ∧ Q (.bl (!decide (x = .non))) H) ∨ rNotB x y H Q) := op_notN.or op_notBl
theorem dop_is : DOp W E (fun x y H Q => (y = .non ∧ Q (.bl (decide (x = .non))) H) ∨ rIsB x y H Q) oIs := by
  intro x y S H μ v w Q s rx ry h
  unfold oIs oIsB at h
  split at h
  · rename_i a
    have := h.at_ s _ (rel_bl _)
    refine .inl ⟨non_rel ry, ?_⟩
    rw [isNon_dec rx]
    simpa using this
  · rename_i a b
    have := h.at_ s _ (rel_bl _)
    exact .inr ⟨a, b, bl_rel rx, bl_rel ry, by simpa using this⟩
  · exact h.elim
theorem dop_isNot : DOp W E (fun x y H Q => (y = .non ∧ Q (.bl (!decide (x = .non))) H) ∨ rNotB x y H Q) oIsNot := by
  intro x y S H μ v w Q s rx ry h
  unfold oIsNot oIsB at h
  split at h
  · rename_i a
    have := h.at_ s _ (rel_bl _)
    refine .inl ⟨non_rel ry, ?_⟩
    rw [isNon_dec rx]
    simpa using this
  · rename_i a b
    have := h.at_ s _ (rel_bl _)
    exact .inr ⟨a, b, bl_rel rx, bl_rel ry, by simpa using this⟩
  · exact h.elim
/-- flat data -/
def flatD : D → Bool
  | .non | .bl _ | .int _ | .str _ => true
  | _ => false
def eqF : D → D → Bool
  | .non, .non => true
  | .bl a, .bl b => a == b
  | .bl a, .int b => (if a then 1 else 0) == b
  | .int a, .bl b => a == (if b then 1 else 0)
  | .int a, .int b => a == b
  | .str a, .str b => a == b
  | _, _ => false
theorem flat_rel {d : D} {v : V} (h : RelD W H μ d v) (f : flatD d = true) : flatV v = true := by
  cases d with
  | non => simp only [RelD] at h; rw [h]; rfl
  | bl b => simp only [RelD] at h; rw [h]; rfl
  | int i => simp only [RelD] at h; rw [h]; rfl
  | str x => simp only [RelD] at h; rw [h]; rfl
  | _ => cases f
theorem eqF_rel {d e : D} {v w : V} (h : RelD W H μ d v) (h' : RelD W H μ e w) (f : flatD d = true) (f' : flatD e = true) : eqV v w = eqF d e := by
  cases d <;> first
    | exact absurd (show false = true from f) Bool.false_ne_true
    | (cases e <;> first
        | exact absurd (show false = true from f') Bool.false_ne_true
        | (simp only [RelD] at h h'; subst h h'; rfl))
theorem flats_rel : ∀ {ds : List D} {vs : List V}, RelDs W H μ ds vs → ds.all flatD = true → vs.all flatV = true
  | [], vs, h, f => by simp only [RelDs] at h; subst h; rfl
  | d :: ds, vs, h, f => by
    simp only [RelDs] at h
    obtain ⟨v, r, rfl, h1, h2⟩ := h
    simp only [List.all_cons, Bool.and_eq_true] at f ⊢
    exact ⟨flat_rel h1 f.1, flats_rel h2 f.2⟩
theorem inV_rel {d : D} {v : V} (h : RelD W H μ d v) (f : flatD d = true) : ∀ {ds : List D} {vs : List V}, RelDs W H μ ds vs → ds.all flatD = true → inV v vs = ds.any fun e => eqF e d
  | [], vs, h', f' => by simp only [RelDs] at h'; subst h'; rfl
  | e :: ds, vs, h', f' => by
    simp only [RelDs] at h'
    obtain ⟨w, r, rfl, h1, h2⟩ := h'
    simp only [List.all_cons, Bool.and_eq_true] at f'
    have := inV_rel h f h2 f'.2
    unfold inV at this ⊢
    simp only [List.any_cons]
    rw [this, eqF_rel h1 h f'.1 f]
def seqA (x : Val) (S : Sto) : Option (List D) := match x with
  | .d (.tup ds) => some ds
  | _ => seqL x S
theorem seqA_rel {x : Val} {ds : List D} {v : V} (s : RelS W H μ S) (h : RelV' W H μ x v) (e : seqA x S = some ds) : ∃ a vs, v = .ref a ∧ (SqL W.K H a vs ∨ SqT W.K H a vs) ∧ RelDs W H μ ds vs := by
  unfold seqA at e
  split at e
  · cases e
    obtain ⟨a, vs, e1, q, r⟩ := seqT_rel h rfl
    exact ⟨a, vs, e1, .inr q, r⟩
  · obtain ⟨a, vs, e1, q, r⟩ := seqL_rel s h e
    exact ⟨a, vs, e1, .inl q, r⟩
def oInB (neg : Bool) : Op2 := fun x y S => match x, seqA y S with
  | .d a, some ds => if flatD a = true ∧ ds.all flatD = true then .ok (.d (.bl (xor neg (ds.any fun e => eqF e a)))) S else .bad
  | _, _ => .bad
abbrev oIn : Op2 := oInB false
abbrev oNotIn : Op2 := oInB true
theorem dop_inB (neg : Bool) : DOp W E (rIn W.K neg) (oInB neg) := by
  intro x y S H μ v w Q s rx ry h
  unfold oInB at h
  split at h
  · rename_i a ds e
    split at h
    · rename_i c
      obtain ⟨p, vs, rfl, q, r⟩ := seqA_rel s ry e
      refine ⟨p, vs, rfl, q, flat_rel rx c.1, flats_rel r c.2, ?_⟩
      have := h.at_ s _ (rel_bl _)
      rw [inV_rel rx c.1 r c.2]
      cases neg <;> simpa using this
    · exact h.elim
  · exact h.elim

/-! ### built-in functions -/
theorem DCall.or {r r' : List V → Hp → VK → Prop} {o : Opn} (h : ∀ xs S H μ vs Q, RelS W H μ S → RelVs W H μ xs vs → Post W E H μ (o xs S) (QV W Q) → r vs H Q ∨ r' vs H Q) : DCall W E (fun vs H Q => r vs H Q ∨ r' vs H Q) o := h
/-- of one value -/
def o1 (o : Val → Sto → Out Val) : Opn := fun xs S => match xs with
  | [x] => o x S
  | _ => .bad
theorem dcall1 {r : List V → Hp → VK → Prop} {o : Val → Sto → Out Val} (h : ∀ x S H μ v Q, RelS W H μ S → RelV' W H μ x v → Post W E H μ (o x S) (QV W Q) → r [v] H Q) : DCall W E r (o1 o) := by
  intro xs S H μ vs Q s rvs p
  unfold o1 at p
  split at p
  · obtain ⟨v, rfl, rv⟩ := rel_one rvs
    exact h _ S H μ v Q s rv p
  · exact p.elim
def o2 (o : Op2) : Opn := fun xs S => match xs with
  | [x, y] => o x y S
  | _ => .bad
theorem dcall2 {r : List V → Hp → VK → Prop} {o : Op2} (h : ∀ x y S H μ v w Q, RelS W H μ S → RelV' W H μ x v → RelV' W H μ y w → Post W E H μ (o x y S) (QV W Q) → r [v, w] H Q) : DCall W E r (o2 o) := by
  intro xs S H μ vs Q s rvs p
  unfold o2 at p
  split at p
  · obtain ⟨v, w, rfl, rv, rw'⟩ := rel_two rvs
    exact h _ _ S H μ v w Q s rv rw' p
  · exact p.elim
def bLen : Val → Sto → Out Val := fun x S => match x with
  | .d (.str z) => if z.length ≤ szL then .ok (.d (.int z.length)) S else .bad
  | _ => match seqA x S with
    | some ds => .ok (.d (.int ds.length)) S
    | none => .bad
theorem dc_len : DCall W E (fun xs H Q => ∃ x n, xs = [x] ∧ LenV W.K x H n ∧ Q (.int n) H) (o1 bLen) := dcall1 fun x S H μ v Q s rv p => by
  unfold bLen at p
  split at p
  · split at p
    · rename_i z hz
      exact ⟨v, _, rfl, by rw [str_rel rv]; exact ⟨by rw [szL_eq]; exact hz, rfl⟩, p.at_ s _ (rel_int _)⟩
    · exact p.elim
  · split at p
    · rename_i ds e
      obtain ⟨a, vs, rfl, q, r⟩ := seqA_rel s rv e
      refine ⟨_, ds.length, rfl, ?_, p.at_ s _ (rel_int _)⟩
      rcases q with q | q
      · exact .inl ⟨vs, q, r.length⟩
      · exact .inr ⟨vs, q, r.length⟩
    · exact p.elim
def bAbs : Val → Sto → Out Val := fun x S => match x with
  | .d (.int i) => .ok (.d (.int (if i < 0 then -i else i))) S
  | _ => .bad
theorem dc_abs : DCall W E (fun xs H Q => ∃ i, xs = [.int i] ∧ Q (.int (if i < 0 then -i else i)) H) (o1 bAbs) := dcall1 fun x S H μ v Q s rv p => by
  unfold bAbs at p
  split at p
  · exact ⟨_, by rw [int_rel rv], p.at_ s _ (rel_int _)⟩
  · exact p.elim
def bInt : Val → Sto → Out Val := fun x S => match x with
  | .d (.int i) => .ok (.d (.int i)) S
  | .d (.bl k) => .ok (.d (.int (if k then 1 else 0))) S
  | _ => .bad
theorem dc_int : DCall W E (fun xs H Q => (∃ i, xs = [.int i] ∧ Q (.int i) H) ∨ ∃ k, xs = [.bl k] ∧ Q (.int (if k then 1 else 0)) H) (o1 bInt) := dcall1 fun x S H μ v Q s rv p => by
  unfold bInt at p
  split at p
  · exact .inl ⟨_, by rw [int_rel rv], p.at_ s _ (rel_int _)⟩
  · exact .inr ⟨_, by rw [bl_rel rv], p.at_ s _ (rel_int _)⟩
  · exact p.elim
def bMax2 : Op2 := oI cTrue fun i j => .int (if j > i then j else i)
def bMin2 : Op2 := oI cTrue fun i j => .int (if j < i then j else i)
theorem dc_max2 : DCall W E (fun xs H Q => ∃ i j, xs = [.int i, .int j] ∧ Q (.int (if j > i then j else i)) H) (o2 bMax2) := dcall2 fun x y S H μ v w Q s rx ry p => by
  obtain ⟨i, j, rfl, rfl, q⟩ := dop_I0 (W := W) (E := E) (g := fun i j => D.int (if j > i then j else i)) (g' := fun i j => V.int (if j > i then j else i)) (fun _ _ _ _ => by simp [RelD]) x y S H μ v w Q s rx ry p
  exact ⟨i, j, rfl, q⟩
theorem dc_min2 : DCall W E (fun xs H Q => ∃ i j, xs = [.int i, .int j] ∧ Q (.int (if j < i then j else i)) H) (o2 bMin2) := dcall2 fun x y S H μ v w Q s rx ry p => by
  obtain ⟨i, j, rfl, rfl, q⟩ := dop_I0 (W := W) (E := E) (g := fun i j => D.int (if j < i then j else i)) (g' := fun i j => V.int (if j < i then j else i)) (fun _ _ _ _ => by simp [RelD]) x y S H μ v w Q s rx ry p
  exact ⟨i, j, rfl, q⟩
def bGcd : Op2 := oI cTrue fun i j => .int ((Nat.gcd i.natAbs j.natAbs : Nat) : Int)
theorem dc_gcd : DCall W E rGcd (o2 bGcd) := dcall2 fun x y S H μ v w Q s rx ry p => by
  obtain ⟨i, j, rfl, rfl, q⟩ := dop_I0 (W := W) (E := E) (g := fun i j => D.int ((Nat.gcd i.natAbs j.natAbs : Nat) : Int)) (g' := fun i j => V.int ((Nat.gcd i.natAbs j.natAbs : Nat) : Int)) (fun _ _ _ _ => by simp [RelD]) x y S H μ v w Q s rx ry p
  exact ⟨i, j, rfl, q⟩
def bDivmod : Op2 := fun x y S => match x, y with
  | .d (.int i), .d (.int j) => if 0 < j ∧ j < 1073741824 then .ok (.d (.tup [.int (i / j), .int (i % j)])) S else .bad
  | _, _ => .bad
theorem dc_divmod : DCall W E (fun xs H Q => ∃ i j, xs = [.int i, .int j] ∧ CDiv i j ∧ ∀ p, H p = none → Q (.ref p) (upd H p (.tup [.int (i / j), .int (i % j)]))) (o2 bDivmod) := dcall2 fun x y S H μ v w Q s rx ry p => by
  unfold bDivmod at p
  split at p
  · rename_i i j
    split at p
    · rename_i c
      refine ⟨i, j, by rw [int_rel rx, int_rel ry], c, fun b hb => ?_⟩
      obtain ⟨k, r⟩ := post_tup (vs := [.int (i / j), .int (i % j)]) p s hb (by simp [RelDs, RelD])
      exact k _ r
    · exact p.elim
  · exact p.elim
/-- tuple(xs) -/
def bTuple : Val → Sto → Out Val := fun x S => match seqA x S with
  | some ds => .ok (.d (.tup ds)) S
  | none => .bad
theorem dc_tuple : DCall W E (fun xs H Q => ∃ p ys, xs = [.ref p] ∧ ((SqL W.K H p ys ∧ ∀ l, H l = none → Q (.ref l) (upd H l (.tup ys))) ∨ (SqT W.K H p ys ∧ Q (.ref p) H))) (o1 bTuple) := dcall1 fun x S H μ v Q s rv p => by
  unfold bTuple at p
  split at p
  · rename_i ds e
    obtain ⟨a, vs, rfl, q, r⟩ := seqA_rel s rv e
    refine ⟨a, vs, rfl, ?_⟩
    rcases q with q | q
    · exact .inl ⟨q, fun l hl => let ⟨k, r'⟩ := post_tup p s hl r; k _ r'⟩
    · refine .inr ⟨q, p.at_ s _ ?_⟩
      simp only [RelV', RelD]
      exact ⟨a, vs, rfl, q, r⟩
  · exact p.elim
/-- list(xs), as data and as a place -/
def bList : Val → Sto → Out Val := fun x S => match seqA x S with
  | some ds => .ok (.d (.lst ds)) S
  | none => .bad
def bListC : Val → Sto → Out Val := fun x S => match seqA x S with
  | some ds => .ok (.r S.length) (S ++ [.lst ds])
  | none => .bad
theorem dc_list : DCall W E (fun xs H Q => ∃ p ys, xs = [.ref p] ∧ (SqL W.K H p ys ∨ SqT W.K H p ys) ∧ ∀ l, H l = none → Q (.ref l) (upd H l (.lst ys))) (o1 bList) := dcall1 fun x S H μ v Q s rv p => by
  unfold bList at p
  split at p
  · rename_i ds e
    obtain ⟨a, vs, rfl, q, r⟩ := seqA_rel s rv e
    exact ⟨a, vs, rfl, q, fun l hl => let ⟨k, r'⟩ := post_lst p s hl r; k _ r'⟩
  · exact p.elim
theorem dc_listC : DCall W E (fun xs H Q => ∃ p ys, xs = [.ref p] ∧ (SqL W.K H p ys ∨ SqT W.K H p ys) ∧ ∀ l, H l = none → Q (.ref l) (upd H l (.lst ys))) (o1 bListC) := dcall1 fun x S H μ v Q s rv p => by
  unfold bListC at p
  split at p
  · rename_i ds e
    obtain ⟨a, vs, rfl, q, r⟩ := seqA_rel s rv e
    exact ⟨a, vs, rfl, q, fun l hl => let ⟨k, r'⟩ := post_cell p s hl r; k _ r'⟩
  · exact p.elim
/-- all, any of a list of bools -/
def blsOf : List D → Option (List Bool)
  | [] => some []
  | .bl b :: ds => (blsOf ds).map (b :: ·)
  | _ :: _ => none
theorem bls_rel : ∀ {ds : List D} {vs : List V} {bs : List Bool}, RelDs W H μ ds vs → blsOf ds = some bs → vs = bs.map V.bl
  | [], vs, bs, h, e => by simp only [blsOf] at e; cases e; simp only [RelDs] at h; subst h; rfl
  | d :: ds, vs, bs, h, e => by
    simp only [RelDs] at h
    obtain ⟨v, r, rfl, h1, h2⟩ := h
    cases d <;> simp only [blsOf] at e <;> try cases e
    rename_i b
    cases k : blsOf ds with
    | none => rw [k] at e; cases e
    | some cs =>
      rw [k] at e; cases e
      simp only [RelD] at h1
      rw [h1, bls_rel h2 k]; rfl
def intsOf : List D → Option (List Int)
  | [] => some []
  | .int b :: ds => (intsOf ds).map (b :: ·)
  | _ :: _ => none
theorem ints_rel : ∀ {ds : List D} {vs : List V} {bs : List Int}, RelDs W H μ ds vs → intsOf ds = some bs → vs = bs.map V.int
  | [], vs, bs, h, e => by simp only [intsOf] at e; cases e; simp only [RelDs] at h; subst h; rfl
  | d :: ds, vs, bs, h, e => by
    simp only [RelDs] at h
    obtain ⟨v, r, rfl, h1, h2⟩ := h
    cases d <;> simp only [intsOf] at e <;> try cases e
    rename_i b
    cases k : intsOf ds with
    | none => rw [k] at e; cases e
    | some cs =>
      rw [k] at e; cases e
      simp only [RelD] at h1
      rw [h1, ints_rel h2 k]; rfl
def bAll : Val → Sto → Out Val := fun x S => match (seqL x S).bind blsOf with
  | some bs => .ok (.d (.bl (bs.all id))) S
  | none => .bad
def bAny : Val → Sto → Out Val := fun x S => match (seqL x S).bind blsOf with
  | some bs => .ok (.d (.bl (bs.any id))) S
  | none => .bad
def bSum : Val → Sto → Out Val := fun x S => match (seqL x S).bind intsOf with
  | some bs => .ok (.d (.int bs.sum)) S
  | none => .bad
theorem dc_all : DCall W E (rAll W.K) (o1 bAll) := dcall1 fun x S H μ v Q s rv p => by
  unfold bAll at p
  split at p
  · rename_i bs e
    obtain ⟨ds, e1, e2⟩ := Option.bind_eq_some_iff.mp e
    obtain ⟨a, vs, rfl, q, r⟩ := seqL_rel s rv e1
    exact ⟨a, bs, rfl, by rw [← bls_rel r e2]; exact q, p.at_ s _ (rel_bl _)⟩
  · exact p.elim
theorem dc_any : DCall W E (rAny W.K) (o1 bAny) := dcall1 fun x S H μ v Q s rv p => by
  unfold bAny at p
  split at p
  · rename_i bs e
    obtain ⟨ds, e1, e2⟩ := Option.bind_eq_some_iff.mp e
    obtain ⟨a, vs, rfl, q, r⟩ := seqL_rel s rv e1
    exact ⟨a, bs, rfl, by rw [← bls_rel r e2]; exact q, p.at_ s _ (rel_bl _)⟩
  · exact p.elim
theorem dc_sum : DCall W E (rSum W.K) (o1 bSum) := dcall1 fun x S H μ v Q s rv p => by
  unfold bSum at p
  split at p
  · rename_i bs e
    obtain ⟨ds, e1, e2⟩ := Option.bind_eq_some_iff.mp e
    obtain ⟨a, vs, rfl, q, r⟩ := seqL_rel s rv e1
    exact ⟨a, bs, rfl, by rw [← ints_rel r e2]; exact q, p.at_ s _ (rel_int _)⟩
  · exact p.elim
end
end Dn
set_option Elab.async false
set_option linter.all false
set_option maxRecDepth 100000
set_option maxHeartbeats 4000000
/-! ### targets, statements, loops -/
namespace Dn
open PySem PySem.Spec PyProof.Rows L2 GxR

section
variable {W : Wd} {E : XK} {X : Cx} {pos : Pos}
abbrev DGf := Val → Env → Sto → Out Env
def QE (W : Wd) (Q : L2.St → Hp → Prop) : Env → Sto → Hp → Mu → Prop := fun env _ H μ => ∀ σ, RelE W H μ env σ → Q σ H
def tG (W : Wd) (E : XK) (g : DGf) : TG := fun v σ H Q => ∃ x env S μ, RelV' W H μ x v ∧ RelE W H μ env σ ∧ RelS W H μ S ∧ Post W E H μ (g x env S) (QE W Q)
abbrev DG (W : Wd) (E : XK) (X : Cx) (tg : Expr) (g : DGf) : Prop := PG X tg (tG W E g)
theorem _root_.L2.PG.imp {X : Cx} {e : Expr} {t t' : TG} (h : PG X e t) (hi : ∀ v σ H Q, t' v σ H Q → t v σ H Q) : PG X e t' := ⟨fun pins s σ H v u Q I r q => h.run pins s σ H v u Q I r (hi v σ H Q q)⟩
theorem _root_.L2.PGs.imp {X : Cx} {e : List Expr} {t t' : TGs} (h : PGs X e t) (hi : ∀ v σ H Q, t' v σ H Q → t v σ H Q) : PGs X e t' := ⟨fun pins s σ H v u Q I r q => h.run pins s σ H v u Q I r (hi v σ H Q q)⟩
theorem RelE.set {H : Hp} {μ : Mu} {env : Env} {σ : L2.St} {i : Nat} {x : Val} {v : V} (h : RelE W H μ env σ) (r : RelV' W H μ x v) : RelE W H μ (env.set i (some x)) (σ.set i (some v)) := by
  refine ⟨by simp [h.1], fun j y e => ?_⟩
  by_cases hj : i = j
  · subst hj
    have hl : i < env.length := by
      by_cases hl : i < env.length
      · exact hl
      · rw [List.getElem?_eq_none (by simp; omega)] at e; cases e
    rw [List.getElem?_set_self hl] at e
    cases e
    exact ⟨v, List.getElem?_set_self (h.1 ▸ hl), r⟩
  · rw [List.getElem?_set_ne hj] at e ⊢
    exact h.2 j y e
def dgName (i : Nat) : DGf := fun x env S => .ok (env.set i (some x)) S
theorem dg_name {i : Nat} {x : Str} (hN : X.N.Nodup) (hi : X.N[i]? = some x) (hx : Loc X.env.scope x) (hf : X.fn x = true ∨ X.env.scope.names.lookup x = some .local) : DG W E X (.Name x pos) (dgName i) :=
  (pg_name hN hi hx hf).imp fun v σ H Q ⟨x, env, S, μ, rv, hE, hS, hp⟩ => hp.at_ hS _ (hE.set rv)
abbrev DGsf := List D → Env → Sto → Out Env
def tGs (W : Wd) (E : XK) (g : DGsf) : TGs := fun vs σ H Q => ∃ xs env S μ, RelDs W H μ xs vs ∧ RelE W H μ env σ ∧ RelS W H μ S ∧ Post W E H μ (g xs env S) (QE W Q)
abbrev DGs (W : Wd) (E : XK) (X : Cx) (tg : List Expr) (g : DGsf) : Prop := PGs X tg (tGs W E g)
def dgNil : DGsf := fun xs env S => match xs with
  | [] => .ok env S
  | _ => .bad
def dgCons (g : DGf) (gs : DGsf) : DGsf := fun xs env S => match xs with
  | x :: xs => (g (.d x) env S).bind fun env1 S1 => gs xs env1 S1
  | _ => .bad
theorem dgs_nil : DGs W E X [] dgNil := pgs_nil.imp fun vs σ H Q ⟨xs, env, S, μ, rv, hE, hS, hp⟩ => by
  unfold dgNil at hp
  split at hp
  · exact ⟨by simpa only [RelDs] using rv, hp.at_ hS _ hE⟩
  · exact hp.elim
theorem dgs_cons {e : Expr} {es : List Expr} {g : DGf} {gs : DGsf} (h1 : DG W E X e g) (h2 : DGs W E X es gs) (hs : (assignEach (e :: es) X.env).map (·.2) = assign e X.env :: (assignEach es X.env).map (·.2) := by rfl) : DGs W E X (e :: es) (dgCons g gs) :=
  (pgs_cons h1 h2 hs).imp fun vs σ H Q ⟨xs, env, S, μ, rv, hE, hS, hp⟩ => by
    unfold dgCons at hp
    split at hp
    · rename_i x xs
      simp only [RelDs] at rv
      obtain ⟨v, r, rfl, r1, r2⟩ := rv
      refine ⟨v, r, rfl, .d x, env, S, μ, r1, hE, hS, hp.bind.imp fun env1 S1 H1 μ1 l1 s1 p1 σ1 hE1 => ?_⟩
      exact ⟨xs, env1, S1, μ1, RelDs.mono l1 hS.is xs r r2, hE1, s1, p1⟩
    · exact hp.elim
def dgTup (n : Nat) (gs : DGsf) : DGf := fun x env S => match x with
  | .d (.tup ds) => if ds.length = n then gs ds env S else .bad
  | _ => .bad
theorem dg_tup {es : List Expr} {k n : Nat} {gs : DGsf} (hK : X.K = W.K) (hc : X.calm = true) (h : DGs W E X es gs) (hn : (assignEach es X.env).length = n := by rfl) (hst : (assignEach es X.env).findIdx? (·.1) = none := by rfl) : DG W E X (.Tuple es k pos) (dgTup n gs) :=
  (pg_tup hc h hn hst).imp fun v σ H Q ⟨x, env, S, μ, rv, hE, hS, hp⟩ => by
    unfold dgTup at hp
    split at hp
    · rename_i ds
      split at hp
      · rename_i hz
        obtain ⟨a, vs, rfl, q, r⟩ := seqT_rel rv rfl
        exact ⟨a, vs, rfl, hK ▸ q, by rw [← r.length]; exact hz, ds, env, S, μ, r, hE, hS, hp⟩
      · exact hp.elim
    · exact hp.elim
/-- xs[i] = v -/
def oSet (o i x : Val) (S : Sto) : Out Unit := match o, i, x with
  | .r n, .d (.int k), .d d => (match S[n]? with
    | some (.lst ds) => (match ixN ds.length k with
      | some j => .ok () (S.set n (.lst (ds.set j d)))
      | none => .bad)
    | _ => .bad)
  | _, _, _ => .bad
def dgSub (f g : DEf) : DGf := fun x env S => (f env S).bind fun o S1 => (g env S1).bind fun i S2 => (oSet o i x S2).bind fun _ S3 => .ok env S3
theorem dg_sub {o i : Expr} {f g : DEf} (ho : DE W E X o f) (hi : DE W E X i g) (ha : ∀ v, assign (.Subscript o i pos) X.env v = (do
      let ov ← holding [v] (eval o X.env)
      let iv ← holding [v, ov] (eval i X.env)
      standAt pos
      holding [v, ov, iv] (setItem ov iv v)
      release [v, ov, iv] []) := by intro _; rfl) : DG W E X (.Subscript o i pos) (dgSub f g) :=
  (pg_sub ho hi set_list ha).imp fun v σ H Q ⟨x, env, S, μ, rv, hE, hS, hp⟩ => by
    refine ⟨env, S, μ, hE, hS, hp.bind.imp fun o S1 H1 μ1 l1 s1 p1 ov ro => ?_⟩
    refine ⟨env, S1, μ1, hE.mono l1 hS.is, s1, p1.bind.imp fun i S2 H2 μ2 l2 s2 p2 iv ri => ?_⟩
    have p3 := p2.bind
    have rv2 := (rv.mono l1 hS.is).mono l2 s1.is
    have ro2 := ro.mono l2 s1.is
    unfold oSet at p3
    split at p3
    · rename_i n k d
      split at p3
      · rename_i ds e
        split at p3
        · rename_i j ej
          obtain ⟨a, vs, rfl, h1, h2, h3⟩ := cell_rel s2 ro2 e
          refine ⟨a, vs, k, j, rfl, int_rel ri, h2, by rw [← h3.length]; exact ej, ?_⟩
          have pq := p3 (upd H2 a (.lst (vs.set j v))) μ2 (Le.put h1) (s2.put h1 (h3.set j rv2))
          exact pq.at_ (s2.put h1 (h3.set j rv2)) _ (((hE.mono l1 hS.is).mono l2 s1.is).mono (Le.put h1) s2.is)
        · exact p3.elim
      · exact p3.elim
    · exact p3.elim

/-! ### methods of lists -/
def dMeth (o : Val → List Val → Sto → Out Val) (f : DEf) (As : DAf) : DEf := fun env S => (f env S).bind fun x S1 => match seqL x S1 with
  | some _ => (As env S1).bind fun xs S2 => o x xs S2
  | none => .bad
def DMt (W : Wd) (E : XK) (r : V → List V → Hp → VK → Prop) (o : Val → List Val → Sto → Out Val) : Prop := ∀ x xs S H μ v vs Q, RelS W H μ S → RelV' W H μ x v → RelVs W H μ xs vs → Post W E H μ (o x xs S) (QV W Q) → r v vs H Q
def mAppend (x : Val) (xs : List Val) (S : Sto) : Out Val := match x, xs with
  | .r n, [.d d] => (match S[n]? with
    | some (.lst ds) => if ds.length < szL then .ok (.d .non) (S.set n (.lst (ds ++ [d]))) else .bad
    | _ => .bad)
  | _, _ => .bad
def mExtend (x : Val) (xs : List Val) (S : Sto) : Out Val := match x, xs with
  | .r n, [y] => (match S[n]?, trkL y S with
    | some (.lst ds), some es => if ds.length + es.length ≤ szL then .ok (.d .non) (S.set n (.lst (ds ++ es))) else .bad
    | _, _ => .bad)
  | _, _ => .bad
theorem dm_append : DMt W E rAppend mAppend := by
  intro x xs S H μ v vs Q s rv rvs p
  unfold mAppend at p
  split at p
  · rename_i n d
    split at p
    · rename_i ds e
      split at p
      · rename_i hz
        obtain ⟨a, ws, rfl, h1, h2, h3⟩ := cell_rel s rv e
        obtain ⟨u, rfl, ru⟩ := rel_one rvs
        have r2 : RelDs W H μ (ds ++ [d]) (ws ++ [u]) := h3.append (by simp only [RelDs]; exact ⟨u, [], rfl, ru, rfl⟩)
        exact ⟨a, ws, u, rfl, rfl, h2, by rw [← h3.length, szL_eq]; exact hz, p _ _ (Le.put h1) (s.put h1 r2) _ rel_non⟩
      · exact p.elim
    · exact p.elim
  · exact p.elim
theorem dm_extend : DMt W E rExtend mExtend := by
  intro x xs S H μ v vs Q s rv rvs p
  unfold mExtend at p
  split at p
  · rename_i n y
    split at p
    · rename_i ds es e1 e2
      split at p
      · rename_i hz
        obtain ⟨a, ws, rfl, h1, h2, h3⟩ := cell_rel s rv e1
        obtain ⟨u, rfl, ru⟩ := rel_one rvs
        obtain ⟨b, us, rfl, h4, h5⟩ := trkL_rel s ru e2
        exact ⟨a, b, ws, us, rfl, rfl, h2, h4, by rw [← h3.length, ← h5.length, szL_eq]; exact hz, p _ _ (Le.put h1) (s.put h1 (h3.append h5)) _ rel_non⟩
      · exact p.elim
    · exact p.elim
  · exact p.elim
theorem de_meth {o e : Expr} {es : List Expr} {name : Str} {apos cpos : Pos} {id : String} {r : V → List V → Hp → VK → Prop} {m : Val → List Val → Sto → Out Val} {f : DEf} {As : DAf} (hK : X.K = W.K)
    (slot : Slot "list" name id) (hty : typeOf (.builtin id) = pure (.type "method_descriptor")) (hm : MtM X id r) (hd : DMt W E r m) (ho : DE W E X o f) (ha : DA W E X (e :: es) As)
    (hbase : attributeBase o name X.env (eval o X.env) = eval o X.env := by rfl)
    (hfew : ((backTo cpos (starEach (e :: es) X.env)).all (fun x => !x.1) && (backToKw cpos (keywordEach [] X.env)).all (fun x => x.1.isSome)
      && decide ((e :: es).length + ([] : List Keyword).length + (if ([] : List Keyword).isEmpty then 0 else 1) < 30)) = true := by rfl)
    (hline : (apos.endLine == cpos.line) = true := by rfl) (hs : starEach (e :: es) X.env = (false, eval e X.env) :: starEach es X.env := by rfl) (hplain : (backTo cpos (starEach es X.env)).any (·.1) = false := by rfl) :
    DE W E X (.Call (.Attribute o name apos) (e :: es) [] cpos) (dMeth m f As) :=
  (pe_bm PySem.F.plainAttrs_list slot hty hm ho ha hbase hfew hline hs hplain).imp fun σ H Q ⟨env, S, μ, hE, hS, hp⟩ =>
    ⟨env, S, μ, hE, hS, hp.bind.imp fun x S1 H1 μ1 l1 s1 p1 v rv => by
      split at p1
      · rename_i ds e0
        obtain ⟨a, vs, rfl, q, r⟩ := seqL_rel s1 rv e0
        refine ⟨.inl ⟨rfl, vs, hK ▸ q⟩, env, S1, μ1, hE.mono l1 hS.is, s1, p1.bind.imp fun xs S2 H2 μ2 l2 s2 p2 ws rws => ?_⟩
        exact hd x xs S2 H2 μ2 _ ws Q s2 (rv.mono l2 s1.is) rws p2
      · exact p1.elim⟩

/-! ### statements -/
inductive Fl where
  | nx (env : Env) | ret (x : Val) | brk (env : Env) | cnt (env : Env)
abbrev DSf := Env → Sto → Out Fl
def QS (W : Wd) (D : Ends) : Fl → Sto → Hp → Mu → Prop := fun fl _ H μ => match fl with
  | .nx env => ∀ σ, RelE W H μ env σ → D.nx σ H
  | .ret x => ∀ v, RelV' W H μ x v → D.rt v H
  | .brk env => ∀ σ, RelE W H μ env σ → D.bk σ H
  | .cnt env => ∀ σ, RelE W H μ env σ → D.ct σ H
def tS (W : Wd) (E : XK) (f : DSf) : TS := fun D σ H => ∃ env S μ, RelE W H μ env σ ∧ RelS W H μ S ∧ Post W E H μ (f env S) (QS W D)
abbrev DS (W : Wd) (E : XK) (X : Cx) (st : Stmt) (f : DSf) : Prop := PS X st (tS W E f)
abbrev DSs (W : Wd) (E : XK) (X : Cx) (st : List Stmt) (f : DSf) : Prop := PSs X st (tS W E f)
def dNext : DSf := fun env S => .ok (.nx env) S
def dSeq (f g : DSf) : DSf := fun env S => (f env S).bind fun fl S1 => match fl with
  | .nx env1 => g env1 S1
  | fl => .ok fl S1
variable {st : Stmt} {rest : List Stmt} {f g : DSf}
theorem dss_nil : DSs W E X [] dNext := pss_nil.imp fun D σ H ⟨env, S, μ, hE, hS, hp⟩ => hp.at_ hS σ hE
theorem dss_cons (h1 : DS W E X st f) (h2 : DSs W E X rest g) : DSs W E X (st :: rest) (dSeq f g) := (pss_cons h1 h2).imp fun D σ H ⟨env, S, μ, hE, hS, hp⟩ => by
  refine ⟨env, S, μ, hE, hS, hp.bind.imp fun fl S1 H1 μ1 l1 s1 p1 => ?_⟩
  cases fl with
  | nx env1 => exact fun σ1 hE1 => ⟨env1, S1, μ1, hE1, s1, p1⟩
  | ret x => exact p1.at_ s1
  | brk env1 => exact p1.at_ s1
  | cnt env1 => exact p1.at_ s1
theorem dss_one (h1 : DS W E X st f) : DSs W E X [st] f := pss_one h1
def dBadS : DSf := fun _ _ => .bad
theorem ds_bad : DS W E X st dBadS := ⟨fun _ _ _ _ _ _ ⟨_, _, _, _, _, h⟩ => h.elim⟩
theorem dss_bad {sts : List Stmt} : DSs W E X sts dBadS := ⟨fun _ _ _ _ _ _ ⟨_, _, _, _, _, h⟩ => h.elim⟩
theorem ds_pass : DS W E X (.Pass pos) dNext := ps_pass.imp fun D σ H ⟨env, S, μ, hE, hS, hp⟩ => hp.at_ hS σ hE
def dBrk : DSf := fun env S => .ok (.brk env) S
def dCnt : DSf := fun env S => .ok (.cnt env) S
theorem ds_break : DS W E X (.Break pos) dBrk := ps_break.imp fun D σ H ⟨env, S, μ, hE, hS, hp⟩ => hp.at_ hS σ hE
theorem ds_continue : DS W E X (.Continue pos) dCnt := ps_continue.imp fun D σ H ⟨env, S, μ, hE, hS, hp⟩ => hp.at_ hS σ hE
def dRet (F : DEf) : DSf := fun env S => (F env S).bind fun x S1 => .ok (.ret x) S1
theorem ds_ret {e : Expr} {F : DEf} (he : DE W E X e F) : DS W E X (.Return (some e) pos) (dRet F) := (ps_ret he).imp fun D σ H ⟨env, S, μ, hE, hS, hp⟩ =>
  ⟨env, S, μ, hE, hS, hp.bind.imp fun x S1 H1 μ1 l1 s1 p1 => p1.at_ s1⟩
def dRetN : DSf := fun _ S => .ok (.ret (.d .non)) S
theorem ds_retN : DS W E X (.Return none pos) dRetN := ps_retN.imp fun D σ H ⟨env, S, μ, hE, hS, hp⟩ => hp.at_ hS _ rel_non
def dDrop (F : DEf) : DSf := fun env S => (F env S).bind fun _ S1 => .ok (.nx env) S1
theorem ds_expr {e : Expr} {F : DEf} (he : DE W E X e F) (hs : swapsWith e none pos.line X.env = pure false := by rfl) : DS W E X (.Expr e pos) (dDrop F) := (ps_expr he hs).imp fun D σ H ⟨env, S, μ, hE, hS, hp⟩ =>
  ⟨env, S, μ, hE, hS, hp.bind.imp fun x S1 H1 μ1 l1 s1 p1 v rv => p1.at_ s1 σ (hE.mono l1 hS.is)⟩
def dIfS (c : DTf) (f g : DSf) : DSf := fun env S => (c env S).bind fun b S1 => if b = true then f env S1 else g env S1
theorem ds_if {c : Expr} {a b : List Stmt} {F : DTf} (hc : DT W E X c F) (ha : DSs W E X a f) (hb : DSs W E X b g) : DS W E X (.If c a b pos) (dIfS F f g) := (ps_if hc ha hb).imp fun D σ H ⟨env, S, μ, hE, hS, hp⟩ => by
  refine ⟨env, S, μ, hE, hS, hp.bind.imp fun c S1 H1 μ1 l1 s1 p1 => ?_⟩
  show if c = true then _ else _
  cases c with
  | true => rw [if_pos rfl] at p1 ⊢; exact ⟨env, S1, μ1, hE.mono l1 hS.is, s1, p1⟩
  | false => rw [if_neg Bool.false_ne_true] at p1 ⊢; exact ⟨env, S1, μ1, hE.mono l1 hS.is, s1, p1⟩
def dAsg (F : DEf) (g : DGf) : DSf := fun env S => (F env S).bind fun x S1 => (g x env S1).bind fun env1 S2 => .ok (.nx env1) S2
theorem tS_asg {F : DEf} {g : DGf} (D : Ends) (σ : L2.St) (H : Hp) (h : tS W E (dAsg F g) D σ H) : tAsg (tE W E F) (tG W E g) D σ H := by
  obtain ⟨env, S, μ, hE, hS, hp⟩ := h
  refine ⟨env, S, μ, hE, hS, hp.bind.imp fun x S1 H1 μ1 l1 s1 p1 v rv => ?_⟩
  exact ⟨x, env, S1, μ1, rv, hE.mono l1 hS.is, s1, p1.bind.imp fun env1 S2 H2 μ2 l2 s2 p2 => p2.at_ s2⟩
theorem ds_asg {tg e : Expr} {F : DEf} {g : DGf} (he : DE W E X e F) (hg : DG W E X tg g) (hs : swapsWithSole [tg] e pos.line X.env = pure false := by rfl) (hw : swappedStores [tg] e X.env = pure none := by rfl)
    (h1 : (assignEach [tg] X.env).map (·.2) = [assign tg X.env] := by rfl) : DS W E X (.Assign [tg] e pos) (dAsg F g) := (ps_asg he hg hs hw h1).imp tS_asg
theorem ds_set {i : Nat} {x : Str} {e : Expr} {F : DEf} {pos' : Pos} (hN : X.N.Nodup) (hi : X.N[i]? = some x) (hx : Loc X.env.scope x) (he : DE W E X e F) (hs : swapsWith e (some (.Name x pos')) pos.line X.env = pure false := by rfl) (hf : X.fn x = true ∨ X.env.scope.names.lookup x = some .local) :
    DS W E X (.Assign [.Name x pos'] e pos) (dAsg F (dgName i)) := (ps_set hN hi hx he hs hf).imp fun D σ H ⟨env, S, μ, hE, hS, hp⟩ =>
  ⟨env, S, μ, hE, hS, hp.bind.imp fun x S1 H1 μ1 l1 s1 p1 v rv => (p1.bind.at_ s1).at_ s1 _ ((hE.mono l1 hS.is).set rv)⟩
/-- a, b = x, y -/
def dPar (i j : Nat) (As : DAf) : DSf := fun env S => (As env S).bind fun xs S1 => match xs with
  | [x, y] => .ok (.nx ((env.set i (some x)).set j (some y))) S1
  | _ => .bad
theorem ds_par {i j : Nat} {x y : Str} {a b : Expr} {As : DAf} {px py pt : Pos} {kt k2 pt2} (hc : X.calm = true) (hN : X.N.Nodup) (hi : X.N[i]? = some x) (hj : X.N[j]? = some y) (hij : i ≠ j)
    (hx : X.env.scope.names.lookup x = some .local) (hy : X.env.scope.names.lookup y = some .local) (ha : DA W E X [a, b] As)
    (hw : swappedStores [.Tuple [.Name x px, .Name y py] kt pt] (.Tuple [a, b] k2 pt2) X.env = pure (some [x, y]))
    (hs : swapsWithSole [.Tuple [.Name x px, .Name y py] kt pt] (.Tuple [a, b] k2 pt2) pos.line X.env = pure false := by rfl) :
    DS W E X (.Assign [.Tuple [.Name x px, .Name y py] kt pt] (.Tuple [a, b] k2 pt2) pos) (dPar i j As) := (ps_par hc hN hi hj hij hx hy ha hw hs).imp fun D σ H ⟨env, S, μ, hE, hS, hp⟩ =>
  ⟨env, S, μ, hE, hS, hp.bind.imp fun xs S1 H1 μ1 l1 s1 p1 vs rvs => by
    split at p1
    · obtain ⟨v, w, rfl, rv, rw'⟩ := rel_two rvs
      exact ⟨v, w, rfl, p1.at_ s1 _ (((hE.mono l1 hS.is).set rv).set rw')⟩
    · exact p1.elim⟩
def dPar3 (i j l : Nat) (As : DAf) : DSf := fun env S => (As env S).bind fun xs S1 => match xs with
  | [x, y, z] => .ok (.nx (((env.set i (some x)).set j (some y)).set l (some z))) S1
  | _ => .bad
theorem ds_par3 {i j l : Nat} {x y z : Str} {a b c : Expr} {As : DAf} {px py pz pt pos : Pos} {kt k2 pt2} (hc : X.calm = true) (hN : X.N.Nodup) (hi : X.N[i]? = some x) (hj : X.N[j]? = some y) (hl : X.N[l]? = some z) (hij : i ≠ j) (hil : i ≠ l) (hjl : j ≠ l)
    (hx : X.env.scope.names.lookup x = some .local) (hy : X.env.scope.names.lookup y = some .local) (hz : X.env.scope.names.lookup z = some .local) (ha : DA W E X [a, b, c] As)
    (hw : swappedStores [.Tuple [.Name x px, .Name y py, .Name z pz] kt pt] (.Tuple [a, b, c] k2 pt2) X.env = pure (some [x, y, z]))
    (hs : swapsWithSole [.Tuple [.Name x px, .Name y py, .Name z pz] kt pt] (.Tuple [a, b, c] k2 pt2) pos.line X.env = pure false := by rfl) :
    DS W E X (.Assign [.Tuple [.Name x px, .Name y py, .Name z pz] kt pt] (.Tuple [a, b, c] k2 pt2) pos) (dPar3 i j l As) := (ps_par3 hc hN hi hj hl hij hil hjl hx hy hz ha hw hs).imp fun D σ H ⟨env, S, μ, hE, hS, hp⟩ =>
  ⟨env, S, μ, hE, hS, hp.bind.imp fun xs S1 H1 μ1 l1 s1 p1 vs rvs => by
    split at p1
    · simp only [RelVs] at rvs
      obtain ⟨v, r, rfl, rv, w, r', rfl, rw', u, r'', rfl, ru, rfl⟩ := rvs
      exact ⟨v, w, u, rfl, p1.at_ s1 _ ((((hE.mono l1 hS.is).set rv).set rw').set ru)⟩
    · exact p1.elim⟩
end

/-! ### what is walked -/
/-- the items; the places that must stay as they are meanwhile -/
structure Itm where
  ds : List D
  wt : List (Nat × List D)
def wtOk (wt : List (Nat × List D)) (S : Sto) : Prop := ∀ p ∈ wt, S[p.1]? = some (.lst p.2)
structure ItOk (W : Wd) (J : It) (it : Itm) (H : Hp) (μ : Mu) : Prop where
  go : ∀ i H' μ' S', Le H μ H' μ' → RelS W H' μ' S' → wtOk it.wt S' → i < it.ds.length → J.go i H'
  stop : ∀ H' μ' S', Le H μ H' μ' → RelS W H' μ' S' → wtOk it.wt S' → J.stop it.ds.length H'
  yld : ∀ i H' μ' S' x H2, Le H μ H' μ' → RelS W H' μ' S' → wtOk it.wt S' → i < it.ds.length → J.yld i H' x H2 → ∃ d, it.ds[i]? = some d ∧ RelD W H2 μ' d x ∧ Le H' μ' H2 μ' ∧ RelS W H2 μ' S'
abbrev DIf := Env → Sto → Out Itm
def tI (W : Wd) (E : XK) (f : DIf) : TI := fun σ H R => ∃ env S μ, RelE W H μ env σ ∧ RelS W H μ S ∧ Post W E H μ (f env S) fun it _ H' μ' => ∀ J, ItOk W J it H' μ' → R J H'
abbrev DI (W : Wd) (E : XK) (X : Cx) (tg iter : Expr) (f : DIf) : Prop := PI X tg iter (tI W E f)
theorem _root_.L2.PI.imp {X : Cx} {tg e : Expr} {t t' : TI} (h : PI X tg e t) (hi : ∀ σ H Q, t' σ H Q → t σ H Q) : PI X tg e t' := ⟨fun pins s σ H Q I q => h.run pins s σ H Q I (hi σ H Q q)⟩
open Classical in
/-- the loop over what is left -/
noncomputable def dLoop (g : DGf) (body : DSf) (wt : List (Nat × List D)) : List D → Env → Sto → Out Fl
  | [], env, S => if wtOk wt S then .ok (.nx env) S else .bad
  | d :: ds, env, S => if wtOk wt S then (g (.d d) env S).bind fun env1 S1 => (body env1 S1).bind fun fl S2 => match fl with
      | .nx e => dLoop g body wt ds e S2
      | .cnt e => dLoop g body wt ds e S2
      | .brk e => .ok (.nx e) S2
      | .ret x => .ok (.ret x) S2
    else .bad
noncomputable def dFor (it : DIf) (g : DGf) (body : DSf) : DSf := fun env S => (it env S).bind fun i S1 => dLoop g body i.wt i.ds env S1
section
variable {W : Wd} {E : XK} {X : Cx} {pos : Pos}
theorem ds_for {tg iter : Expr} {body : List Stmt} {it : DIf} {g : DGf} {f : DSf} (hp : PassesOwn (model X.prog X.w) X.A X.env X.xe) (hc : X.calm = true) (hi : DI W E X tg iter it) (hg : DG W E X tg g) (hb : DSs W E X body f)
    (hs : ∀ x, foldedSetIterable iter X.env x = pure x := by intro _; rfl) : DS W E X (.For tg iter body [] pos) (dFor it g f) :=
  (ps_for hp hc hi hg hb hs).imp fun D σ H ⟨env, S, μ, hE, hS, hp⟩ => by
    refine ⟨env, S, μ, hE, hS, hp.bind.imp fun i S1 H1 μ1 l1 s1 p1 => ?_⟩
    have hE1 := hE.mono l1 hS.is
    intro J hJ
    refine ⟨fun t m σ' H' => m = i.ds.length - t ∧ t ≤ i.ds.length ∧ ∃ env' S' μ', Le H1 μ1 H' μ' ∧ RelE W H' μ' env' σ' ∧ RelS W H' μ' S' ∧ Post W E H' μ' (dLoop g f i.wt (i.ds.drop t) env' S') (QS W D),
      ⟨_, rfl, Nat.zero_le _, env, S1, μ1, .refl, hE1, s1, by simpa using p1⟩, ?_⟩
    rintro t m σ' H' ⟨rfl, ht, env', S', μ', l', hE', hS', hp'⟩
    by_cases hlt : t < i.ds.length
    · have hd : i.ds.drop t = i.ds[t] :: i.ds.drop (t + 1) := List.drop_eq_getElem_cons hlt
      rw [hd] at hp'
      unfold dLoop at hp'
      split at hp'
      case isFalse => exact hp'.elim
      rename_i hw'
      refine .inr ⟨hJ.go t H' μ' S' l' hS' hw' hlt, fun σ2 H2 => ∃ env2 S2 μ2, Le H1 μ1 H2 μ2 ∧ RelE W H2 μ2 env2 σ2 ∧ RelS W H2 μ2 S2 ∧ Post W E H2 μ2 (dLoop g f i.wt (i.ds.drop (t + 1)) env2 S2) (QS W D),
        fun σ2 H2 ⟨env2, S2, μ2, h1, h2, h3, h4⟩ => ⟨_, by omega, rfl, hlt, env2, S2, μ2, h1, h2, h3, h4⟩, fun x H2 y => ?_⟩
      obtain ⟨d, e1, r, l2, s2⟩ := hJ.yld t H' μ' S' x H2 l' hS' hw' hlt y
      rw [List.getElem?_eq_getElem hlt] at e1
      cases e1
      refine ⟨.d i.ds[t], env', S', μ', r, hE'.mono l2 hS'.is, s2, (hp'.le l2).bind.imp fun env3 S3 H3 μ3 l3 s3 p3 σ3 hE3 => ?_⟩
      refine ⟨env3, S3, μ3, hE3, s3, p3.bind.imp fun fl S4 H4 μ4 l4 s4 p4 => ?_⟩
      have lA := ((l'.trans l2).trans l3).trans l4
      cases fl with
      | nx e => exact fun σ4 hE4 => ⟨e, S4, μ4, lA, hE4, s4, p4⟩
      | cnt e => exact fun σ4 hE4 => ⟨e, S4, μ4, lA, hE4, s4, p4⟩
      | brk e => exact p4.at_ s4
      | ret x => exact p4.at_ s4
    · have e : t = i.ds.length := by omega
      subst e
      rw [List.drop_length] at hp'
      unfold dLoop at hp'
      split at hp'
      case isFalse => exact hp'.elim
      rename_i hw'
      exact .inl ⟨hJ.stop H' μ' S' l' hS' hw', hp'.at_ hS' σ' hE'⟩

/-! ### while -/
def dWhileN (c : DTf) (body : DSf) : Nat → Env → Sto → Out Fl
  | 0, _, _ => .bad
  | n + 1, env, S => (c env S).bind fun b S1 => if b = true then (body env S1).bind fun fl S2 => match fl with
      | .nx e => dWhileN c body n e S2
      | .cnt e => dWhileN c body n e S2
      | .brk e => .ok (.nx e) S2
      | .ret x => .ok (.ret x) S2
    else .ok (.nx env) S1
end
open Classical in
noncomputable def dWhile (c : DTf) (body : DSf) : DSf := fun env S => if h : ∃ n, dWhileN c body n env S ≠ .bad then dWhileN c body (Classical.choose h) env S else .bad
theorem Out.bind_ne {α β : Type} {r : Out α} {k : α → Sto → Out β} (h : r.bind k ≠ .bad) : r ≠ .bad := fun e => h (by rw [e]; rfl)
theorem dWhileN_mono {c : DTf} {body : DSf} : ∀ {n m : Nat} {env : Env} {S : Sto}, n ≤ m → dWhileN c body n env S ≠ .bad → dWhileN c body m env S = dWhileN c body n env S
  | 0, m, env, S, _, h => (h rfl).elim
  | n + 1, 0, env, S, h, _ => absurd h (by omega)
  | n + 1, m + 1, env, S, hm, h => by
    unfold dWhileN at h ⊢
    cases e1 : c env S with
    | exc x S1 => rfl
    | bad => rfl
    | ok b S1 =>
      rw [e1] at h
      simp only [Out.bind_ok] at h ⊢
      cases b with
      | false => rfl
      | true =>
        simp only [if_true] at h ⊢
        cases e2 : body env S1 with
        | exc x S1 => rfl
        | bad => rfl
        | ok fl S2 =>
          rw [e2] at h
          simp only [Out.bind_ok] at h ⊢
          cases fl with
          | nx e => exact dWhileN_mono (by omega) h
          | cnt e => exact dWhileN_mono (by omega) h
          | brk e => rfl
          | ret x => rfl
theorem dWhile_of {c : DTf} {body : DSf} {n : Nat} {env : Env} {S : Sto} (h : dWhileN c body n env S ≠ .bad) : dWhile c body env S = dWhileN c body n env S := by
  have hx : ∃ n, dWhileN c body n env S ≠ .bad := ⟨n, h⟩
  have h2 := Classical.choose_spec hx
  unfold dWhile
  rw [dif_pos hx]
  rcases Nat.le_total n (Classical.choose hx) with k | k
  · exact dWhileN_mono k h
  · exact (dWhileN_mono k h2).symm
theorem Post.ne {α : Type} {W : Wd} {E : XK} {H : Hp} {μ : Mu} {r : Out α} {K : α → Sto → Hp → Mu → Prop} (h : Post W E H μ r K) : r ≠ .bad := fun e => by rw [e] at h; exact h
section
variable {W : Wd} {E : XK} {X : Cx} {pos : Pos}
theorem ds_while {c : Expr} {body : List Stmt} {F : DTf} {f : DSf} (hp : PassesOwn (model X.prog X.w) X.A X.env X.xe) (hc : DT W E X c F) (hb : DSs W E X body f) : DS W E X (.While c body [] pos) (dWhile F f) :=
  (ps_while hp hc hb).imp fun D σ H ⟨env, S, μ, hE, hS, hp⟩ => by
    have hn : ∃ n, dWhile F f env S = dWhileN F f n env S := by
      have := hp.ne
      unfold dWhile at this ⊢
      split at this
      · rename_i hx
        exact ⟨_, by rw [dif_pos hx]⟩
      · exact (this rfl).elim
    obtain ⟨n, en⟩ := hn
    rw [en] at hp
    refine ⟨fun m σ' H' => ∃ env' S' μ', RelE W H' μ' env' σ' ∧ RelS W H' μ' S' ∧ Post W E H' μ' (dWhileN F f m env' S') (QS W D), ⟨n, env, S, μ, hE, hS, hp⟩, ?_⟩
    rintro m σ' H' ⟨env', S', μ', hE', hS', hp'⟩
    cases m with
    | zero => exact hp'.elim
    | succ m =>
      unfold dWhileN at hp'
      refine ⟨env', S', μ', hE', hS', hp'.bind.imp fun b S1 H1 μ1 l1 s1 p1 => ?_⟩
      show if b = true then _ else _
      have hE1 := hE'.mono l1 hS'.is
      cases b with
      | false =>
        rw [if_neg Bool.false_ne_true] at p1 ⊢
        exact p1.at_ s1 σ' hE1
      | true =>
        rw [if_pos rfl] at p1 ⊢
        refine ⟨fun σ2 H2 => ∃ env2 S2 μ2, RelE W H2 μ2 env2 σ2 ∧ RelS W H2 μ2 S2 ∧ Post W E H2 μ2 (dWhileN F f m env2 S2) (QS W D), fun σ2 H2 h => ⟨m, Nat.lt_succ_self _, h⟩, ?_⟩
        refine ⟨env', S1, μ1, hE1, s1, p1.bind.imp fun fl S2 H2 μ2 l2 s2 p2 => ?_⟩
        cases fl with
        | nx e => exact fun σ2 hE2 => ⟨e, S2, μ2, hE2, s2, p2⟩
        | cnt e => exact fun σ2 hE2 => ⟨e, S2, μ2, hE2, s2, p2⟩
        | brk e => exact p2.at_ s2
        | ret x => exact p2.at_ s2
end
end Dn
set_option Elab.async false
set_option linter.all false
set_option maxRecDepth 100000
set_option maxHeartbeats 4000000
/-! ### iterables, comprehensions, all(..) -/
namespace Dn
open PySem PySem.Spec PyProof.Rows L2 GxR Gx

/-! ### what is walked -/
section
variable {W : Wd} {E : XK} {X : Cx} {H : Hp} {μ : Mu} {S : Sto} {tg : Expr} {pos : Pos}
/-- a list or a tuple -/
theorem pi_seq {l : Expr} {tl : TE} (hl : PE X l tl) : PI X tg l fun σ H R => tl σ H fun x H1 => ∃ a, x = .ref a ∧ (((∃ xs, SqL X.K H1 a xs) ∧ R (Itl X.K a) H1) ∨ ((∃ xs, SqT X.K H1 a xs) ∧ R (Itt X.K a) H1)) := by
  refine ⟨fun pins s σ H R I h => thn (hl.run pins s σ H _ I h) fun v s1 ⟨x, H1, I1, r1, a, ex, q1⟩ => ?_⟩
  subst ex
  cases r1
  have new : ∀ b, b ∈ [s1.heap.objs.size] → FpOk X pins H1 b := fun b hb => by
    rw [List.mem_singleton.mp hb]
    exact I1.fpOk (Nat.le_refl _) (I1.hok.fresh (Nat.le_refl _))
  rcases q1 with ⟨⟨xs, hq⟩, q⟩ | ⟨⟨xs, hq⟩, q⟩
  · obtain ⟨its, rv, p, _⟩ := I1.list hq
    exact wpAny_pyIter_list p.isList ⟨_, [s1.heap.objs.size], _, _, H1, rfl, I1.kept (t' := s1.toks) fun b o e => Heap.get?_push_of_some _ e, turn_list a _, ⟨_, Heap.get?_push_size _ rfl, rfl, rfl⟩, new, q⟩
  · obtain ⟨its, rv, p, _⟩ := I1.tuple hq
    exact wpAny_pyIter_tuple (show s1.heap.IsTuple a its.toArray from p) ⟨_, [s1.heap.objs.size], _, _, H1, rfl, I1.kept (t' := s1.toks) fun b o e => Heap.get?_push_of_some _ e, turn_tuple a _, ⟨_, Heap.get?_push_size _ rfl, rfl, rfl⟩, new, q⟩
/-- a list that is watched stays -/
def wtV (x : Val) (S : Sto) : List (Nat × List D) := match x with
  | .r n => (match S[n]? with | some (.lst ds) => [(n, ds)] | _ => [])
  | _ => []
theorem stays {x : Val} {ds : List D} {v : V} (s : RelS W H μ S) (h : RelV' W H μ x v) (e : seqL x S = some ds) : ∃ a, v = .ref a ∧ ∀ H' μ' S', Le H μ H' μ' → RelS W H' μ' S' → wtOk (wtV x S) S' → ∃ vs, SqL W.K H' a vs ∧ RelDs W H' μ' ds vs := by
  unfold seqL at e
  split at e
  · cases e
    simp only [RelV', RelD] at h
    obtain ⟨a, vs, e1, q, r⟩ := h
    exact ⟨a, e1, fun H' μ' S' l s' _ => ⟨vs, (l.frL q).sq, RelDs.mono l s.is ds vs r⟩⟩
  · cases e
    simp only [RelV', RelD] at h
    obtain ⟨a, vs, e1, q, r⟩ := h
    exact ⟨a, e1, fun H' μ' S' l s' _ => ⟨vs, (l.coL s.is q).sq, RelDs.mono l s.is ds vs r⟩⟩
  · rename_i n
    split at e
    · rename_i e1
      cases e
      obtain ⟨a, vs, h1, h0, h2, h3⟩ := cell_rel s h e1
      refine ⟨a, h1, fun H' μ' S' l s' w => ?_⟩
      have e2 : S'[n]? = some (.lst ds) := w (n, ds) (by simp [wtV, e1])
      have hn : n < μ'.length := by rw [← s'.len]; exact (List.getElem?_eq_some_iff.mp e2).1
      obtain ⟨b, us, e3, e4, r⟩ := s'.cell n _ _ e2 (List.getElem?_eq_getElem hn)
      rcases l.at_ n _ h0 with q | q
      · rw [List.getElem?_eq_getElem hn, e3] at q
        cases q
        exact ⟨us, .inl (.inl e4), r⟩
      · rw [List.getElem?_eq_getElem hn, e3] at q
        cases q
    · cases e
  · cases e
theorem staysT {x : Val} {ds : List D} {v : V} (s : RelS W H μ S) (h : RelV' W H μ x v) (e : seqT x = some ds) : ∃ a, v = .ref a ∧ ∀ H' μ', Le H μ H' μ' → ∃ vs, SqT W.K H' a vs ∧ RelDs W H' μ' ds vs := by
  obtain ⟨a, vs, e1, q, r⟩ := seqT_rel h e
  exact ⟨a, e1, fun H' μ' l => ⟨vs, l.sqT s.is q, RelDs.mono l s.is ds vs r⟩⟩
theorem itl_ok {x : Val} {ds : List D} {a : Addr} (h : ∀ H' μ' S', Le H μ H' μ' → RelS W H' μ' S' → wtOk (wtV x S) S' → ∃ vs, SqL W.K H' a vs ∧ RelDs W H' μ' ds vs) : ItOk W (Itl W.K a) ⟨ds, wtV x S⟩ H μ where
  go := fun i H' μ' S' l s w hi => by
    obtain ⟨vs, q, r⟩ := h H' μ' S' l s w
    obtain ⟨v, e, _⟩ := r.get (List.getElem?_eq_getElem hi)
    exact ⟨vs, v, q, e⟩
  stop := fun H' μ' S' l s w => by
    obtain ⟨vs, q, r⟩ := h H' μ' S' l s w
    exact ⟨vs, q, Nat.le_of_eq r.length.symm⟩
  yld := fun i H' μ' S' x H2 l s w hi y => by
    obtain ⟨vs, q, r⟩ := h H' μ' S' l s w
    obtain ⟨v, e, rv⟩ := r.get (List.getElem?_eq_getElem hi)
    obtain ⟨rfl, y⟩ := y
    have := y vs q
    rw [e] at this; cases this
    exact ⟨_, List.getElem?_eq_getElem hi, rv, .refl, s⟩
theorem itt_ok {ds : List D} {a : Addr} (h : ∀ H' μ', Le H μ H' μ' → ∃ vs, SqT W.K H' a vs ∧ RelDs W H' μ' ds vs) : ItOk W (Itt W.K a) ⟨ds, []⟩ H μ where
  go := fun i H' μ' S' l s w hi => by
    obtain ⟨vs, q, r⟩ := h H' μ' l
    obtain ⟨v, e, _⟩ := r.get (List.getElem?_eq_getElem hi)
    exact ⟨vs, v, q, e⟩
  stop := fun H' μ' S' l s w => by
    obtain ⟨vs, q, r⟩ := h H' μ' l
    exact ⟨vs, q, Nat.le_of_eq r.length.symm⟩
  yld := fun i H' μ' S' x H2 l s w hi y => by
    obtain ⟨vs, q, r⟩ := h H' μ' l
    obtain ⟨v, e, rv⟩ := r.get (List.getElem?_eq_getElem hi)
    obtain ⟨rfl, y⟩ := y
    have := y vs q
    rw [e] at this; cases this
    exact ⟨_, List.getElem?_eq_getElem hi, rv, .refl, s⟩
def iSeq (x : Val) (S : Sto) : Out Itm := match x with
  | .d (.tup ds) => .ok ⟨ds, []⟩ S
  | _ => match seqL x S with
    | some ds => .ok ⟨ds, wtV x S⟩ S
    | none => .bad
def diSeq (f : DEf) : DIf := fun env S => (f env S).bind fun x S1 => iSeq x S1
theorem wtV_ok {x : Val} {S : Sto} : wtOk (wtV x S) S := by
  intro p hp
  unfold wtV at hp
  split at hp
  · split at hp
    · rename_i ds e
      rw [List.mem_singleton.mp hp]; exact e
    · cases hp
  · cases hp
theorem wtOk_nil (S : Sto) : wtOk [] S := fun _ h => by cases h
theorem di_seq {l : Expr} {f : DEf} (hK : X.K = W.K) (hl : DE W E X l f) : DI W E X tg l (diSeq f) := (pi_seq hl).imp fun σ H R ⟨env, S, μ, hE, hS, hp⟩ =>
  ⟨env, S, μ, hE, hS, hp.bind.imp fun x S1 H1 μ1 l1 s1 p1 v rv => by
    unfold iSeq at p1
    rw [hK]
    split at p1
    · rename_i ds
      obtain ⟨a, rfl, h⟩ := staysT s1 rv rfl
      obtain ⟨vs, q, _⟩ := h H1 μ1 .refl
      exact ⟨a, rfl, .inr ⟨⟨vs, q⟩, p1.at_ s1 _ (itt_ok h)⟩⟩
    · split at p1
      · rename_i ds e
        obtain ⟨a, rfl, h⟩ := stays s1 rv e
        obtain ⟨vs, q, _⟩ := h H1 μ1 S1 .refl s1 wtV_ok
        exact ⟨a, rfl, .inl ⟨⟨vs, q⟩, p1.at_ s1 _ (itl_ok h)⟩⟩
      · exact p1.elim⟩
/-- lo, lo + 1, .. -/
def rngD (lo : Int) (n : Nat) : List D := (List.range n).map fun i : Nat => D.int (lo + i)
theorem itr_ok {lo : Int} {n : Nat} : ItOk W (Itr lo n) ⟨rngD lo n, []⟩ H μ where
  go := fun i H' μ' S' l s w hi => by simpa [rngD, Itr] using hi
  stop := fun H' μ' S' l s w => by simp [rngD, Itr]
  yld := fun i H' μ' S' x H2 l s w hi y => by
    obtain ⟨rfl, rfl⟩ := y
    have hi' : i < n := by simpa [rngD] using hi
    refine ⟨.int (lo + i), ?_, by simp [RelD], .refl, s⟩
    simp [rngD, List.getElem?_map, List.getElem?_range hi']
def smallI (i : Int) : Bool := decide (-(2 ^ 62) ≤ i) && decide (i < 2 ^ 62)
def iRng1 (xs : List Val) (S : Sto) : Out Itm := match xs with
  | [.d (.int j)] => if smallI j = true then .ok ⟨rngD 0 j.toNat, []⟩ S else .bad
  | _ => .bad
def iRng2 (xs : List Val) (S : Sto) : Out Itm := match xs with
  | [.d (.int i), .d (.int j)] => if smallI i = true ∧ smallI j = true then .ok ⟨rngD i (j - i).toNat, []⟩ S else .bad
  | _ => .bad
def diRng1 (As : DAf) : DIf := fun env S => (As env S).bind fun xs S1 => iRng1 xs S1
def diRng2 (As : DAf) : DIf := fun env S => (As env S).bind fun xs S1 => iRng2 xs S1
theorem smallI_iff {i : Int} : smallI i = true ↔ -(2 ^ 62) ≤ i ∧ i < 2 ^ 62 := by simp [smallI]
theorem di_rng1 {a : Expr} {As : DAf} {p : Pos} (hg : Gl X "range") (hm : X.mg "range" = none) (ha : DA W E X [a] As) (hs : starEach [a] X.env = [(false, eval a X.env)] := by rfl) : DI W E X tg (.Call (.Name "range" p) [a] [] pos) (diRng1 As) :=
  (pi_range1 hg hm ha hs).imp fun σ H R ⟨env, S, μ, hE, hS, hp⟩ => ⟨env, S, μ, hE, hS, hp.bind.imp fun xs S1 H1 μ1 l1 s1 p1 vs rvs => by
    unfold iRng1 at p1
    split at p1
    · rename_i j
      split at p1
      · rename_i c
        obtain ⟨v, rfl, rv⟩ := rel_one rvs
        rw [smallI_iff] at c
        exact ⟨j, by rw [int_rel rv], c.1, c.2, p1.at_ s1 _ itr_ok⟩
      · exact p1.elim
    · exact p1.elim⟩
theorem di_rng2 {a b : Expr} {As : DAf} {p : Pos} (hg : Gl X "range") (hm : X.mg "range" = none) (ha : DA W E X [a, b] As) (hs : starEach [a, b] X.env = [(false, eval a X.env), (false, eval b X.env)] := by rfl) (hs2 : starEach [b] X.env = [(false, eval b X.env)] := by rfl) : DI W E X tg (.Call (.Name "range" p) [a, b] [] pos) (diRng2 As) :=
  (pi_range2 hg hm ha hs hs2).imp fun σ H R ⟨env, S, μ, hE, hS, hp⟩ => ⟨env, S, μ, hE, hS, hp.bind.imp fun xs S1 H1 μ1 l1 s1 p1 vs rvs => by
    unfold iRng2 at p1
    split at p1
    · rename_i i j
      split at p1
      · rename_i c
        obtain ⟨v, w, rfl, rv, rw'⟩ := rel_two rvs
        rw [smallI_iff, smallI_iff] at c
        exact ⟨i, j, by rw [int_rel rv, int_rel rw'], ⟨c.1.1, c.1.2, c.2.1, c.2.2⟩, p1.at_ s1 _ itr_ok⟩
      · exact p1.elim
    · exact p1.elim⟩
/-! zip -/
theorem pairs_ok {J : It} {ds es : List D} {n : Nat} {wt : List (Nat × List D)} (hn : n = min ds.length es.length)
    (hgo : ∀ i H' μ' S', Le H μ H' μ' → RelS W H' μ' S' → wtOk wt S' → i < n → J.go i H') (hst : ∀ H' μ' S', Le H μ H' μ' → RelS W H' μ' S' → wtOk wt S' → J.stop n H')
    (hy : ∀ i H' μ' S' v H2, Le H μ H' μ' → RelS W H' μ' S' → wtOk wt S' → i < n → J.yld i H' v H2 → ∃ T x y d e, v = .ref T ∧ H' T = none ∧ H2 = upd H' T (.tup [x, y]) ∧ ds[i]? = some d ∧ es[i]? = some e ∧ RelD W H' μ' d x ∧ RelD W H' μ' e y) :
    ItOk W J ⟨(ds.zip es).map fun p => .tup [p.1, p.2], wt⟩ H μ where
  go := fun i H' μ' S' l s w hi => hgo i H' μ' S' l s w (by simpa [hn] using hi)
  stop := fun H' μ' S' l s w => by
    have e : ((ds.zip es).map fun p => D.tup [p.1, p.2]).length = n := by simp [hn]
    rw [e]
    exact hst H' μ' S' l s w
  yld := fun i H' μ' S' x' H2 l s w hi yy => by
    obtain ⟨T, x, y, d, e, rfl, hT, rfl, e1, e2, r1, r2⟩ := hy i H' μ' S' x' H2 l s w (by simpa [hn] using hi) yy
    refine ⟨.tup [d, e], ?_, ?_, Le.new hT, s.new hT⟩
    · simp [List.getElem?_map, List.getElem?_zip_eq_some, e1, e2]
    · simp only [RelD]
      refine ⟨T, [x, y], rfl, .inl (.inl upd_same), RelDs.mono (Le.new hT) s.is [d, e] [x, y] ?_⟩
      simp only [RelDs]
      exact ⟨x, [y], rfl, r1, y, [], rfl, r2, rfl⟩
def iZip (xs : List Val) (S : Sto) : Out Itm := match xs with
  | [x, y] => (match seqT x, seqT y with
    | some ds, some es => .ok ⟨(ds.zip es).map fun p => .tup [p.1, p.2], []⟩ S
    | _, _ => match seqL x S, seqL y S with
      | some ds, some es => .ok ⟨(ds.zip es).map fun p => .tup [p.1, p.2], wtV x S ++ wtV y S⟩ S
      | _, _ => .bad)
  | _ => .bad
def diZip (As : DAf) : DIf := fun env S => (As env S).bind fun xs S1 => iZip xs S1
theorem wtOk_app {a b : List (Nat × List D)} : wtOk (a ++ b) S ↔ wtOk a S ∧ wtOk b S := by
  unfold wtOk
  simp only [List.mem_append]
  exact ⟨fun h => ⟨fun p hp => h p (.inl hp), fun p hp => h p (.inr hp)⟩, fun h p hp => hp.elim (h.1 p) (h.2 p)⟩
theorem di_zip {a b : Expr} {As : DAf} {p tpos : Pos} {elts : List Expr} {kk : Nat} (hK : X.K = W.K) (hg : Gl X "zip") (hm : X.mg "zip" = none) (ha : DA W E X [a, b] As)
    (hs : starEach [a, b] X.env = (false, eval a X.env) :: starEach [b] X.env := by rfl) (hpl : (backTo pos (starEach [b] X.env)).any (·.1) = false := by rfl) : DI W E X (.Tuple elts kk tpos) (.Call (.Name "zip" p) [a, b] [] pos) (diZip As) :=
  (RZ.pi_zipA hg hm ha hs hpl).imp fun σ H R ⟨env, S, μ, hE, hS, hp⟩ => ⟨env, S, μ, hE, hS, hp.bind.imp fun xs S1 H1 μ1 l1 s1 p1 vs rvs => by
    unfold iZip at p1
    rw [hK]
    split at p1
    · rename_i x y
      obtain ⟨v, w, rfl, rv, rw'⟩ := rel_two rvs
      split at p1
      · rename_i ds es e1 e2
        obtain ⟨a, rfl, h1⟩ := staysT s1 rv e1
        obtain ⟨b, rfl, h2⟩ := staysT s1 rw' e2
        obtain ⟨us, q1, _⟩ := h1 H1 μ1 .refl
        obtain ⟨ws, q2, _⟩ := h2 H1 μ1 .refl
        refine ⟨a, b, us, ws, rfl, .inr ⟨q1, q2, p1.at_ s1 _ (pairs_ok rfl (fun i H' μ' S' l s w hi => ?_) (fun H' μ' S' l s w => ?_) fun i H' μ' S' v H2 l s w hi yy => ?_)⟩⟩
        · obtain ⟨us, q1, r1⟩ := h1 H' μ' l
          obtain ⟨ws, q2, r2⟩ := h2 H' μ' l
          obtain ⟨u, e3, _⟩ := r1.get (List.getElem?_eq_getElem (Nat.lt_of_lt_of_le hi (Nat.min_le_left _ _)))
          obtain ⟨w, e4, _⟩ := r2.get (List.getElem?_eq_getElem (Nat.lt_of_lt_of_le hi (Nat.min_le_right _ _)))
          exact ⟨us, ws, u, w, q1, q2, e3, e4⟩
        · obtain ⟨us, q1, r1⟩ := h1 H' μ' l
          obtain ⟨ws, q2, r2⟩ := h2 H' μ' l
          exact ⟨us, ws, q1, q2, by rw [← r1.length, ← r2.length]; omega⟩
        · obtain ⟨us, q1, r1⟩ := h1 H' μ' l
          obtain ⟨ws, q2, r2⟩ := h2 H' μ' l
          have hd := List.getElem?_eq_getElem (Nat.lt_of_lt_of_le hi (Nat.min_le_left _ _))
          have he := List.getElem?_eq_getElem (Nat.lt_of_lt_of_le hi (Nat.min_le_right _ _))
          obtain ⟨u, e3, r3⟩ := r1.get hd
          obtain ⟨w, e4, r4⟩ := r2.get he
          obtain ⟨T, x, y, rfl, hT, rfl, f1, f2⟩ := yy
          have g1 := f1 us q1
          have g2 := f2 ws q2
          rw [e3] at g1; cases g1
          rw [e4] at g2; cases g2
          exact ⟨T, _, _, _, _, rfl, hT, rfl, hd, he, r3, r4⟩
      · split at p1
        · rename_i ds es e1 e2
          obtain ⟨a, rfl, h1⟩ := stays s1 rv e1
          obtain ⟨b, rfl, h2⟩ := stays s1 rw' e2
          obtain ⟨us, q1, _⟩ := h1 H1 μ1 S1 .refl s1 wtV_ok
          obtain ⟨ws, q2, _⟩ := h2 H1 μ1 S1 .refl s1 wtV_ok
          refine ⟨a, b, us, ws, rfl, .inl ⟨q1, q2, p1.at_ s1 _ (pairs_ok rfl (fun i H' μ' S' l s w hi => ?_) (fun H' μ' S' l s w => ?_) fun i H' μ' S' v H2 l s w hi yy => ?_)⟩⟩
          · rw [wtOk_app] at w
            obtain ⟨us, q1, r1⟩ := h1 H' μ' S' l s w.1
            obtain ⟨ws, q2, r2⟩ := h2 H' μ' S' l s w.2
            obtain ⟨u, e3, _⟩ := r1.get (List.getElem?_eq_getElem (Nat.lt_of_lt_of_le hi (Nat.min_le_left _ _)))
            obtain ⟨w, e4, _⟩ := r2.get (List.getElem?_eq_getElem (Nat.lt_of_lt_of_le hi (Nat.min_le_right _ _)))
            exact ⟨us, ws, u, w, q1, q2, e3, e4⟩
          · rw [wtOk_app] at w
            obtain ⟨us, q1, r1⟩ := h1 H' μ' S' l s w.1
            obtain ⟨ws, q2, r2⟩ := h2 H' μ' S' l s w.2
            exact ⟨us, ws, q1, q2, by rw [← r1.length, ← r2.length]; omega⟩
          · rw [wtOk_app] at w
            obtain ⟨us, q1, r1⟩ := h1 H' μ' S' l s w.1
            obtain ⟨ws, q2, r2⟩ := h2 H' μ' S' l s w.2
            have hd := List.getElem?_eq_getElem (Nat.lt_of_lt_of_le hi (Nat.min_le_left _ _))
            have he := List.getElem?_eq_getElem (Nat.lt_of_lt_of_le hi (Nat.min_le_right _ _))
            obtain ⟨u, e3, r3⟩ := r1.get hd
            obtain ⟨w, e4, r4⟩ := r2.get he
            obtain ⟨T, x, y, rfl, hT, rfl, f1, f2⟩ := yy
            have g1 := f1 us q1
            have g2 := f2 ws q2
            rw [e3] at g1; cases g1
            rw [e4] at g2; cases g2
            exact ⟨T, _, _, _, _, rfl, hT, rfl, hd, he, r3, r4⟩
        · exact p1.elim
    · exact p1.elim⟩
end

/-! ### blocks: the names of their own forgotten -/
def wipeE (env : Env) : List Nat → Env
  | [] => env
  | v :: vs => (wipeE env vs).set v none
theorem wipe_rel {W : Wd} {H : Hp} {μ : Mu} {env : Env} {σ : L2.St} (h : RelE W H μ env σ) : ∀ vs, RelE W H μ (wipeE env vs) (wipe σ vs)
  | [] => h
  | v :: vs => by
    have ih := wipe_rel h vs
    refine ⟨by simp [wipeE, wipe, ih.1], fun i x e => ?_⟩
    by_cases hi : v = i
    · subst hi
      unfold wipeE at e
      by_cases hl : v < (wipeE env vs).length
      · rw [List.getElem?_set_self hl] at e; cases e
      · rw [List.getElem?_eq_none (by simp; omega)] at e; cases e
    · unfold wipeE at e
      unfold wipe
      rw [List.getElem?_set_ne hi] at e ⊢
      exact ih.2 i x e
theorem wipe_set' {σ : L2.St} {i : Nat} {o : Option V} : ∀ vs : List Nat, (i ∈ vs → wipe (σ.set i o) vs = wipe σ vs) ∧ (i ∉ vs → wipe (σ.set i o) vs = (wipe σ vs).set i o)
  | [] => ⟨fun h => absurd h List.not_mem_nil, fun _ => rfl⟩
  | v :: vs => by
    obtain ⟨h1, h2⟩ := wipe_set' (σ := σ) (i := i) (o := o) vs
    by_cases hm : i ∈ vs
    · refine ⟨fun _ => ?_, fun z => absurd (List.mem_cons_of_mem _ hm) z⟩
      unfold wipe
      rw [h1 hm]
    · refine ⟨fun z => ?_, fun z => ?_⟩
      · rcases List.mem_cons.mp z with rfl | z
        · unfold wipe
          rw [h2 hm, List.set_set]
        · exact absurd z hm
      · have hne : i ≠ v := fun q => z (by rw [q]; exact List.mem_cons_self)
        unfold wipe
        rw [h2 hm, List.set_comm _ _ hne]
theorem wipe_wipe {σ : L2.St} (vs : List Nat) : ∀ us : List Nat, (∀ u ∈ us, u ∈ vs) → wipe (wipe σ us) vs = wipe σ vs
  | [], _ => rfl
  | u :: us, h => by
    have e := (wipe_set' (σ := wipe σ us) (i := u) (o := none) vs).1 (h u List.mem_cons_self)
    exact e.trans (wipe_wipe vs us fun w hw => h w (List.mem_cons_of_mem _ hw))
section
variable {W : Wd} {E : XK} {X : Cx} {pos : Pos} {vs : List Nat}
def QEw (W : Wd) (vs : List Nat) (σ : L2.St) (Q : L2.St → Hp → Prop) : Env → Sto → Hp → Mu → Prop := fun env _ H μ => ∀ σ', RelE W H μ env σ' → wipe σ' vs = wipe σ vs → Q σ' H
/-- a target that stores names of vs alone -/
def tGw (W : Wd) (E : XK) (vs : List Nat) (g : DGf) : TG := fun v σ H Q => ∃ x env S μ, RelV' W H μ x v ∧ RelE W H μ env σ ∧ RelS W H μ S ∧ Post W E H μ (g x env S) (QEw W vs σ Q)
abbrev DGw (W : Wd) (E : XK) (vs : List Nat) (X : Cx) (tg : Expr) (g : DGf) : Prop := PG X tg (tGw W E vs g)
def tGsw (W : Wd) (E : XK) (vs : List Nat) (g : DGsf) : TGs := fun us σ H Q => ∃ xs env S μ, RelDs W H μ xs us ∧ RelE W H μ env σ ∧ RelS W H μ S ∧ Post W E H μ (g xs env S) (QEw W vs σ Q)
abbrev DGsw (W : Wd) (E : XK) (vs : List Nat) (X : Cx) (tg : List Expr) (g : DGsf) : Prop := PGs X tg (tGsw W E vs g)
theorem dgw_name {i : Nat} {x : Str} (hv : i ∈ vs) (hN : X.N.Nodup) (hi : X.N[i]? = some x) (hx : Loc X.env.scope x) (hf : X.fn x = true ∨ X.env.scope.names.lookup x = some .local) : DGw W E vs X (.Name x pos) (dgName i) :=
  (pg_name hN hi hx hf).imp fun v σ H Q ⟨x, env, S, μ, rv, hE, hS, hp⟩ => hp.at_ hS _ (hE.set rv) ((wipe_set' vs).1 hv)
theorem dgsw_nil : DGsw W E vs X [] dgNil := pgs_nil.imp fun us σ H Q ⟨xs, env, S, μ, rv, hE, hS, hp⟩ => by
  unfold dgNil at hp
  split at hp
  · exact ⟨by simpa only [RelDs] using rv, hp.at_ hS _ hE rfl⟩
  · exact hp.elim
theorem dgsw_cons {e : Expr} {es : List Expr} {g : DGf} {gs : DGsf} (h1 : DGw W E vs X e g) (h2 : DGsw W E vs X es gs) (hs : (assignEach (e :: es) X.env).map (·.2) = assign e X.env :: (assignEach es X.env).map (·.2) := by rfl) : DGsw W E vs X (e :: es) (dgCons g gs) :=
  (pgs_cons h1 h2 hs).imp fun us σ H Q ⟨xs, env, S, μ, rv, hE, hS, hp⟩ => by
    unfold dgCons at hp
    split at hp
    · rename_i x xs
      simp only [RelDs] at rv
      obtain ⟨v, r, rfl, r1, r2⟩ := rv
      refine ⟨v, r, rfl, .d x, env, S, μ, r1, hE, hS, hp.bind.imp fun env1 S1 H1 μ1 l1 s1 p1 σ1 hE1 w1 => ?_⟩
      exact ⟨xs, env1, S1, μ1, RelDs.mono l1 hS.is xs r r2, hE1, s1, p1.imp fun env2 S2 H2 μ2 l2 s2 p2 σ2 hE2 w2 => p2 σ2 hE2 (w2.trans w1)⟩
    · exact hp.elim
theorem dgw_tup {es : List Expr} {k n : Nat} {gs : DGsf} (hK : X.K = W.K) (hc : X.calm = true) (h : DGsw W E vs X es gs) (hn : (assignEach es X.env).length = n := by rfl) (hst : (assignEach es X.env).findIdx? (·.1) = none := by rfl) : DGw W E vs X (.Tuple es k pos) (dgTup n gs) :=
  (pg_tup hc h hn hst).imp fun v σ H Q ⟨x, env, S, μ, rv, hE, hS, hp⟩ => by
    unfold dgTup at hp
    split at hp
    · rename_i ds
      split at hp
      · rename_i hz
        obtain ⟨a, us, rfl, q, r⟩ := seqT_rel rv rfl
        exact ⟨a, us, rfl, hK ▸ q, by rw [← r.length]; exact hz, ds, env, S, μ, r, hE, hS, hp⟩
      · exact hp.elim
    · exact hp.elim
/-- a clause's tests -/
abbrev DTs (W : Wd) (E : XK) (X : Cx) (ifs : List Expr) (f : DTf) : Prop := PTs X ifs (tT W E f)
def dYes : DTf := fun _ S => .ok true S
theorem dts_nil : DTs W E X [] dYes := ⟨fun pins s σ H Q I ⟨env, S, μ, hE, hS, hp⟩ => pts_nil.run pins s σ H Q I (hp.at_ hS)⟩
theorem dts_one {c : Expr} {f : DTf} (h : DT W E X c f) : DTs W E X [c] f := pts_one h
end

open Classical in
/-- the list as it grows is the place n -/
noncomputable def lcLoop (g : DGf) (tt : DTf) (te : DEf) (wt : List (Nat × List D)) (env : Env) (n : Nat) : List D → List D → Sto → Out (List D)
  | [], acc, S => if wtOk wt S ∧ S[n]? = some (.lst acc) then .ok acc S else .bad
  | d :: ds, acc, S => if wtOk wt S then (g (.d d) env S).bind fun env1 S1 => (tt env1 S1).bind fun b S2 =>
      if b = true then (te env1 S2).bind fun z S3 => match z with
        | .d z => if acc.length < szL ∧ S3[n]? = some (.lst acc) then lcLoop g tt te wt env n ds (acc ++ [z]) (S3.set n (.lst (acc ++ [z]))) else .bad
        | .r _ => .bad
      else if S2[n]? = some (.lst acc) then lcLoop g tt te wt env n ds acc S2 else .bad
    else .bad
/-- the new list as data -/
noncomputable def dLc (it : DIf) (g : DGf) (tt : DTf) (te : DEf) (vs : List Nat) : DEf := fun env S => (it env S).bind fun i S1 =>
  (lcLoop g tt te i.wt (wipeE env vs) S1.length i.ds [] (S1 ++ [.lst []])).bind fun acc S2 => .ok (.d (.lst acc)) (S2.take S1.length)
/-- the new list as a place -/
noncomputable def dLcC (it : DIf) (g : DGf) (tt : DTf) (te : DEf) (vs : List Nat) : DEf := fun env S => (it env S).bind fun i S1 =>
  (lcLoop g tt te i.wt (wipeE env vs) S1.length i.ds [] (S1 ++ [.lst []])).bind fun acc S2 => .ok (.r S1.length) S2
section
variable {W : Wd} {E : XK} {X : Cx} {pos : Pos} {vs : List Nat}
/-- the places behind go -/
theorem Le.takeLast {H : Hp} {μ : Mu} {H0 : Hp} {μ0 : Mu} {n : Nat} (l : Le H0 μ0 H μ) (hn : μ0.length ≤ n) : Le H0 μ0 H (μ.take n) := by
  refine ⟨by rw [List.length_take]; exact Nat.le_min.mpr ⟨hn, l.len⟩, fun m o e => ?_, fun b o e z t => let ⟨q1, q2⟩ := l.keep b o e z t; ⟨q1, q2.take _⟩⟩
  have hm := (List.getElem?_eq_some_iff.mp e).1
  rw [List.getElem?_take, if_pos (Nat.lt_of_lt_of_le hm hn)]
  exact l.at_ m o e
/-- what a comprehension asks, from what its loop does -/
theorem lc_reads {it : DIf} {g : DGf} {tt : DTf} {te : DEf} {σ : L2.St} {H : Hp} {Q : VK} {k : List D → Sto → Sto → Out Val}
    (h : ∃ env S μ, RelE W H μ env σ ∧ RelS W H μ S ∧ Post W E H μ ((it env S).bind fun i S1 => (lcLoop g tt te i.wt (wipeE env vs) S1.length i.ds [] (S1 ++ [.lst []])).bind fun acc S2 => k acc S1 S2) (QV W Q))
    (hk : ∀ acc (S1 S2 : Sto) H1 μ1 H2 μ2 L, Le H1 μ1 H2 μ2 → RelS W H2 μ2 S2 → S1.length = μ1.length → μ2[S1.length]? = some (some L) → S2[S1.length]? = some (.lst acc) → Post W E H1 μ1 (k acc S1 S2) (QV W Q) → Q (.ref L) H2) :
    tLc (tI W E it) (tGw W E vs g) (tT W E tt) (tE W E te) vs σ H Q := by
  obtain ⟨env, S, μ, hE, hS, hp⟩ := h
  refine ⟨env, S, μ, hE, hS, hp.bind.imp fun i S1 H1 μ1 l1 s1 p1 J hJ L hD => ?_⟩
  have hE1 := hE.mono l1 hS.is
  have n0 : S1.length = μ1.length := s1.len
  have p1' : Post W E H1 μ1 (lcLoop g tt te i.wt (wipeE env vs) S1.length i.ds [] (S1 ++ [.lst []])) fun acc S2 H2 μ2 => Post W E H1 μ1 (k acc S1 S2) (QV W Q) := by
    cases e : lcLoop g tt te i.wt (wipeE env vs) S1.length i.ds [] (S1 ++ [.lst []]) with
    | ok acc S2 => rw [e] at p1; exact fun _ _ _ _ => p1
    | exc x S2 => rw [e] at p1; exact p1
    | bad => rw [e] at p1; exact p1
  have len0 : (μ1 ++ [some L] : Mu)[S1.length]? = some (some L) := by rw [n0]; simp
  refine ⟨fun t m H' => m = i.ds.length - t ∧ t ≤ i.ds.length ∧ ∃ acc S' μ', Le H1 μ1 H' μ' ∧ RelE W H' μ' (wipeE env vs) (wipe σ vs) ∧ RelS W H' μ' S' ∧ μ'[S1.length]? = some (some L) ∧
      S'[S1.length]? = some (.lst acc) ∧ Post W E H' μ' (lcLoop g tt te i.wt (wipeE env vs) S1.length (i.ds.drop t) acc S') fun acc S2 H2 μ2 => Post W E H1 μ1 (k acc S1 S2) (QV W Q),
    ⟨_, rfl, Nat.zero_le _, [], S1 ++ [.lst []], μ1 ++ [some L], Le.push hD, wipe_rel (hE1.mono (Le.push hD) s1.is) vs, s1.push hD (by simp [RelDs]), len0, by simp, by rw [List.drop_zero]; exact p1'.le (Le.push hD)⟩, ?_⟩
  rintro t m H' ⟨rfl, ht, acc, S', μ', l', hE', hS', hD', hacc, hp'⟩
  by_cases hlt : t < i.ds.length
  · have hd : i.ds.drop t = i.ds[t] :: i.ds.drop (t + 1) := List.drop_eq_getElem_cons hlt
    rw [hd] at hp'
    unfold lcLoop at hp'
    split at hp'
    case isFalse => exact hp'.elim
    rename_i hw'
    refine .inr ⟨hJ.go t H' μ' S' l' hS' hw' hlt, fun H2 => ∃ acc S2 μ2, Le H1 μ1 H2 μ2 ∧ RelE W H2 μ2 (wipeE env vs) (wipe σ vs) ∧ RelS W H2 μ2 S2 ∧ μ2[S1.length]? = some (some L) ∧
      S2[S1.length]? = some (.lst acc) ∧ Post W E H2 μ2 (lcLoop g tt te i.wt (wipeE env vs) S1.length (i.ds.drop (t + 1)) acc S2) fun acc S2 H2 μ2 => Post W E H1 μ1 (k acc S1 S2) (QV W Q),
      fun H2 ⟨acc, S2, μ2, h⟩ => ⟨_, by omega, rfl, hlt, acc, S2, μ2, h⟩, fun x H2 y => ?_⟩
    obtain ⟨d, e1, r, l2, s2⟩ := hJ.yld t H' μ' S' x H2 l' hS' hw' hlt y
    rw [List.getElem?_eq_getElem hlt] at e1
    cases e1
    have hE2 := hE'.mono l2 hS'.is
    refine ⟨.d i.ds[t], _, S', μ', r, hE2, s2, (hp'.le l2).bind.imp fun env3 S3 H3 μ3 l3 s3 p3 σ3 hE3 w3 => ⟨w3.trans (wipe_wipe vs vs fun _ z => z), ?_⟩⟩
    have hE3' := hE2.mono l3 s2.is
    refine ⟨env3, S3, μ3, hE3, s3, p3.bind.imp fun b S4 H4 μ4 l4 s4 p4 => ?_⟩
    have hE4' := hE3'.mono l4 s3.is
    show if b = true then _ else _
    have stay : ∀ {S'' : Sto} {H'' : Hp} {μ'' : Mu} {ac : List D}, Le H' μ' H'' μ'' → RelS W H'' μ'' S'' → S''[S1.length]? = some (.lst ac) → μ''[S1.length]? = some (some L) := fun {S'' H'' μ'' ac} l s e => by
      have hn : S1.length < μ''.length := by rw [← s.len]; exact (List.getElem?_eq_some_iff.mp e).1
      obtain ⟨b, us, e3, e4, _⟩ := s.cell _ _ _ e (List.getElem?_eq_getElem hn)
      rcases l.at_ _ _ hD' with q | q
      · exact q
      · rw [List.getElem?_eq_getElem hn, e3] at q; cases q
    cases b with
    | false =>
      rw [if_neg Bool.false_ne_true] at p4 ⊢
      have lA := (l2.trans l3).trans l4
      split at p4
      case isFalse => exact p4.elim
      rename_i hc
      exact ⟨acc, S4, μ4, l'.trans lA, hE4', s4, stay lA s4 hc, hc, p4⟩
    | true =>
      rw [if_pos rfl] at p4 ⊢
      refine ⟨env3, S4, μ4, hE3.mono l4 s3.is, s4, p4.bind.imp fun z S5 H5 μ5 l5 s5 p5 v rv => ?_⟩
      have lA := ((l2.trans l3).trans l4).trans l5
      cases z with
      | r n => exact p5.elim
      | d z =>
        dsimp only at p5
        split at p5
        case isFalse => exact p5.elim
        rename_i hc
        have hD5 := stay lA s5 hc.2
        obtain ⟨L', ws, e3, e4, r4⟩ := s5.cell _ _ _ hc.2 hD5
        cases e3
        have r5 : RelDs W H5 μ5 (acc ++ [z]) (ws ++ [v]) := r4.append (by simp only [RelDs]; exact ⟨v, [], rfl, rv, rfl⟩)
        refine ⟨ws, e4, by rw [← r4.length, szL_eq]; exact hc.1, acc ++ [z], S5.set S1.length (.lst (acc ++ [z])), μ5, (l'.trans lA).trans (Le.put hD5), (hE4'.mono l5 s4.is).mono (Le.put hD5) s5.is, s5.put hD5 r5, hD5, ?_, p5.le (Le.put hD5)⟩
        exact List.getElem?_set_self (List.getElem?_eq_some_iff.mp hc.2).1
  · have e : t = i.ds.length := by omega
    subst e
    rw [List.drop_length] at hp'
    unfold lcLoop at hp'
    split at hp'
    case isFalse => exact hp'.elim
    rename_i hw'
    refine .inl ⟨hJ.stop H' μ' S' l' hS' hw'.1, ?_⟩
    exact hk acc S1 S' H1 μ1 H' μ' L l' hS' n0 hD' hacc (hp'.at_ hS')
end
end Dn
namespace Dn
open PySem PySem.Spec PyProof.Rows L2 GxR Gx
section
variable {W : Wd} {E : XK} {X : Cx} {pos : Pos} {own : List (Str × Nat)} {elt tg iter : Expr} {ifs : List Expr} {scope : Scope} {it : DIf} {g : DGf} {tt : DTf} {te : DEf}
/-- as data -/
theorem de_lc (hc : X.calm = true) (hN : X.N.Nodup) (hi : DI W E X tg iter it) (ok : BlkOk X.N X.env.scope scope own)
    (hg : ∀ (s : Shared) (H : Hp) (C : Addr) (cl : List (Str × Addr)) (fp : List Addr), DGw W E (own.map (·.2)) (X.blk s H scope (compEnvC scope cl C X.env) fp) tg g) (ht : ∀ (s : Shared) (H : Hp) (C : Addr) (cl : List (Str × Addr)) (fp : List Addr), DTs W E (X.blk s H scope (compEnvC scope cl C X.env) fp) ifs tt)
    (he : ∀ (s : Shared) (H : Hp) (C : Addr) (cl : List (Str × Addr)) (fp : List Addr), DE W E (X.blk s H scope (compEnvC scope cl C X.env) fp) elt te) (hs : ∀ x, foldedSetIterable iter X.env x = pure x := by intro _; rfl) :
    DE W E X (.ListComp elt [⟨tg, iter, ifs, 0⟩] scope pos) (dLc it g tt te (own.map (·.2))) :=
  (pe_lc hc hN hi ok hg ht he hs).imp fun σ H Q ⟨env, S, μ, hE, hS, hp⟩ => lc_reads (k := fun acc S1 S2 => .ok (.d (.lst acc)) (S2.take S1.length)) ⟨env, S, μ, hE, hS, hp⟩ fun acc S1 S2 H1 μ1 H2 μ2 L l s e1 e2 e3 p => by
    obtain ⟨L', ws, e4, e5, r⟩ := s.cell _ _ _ e3 e2
    cases e4
    refine p H2 (μ2.take S1.length) (l.takeLast (Nat.le_of_eq e1.symm)) (s.take _) _ ?_
    simp only [RelV', RelD]
    refine ⟨L, ws, rfl, ⟨fun n e => ?_, e5⟩, RelDs.sub (fun _ z => z.take _) acc ws r⟩
    rw [List.getElem?_take] at e
    split at e
    · rename_i hn
      have := s.nd _ _ _ e e2
      omega
    · cases e
/-- as a place -/
theorem de_lcC (hc : X.calm = true) (hN : X.N.Nodup) (hi : DI W E X tg iter it) (ok : BlkOk X.N X.env.scope scope own)
    (hg : ∀ (s : Shared) (H : Hp) (C : Addr) (cl : List (Str × Addr)) (fp : List Addr), DGw W E (own.map (·.2)) (X.blk s H scope (compEnvC scope cl C X.env) fp) tg g) (ht : ∀ (s : Shared) (H : Hp) (C : Addr) (cl : List (Str × Addr)) (fp : List Addr), DTs W E (X.blk s H scope (compEnvC scope cl C X.env) fp) ifs tt)
    (he : ∀ (s : Shared) (H : Hp) (C : Addr) (cl : List (Str × Addr)) (fp : List Addr), DE W E (X.blk s H scope (compEnvC scope cl C X.env) fp) elt te) (hs : ∀ x, foldedSetIterable iter X.env x = pure x := by intro _; rfl) :
    DE W E X (.ListComp elt [⟨tg, iter, ifs, 0⟩] scope pos) (dLcC it g tt te (own.map (·.2))) :=
  (pe_lc hc hN hi ok hg ht he hs).imp fun σ H Q ⟨env, S, μ, hE, hS, hp⟩ => lc_reads (k := fun acc S1 S2 => .ok (.r S1.length) S2) ⟨env, S, μ, hE, hS, hp⟩ fun acc S1 S2 H1 μ1 H2 μ2 L l s e1 e2 e3 p => by
    refine p H2 μ2 l s _ ?_
    simp only [RelV', e2]
/-- name = [..] on one line -/
theorem lc_set {i : Nat} {f : DEf} {t : TE} (hr : ∀ σ H Q, tE W E f σ H Q → t σ H Q) (D : Ends) (σ : L2.St) (H : Hp) (h : tS W E (dAsg f (dgName i)) D σ H) : tAsg t (gName i) D σ H := by
  obtain ⟨env, S, μ, hE, hS, hp⟩ := h
  exact hr _ _ _ ⟨env, S, μ, hE, hS, hp.bind.imp fun x S1 H1 μ1 l1 s1 p1 v rv => (p1.bind.at_ s1).at_ s1 _ ((hE.mono l1 hS.is).set rv)⟩
theorem lc_rd (σ : L2.St) (H : Hp) (Q : VK) (h : tE W E (dLc it g tt te (own.map (·.2))) σ H Q) : tLc (tI W E it) (tGw W E (own.map (·.2)) g) (tT W E tt) (tE W E te) (own.map (·.2)) σ H Q := by
  obtain ⟨env, S, μ, hE, hS, hp⟩ := h
  exact lc_reads (k := fun acc S1 S2 => .ok (.d (.lst acc)) (S2.take S1.length)) ⟨env, S, μ, hE, hS, hp⟩ fun acc S1 S2 H1 μ1 H2 μ2 L l s e1 e2 e3 p => by
    obtain ⟨L', ws, e4, e5, r⟩ := s.cell _ _ _ e3 e2
    cases e4
    refine p H2 (μ2.take S1.length) (l.takeLast (Nat.le_of_eq e1.symm)) (s.take _) _ ?_
    simp only [RelV', RelD]
    refine ⟨L, ws, rfl, ⟨fun n e => ?_, e5⟩, RelDs.sub (fun _ z => z.take _) acc ws r⟩
    rw [List.getElem?_take] at e
    split at e
    · rename_i hn
      have := s.nd _ _ _ e e2
      omega
    · cases e
theorem lcC_rd (σ : L2.St) (H : Hp) (Q : VK) (h : tE W E (dLcC it g tt te (own.map (·.2))) σ H Q) : tLc (tI W E it) (tGw W E (own.map (·.2)) g) (tT W E tt) (tE W E te) (own.map (·.2)) σ H Q := by
  obtain ⟨env, S, μ, hE, hS, hp⟩ := h
  exact lc_reads (k := fun acc S1 S2 => .ok (.r S1.length) S2) ⟨env, S, μ, hE, hS, hp⟩ fun acc S1 S2 H1 μ1 H2 μ2 L l s e1 e2 e3 p => by
    refine p H2 μ2 l s _ ?_
    simp only [RelV', e2]
theorem ds_setLc {f : DEf} {i : Nat} {y : Str} {py spos : Pos} (hr : ∀ σ H Q, tE W E f σ H Q → tLc (tI W E it) (tGw W E (own.map (·.2)) g) (tT W E tt) (tE W E te) (own.map (·.2)) σ H Q)
    (hc : X.calm = true) (hN : X.N.Nodup) (hy : X.N[i]? = some y) (hyl : X.env.scope.names.lookup y = some .local)
    (hsw : swapsWith (.ListComp elt [⟨tg, iter, ifs, 0⟩] scope pos) (some (.Name y py)) spos.line X.env = pure true) (hi : DI W E X tg iter it) (ok : BlkOk X.N X.env.scope scope own)
    (hg : ∀ (s : Shared) (H : Hp) (C : Addr) (cl : List (Str × Addr)) (fp : List Addr), DGw W E (own.map (·.2)) (X.blk s H scope (compEnvC scope cl C X.env) fp) tg g) (ht : ∀ (s : Shared) (H : Hp) (C : Addr) (cl : List (Str × Addr)) (fp : List Addr), DTs W E (X.blk s H scope (compEnvC scope cl C X.env) fp) ifs tt)
    (he : ∀ (s : Shared) (H : Hp) (C : Addr) (cl : List (Str × Addr)) (fp : List Addr), DE W E (X.blk s H scope (compEnvC scope cl C X.env) fp) elt te) (hs : ∀ x, foldedSetIterable iter X.env x = pure x := by intro _; rfl) :
    DS W E X (.Assign [.Name y py] (.ListComp elt [⟨tg, iter, ifs, 0⟩] scope pos) spos) (dAsg f (dgName i)) :=
  (ps_setLc hc hN hy hyl hsw hi ok hg ht he hs).imp (lc_set hr)
end
/-! ### all(test for target in iter) -/
open Classical in
noncomputable def allLoop (g : DGf) (te : DEf) (wt : List (Nat × List D)) (env : Env) : List D → Sto → Out Val
  | [], S => if wtOk wt S then .ok (.d (.bl true)) S else .bad
  | d :: ds, S => if wtOk wt S then (g (.d d) env S).bind fun env1 S1 => (te env1 S1).bind fun z S2 => match z with
      | .d (.bl true) => allLoop g te wt env ds S2
      | .d (.bl false) => .ok (.d (.bl false)) S2
      | _ => .bad
    else .bad
noncomputable def dAllG (it : DIf) (g : DGf) (te : DEf) (vs : List Nat) : DEf := fun env S => (it env S).bind fun i S1 => allLoop g te i.wt (wipeE env vs) i.ds S1
section
variable {W : Wd} {E : XK} {X : Cx} {pos : Pos} {own : List (Str × Nat)} {elt tg iter : Expr} {scope : Scope} {it : DIf} {g : DGf} {te : DEf}
theorem Le.tabbed {H H' : Hp} {μ : Mu} {P : Addr} (h : TabG H P) (t : Tabbed P H H') : Le H μ H' μ :=
  ⟨Nat.le_refl _, fun _ _ e => .inl e, fun b o e n z => ⟨by
    rw [t.2 b (fun q => ?_)]
    · exact e
    · obtain ⟨ps, e2, _⟩ := h
      rw [q, e2] at e
      cases e
      exact z ps rfl, n⟩⟩
theorem RelS.tabbed {H H' : Hp} {μ : Mu} {S : Sto} {P : Addr} (s : RelS W H μ S) (h : TabG H P) (t : Tabbed P H H') : RelS W H' μ S := by
  have ne : ∀ {b vs}, H b = some (.lst vs) → b ≠ P := fun e q => by
    obtain ⟨ps, e2, _⟩ := h
    rw [q, e2] at e; cases e
  refine ⟨s.len, s.nd, fun n c o e1 e2 => ?_, fun n a e => ?_, fun P' hP' => ?_⟩
  · have ok := s.cell n c o e1 e2
    cases c with
    | dead => trivial
    | lst ds =>
      obtain ⟨a, vs, e3, e4, r⟩ := ok
      exact ⟨a, vs, e3, by rw [t.2 a (ne e4)]; exact e4, RelDs.mono (Le.tabbed h t) s.is ds vs r⟩
  · obtain ⟨vs, e4⟩ := s.is n a e
    exact ⟨vs, by rw [t.2 a (ne e4)]; exact e4⟩
  · by_cases q : P' = P
    · rw [q]; exact t.1
    · obtain ⟨ps, e, k⟩ := s.tab P' hP'
      exact ⟨ps, by rw [t.2 P' q]; exact e, k⟩
theorem de_allG {c P : Addr} {p gpos : Pos} {k : Nat}
    (hr : Room (k + 4) X.A) (hc : X.calm = true) (hN : X.N.Nodup) (hgl : Gl X "all") (hm : X.mg "all" = none) (hT : P ∈ W.tabs) (TB : TabB X.base X.mg c P) (hcode : X.env.code = .ref c)
    (hi : DI W E X tg iter it) (ok : BlkOk X.N X.env.scope scope own) (hco : scope.isCoroutine = false) (hcell : ∀ y ∈ scope.names, y.2 ≠ .cell) (hdot : scope.names.lookup (".0" : Str) = some NameKind.local)
    (hg : ∀ (s : Shared) (H : Hp) (C : Addr) (cl : List (Str × Addr)) (code : Value) (fp : List Addr) (pn : List (Addr × Obj)), DGw W E (own.map (·.2)) (gcx X s H (genv X scope cl C code) fp pn) tg g)
    (he : ∀ (s : Shared) (H : Hp) (C : Addr) (cl : List (Str × Addr)) (code : Value) (fp : List Addr) (pn : List (Addr × Obj)), Room k (gcx X s H (genv X scope cl C code) fp pn).A → DE W E (gcx X s H (genv X scope cl C code) fp pn) elt te)
    (hs : ∀ v, genFold iter X.env v = pure v := by intro _; rfl)
    (hst : starEach [.GeneratorExp elt [⟨tg, iter, [], 0⟩] scope gpos] X.env = (false, eval (.GeneratorExp elt [⟨tg, iter, [], 0⟩] scope gpos) X.env) :: starEach [] X.env := by rfl) :
    DE W E X (.Call (.Name "all" p) [.GeneratorExp elt [⟨tg, iter, [], 0⟩] scope gpos] [] pos) (dAllG it g te (own.map (·.2))) :=
  (pe_allG hr hc hN hgl hm TB hcode hi ok hco hcell hdot hg he hs hst).imp fun σ H Q ⟨env, S, μ, hE, hS, hp⟩ => by
    refine ⟨env, S, μ, hE, hS, hp.bind.imp fun i S1 H1 μ1 l1 s1 p1 J hJ => ⟨s1.tab P hT, fun H2 ht => ?_⟩⟩
    have lt := Le.tabbed (μ := μ1) (s1.tab P hT) ht
    have s2 := s1.tabbed (s1.tab P hT) ht
    have hE2 := wipe_rel ((hE.mono l1 hS.is).mono lt s1.is) (own.map (·.2))
    refine ⟨fun t m H' => m = i.ds.length - t ∧ t ≤ i.ds.length ∧ ∃ S' μ', Le H1 μ1 H' μ' ∧ RelE W H' μ' (wipeE env (own.map (·.2))) (wipe σ (own.map (·.2))) ∧ RelS W H' μ' S' ∧ Post W E H' μ' (allLoop g te i.wt (wipeE env (own.map (·.2))) (i.ds.drop t) S') (QV W Q),
      ⟨_, rfl, Nat.zero_le _, S1, μ1, lt, hE2, s2, by rw [List.drop_zero]; exact Post.le p1 lt⟩, ?_⟩
    rintro t m H' ⟨rfl, ht', S', μ', l', hE', hS', hp'⟩
    by_cases hlt : t < i.ds.length
    · have hd : i.ds.drop t = i.ds[t] :: i.ds.drop (t + 1) := List.drop_eq_getElem_cons hlt
      rw [hd] at hp'
      unfold allLoop at hp'
      split at hp'
      case isFalse => exact hp'.elim
      rename_i hw'
      refine .inr ⟨hJ.go t H' μ' S' l' hS' hw' hlt, fun H2 => ∃ S2 μ2, Le H1 μ1 H2 μ2 ∧ RelE W H2 μ2 (wipeE env (own.map (·.2))) (wipe σ (own.map (·.2))) ∧ RelS W H2 μ2 S2 ∧ Post W E H2 μ2 (allLoop g te i.wt (wipeE env (own.map (·.2))) (i.ds.drop (t + 1)) S2) (QV W Q),
        fun H2 ⟨S2, μ2, h⟩ => ⟨_, by omega, rfl, hlt, S2, μ2, h⟩, fun x H2 y => ?_⟩
      obtain ⟨d, e1, r, l2, s2⟩ := hJ.yld t H' μ' S' x H2 l' hS' hw' hlt y
      rw [List.getElem?_eq_getElem hlt] at e1
      cases e1
      have hE2 := hE'.mono l2 hS'.is
      refine ⟨.d i.ds[t], _, S', μ', r, hE2, s2, (hp'.le l2).bind.imp fun env3 S3 H3 μ3 l3 s3 p3 σ3 hE3 w3 => ⟨w3.trans (wipe_wipe _ _ fun _ z => z), ?_⟩⟩
      refine ⟨env3, S3, μ3, hE3, s3, p3.bind.imp fun z S4 H4 μ4 l4 s4 p4 v rv => ?_⟩
      have hE4 := (hE2.mono l3 s2.is).mono l4 s3.is
      have lA := ((l'.trans l2).trans l3).trans l4
      split at p4
      · exact ⟨true, bl_rel rv, by rw [if_pos rfl]; exact ⟨S4, μ4, lA, hE4, s4, p4⟩⟩
      · exact ⟨false, bl_rel rv, by rw [if_neg Bool.false_ne_true]; exact p4.at_ s4 _ (rel_bl _)⟩
      · exact p4.elim
    · have e : t = i.ds.length := by omega
      subst e
      rw [List.drop_length] at hp'
      unfold allLoop at hp'
      split at hp'
      case isFalse => exact hp'.elim
      rename_i hw'
      exact .inl ⟨hJ.stop H' μ' S' l' hS' hw', hp'.at_ hS' _ (rel_bl _)⟩
end
end Dn
set_option Elab.async false
set_option linter.all false
set_option maxRecDepth 100000
set_option maxHeartbeats 4000000
/-! ### calls of built-in functions by name; defs -/
namespace Dn
open PySem PySem.Spec PyProof.Rows L2 GxR Gx

section
variable {W : Wd} {E : XK} {X : Cx} {pos p : Pos} {x : Str} {e : Expr} {es : List Expr} {As : DAf} {r : List V → Hp → VK → Prop} {o : Opn} {id T : String}
theorem de_callB (hc : CallR X (.builtin id) r) (hd : DCall W E r o) (hg : Gl X x) (hm : X.mg x = none) (hv : bootBuiltins x = some (.builtin id)) (ha : DA W E X (e :: es) As) (hn : x ≠ "__name__" := by decide) (hdb : (x == ("__debug__" : Str)) = false := by decide)
    (he : starEach (e :: es) X.env = (false, eval e X.env) :: starEach es X.env := by rfl) (hpl : (backTo pos (starEach es X.env)).any (·.1) = false := by rfl) : DE W E X (.Call (.Name x p) (e :: es) [] pos) (dCall o As) :=
  (pe_callB hc hg hm hv ha hn hdb he hpl).imp (tE_call hd)
theorem de_callTy (hc : CallR X (.type T) r) (hd : DCall W E r o) (hg : Gl X x) (hm : X.mg x = none) (hv : bootBuiltins x = some (.type T)) (ha : DA W E X (e :: es) As) (hn : x ≠ "__name__" := by decide) (hdb : (x == ("__debug__" : Str)) = false := by decide)
    (he : starEach (e :: es) X.env = (false, eval e X.env) :: starEach es X.env := by rfl) (hpl : (backTo pos (starEach es X.env)).any (·.1) = false := by rfl) : DE W E X (.Call (.Name x p) (e :: es) [] pos) (dCall o As) :=
  (pe_callTy hc hg hm hv ha hn hdb he hpl).imp (tE_call hd)
theorem de_callBf (hc : CallR X (.builtin id) r) (hd : DCall W E r o) (hg : Gl X x) (hm : X.mg x = some (.builtin id)) (ha : DA W E X (e :: es) As) (hdb : (x == ("__debug__" : Str)) = false := by decide)
    (he : starEach (e :: es) X.env = (false, eval e X.env) :: starEach es X.env := by rfl) (hpl : (backTo pos (starEach es X.env)).any (·.1) = false := by rfl) : DE W E X (.Call (.Name x p) (e :: es) [] pos) (dCall o As) :=
  (pe_callBfun hc hg hm ha hdb he hpl).imp (tE_call hd)
theorem boot_len' : bootBuiltins "len" = some (.builtin "len") := by decide +kernel
theorem boot_abs' : bootBuiltins "abs" = some (.builtin "abs") := by decide +kernel
theorem boot_max' : bootBuiltins "max" = some (.builtin "max") := by decide +kernel
theorem boot_min' : bootBuiltins "min" = some (.builtin "min") := by decide +kernel
theorem boot_all' : bootBuiltins "all" = some (.builtin "all") := by decide +kernel
theorem boot_any' : bootBuiltins "any" = some (.builtin "any") := by decide +kernel
theorem boot_sum' : bootBuiltins "sum" = some (.builtin "sum") := by decide +kernel
theorem boot_divmod' : bootBuiltins "divmod" = some (.builtin "divmod") := by decide +kernel
theorem boot_isinstance' : bootBuiltins "isinstance" = some (.builtin "isinstance") := by decide +kernel
theorem boot_int' : bootBuiltins "int" = some (.type "int") := by decide +kernel
theorem boot_bool' : bootBuiltins "bool" = some (.type "bool") := by decide +kernel
theorem boot_str' : bootBuiltins "str" = some (.type "str") := by decide +kernel
theorem boot_tuple' : bootBuiltins "tuple" = some (.type "tuple") := by decide +kernel
theorem boot_list' : bootBuiltins "list" = some (.type "list") := by decide +kernel
theorem boot_dict' : bootBuiltins "dict" = some (.type "dict") := by decide +kernel
/-! isinstance(x, T) -/
inductive Tn where
  | int | bool | str | tup | lst | dic
def Tn.nm : Tn → Str
  | .int => "int" | .bool => "bool" | .str => "str" | .tup => "tuple" | .lst => "list" | .dic => "dict"
def Tn.ty : Tn → String
  | .int => "int" | .bool => "bool" | .str => "str" | .tup => "tuple" | .lst => "list" | .dic => "dict"
def isi (d : D) (t : Tn) : Option Bool := match d, t with
  | .bl _, .int => some true
  | .int _, .int => some true
  | .bl _, .bool => some true
  | .str _, .str => some true
  | .tup _, .tup => some true
  | .lst _, .lst => some true
  | .con _, .lst => some true
  | .dic, .dic => some true
  | .obj _ _, _ => none
  | _, _ => some false
def tyN : D → String
  | .non => "NoneType" | .bl _ => "bool" | .int _ => "int" | .str _ => "str" | .tup _ => "tuple" | .lst _ => "list" | .con _ => "list" | .dic => "dict" | .obj _ _ => ""
theorem isi_kit {d : D} {t : Tn} {b : Bool} (h : isi d t = some b) : kitB (tyN d) t.ty = some b := by
  cases d <;> cases t <;> simp only [isi] at h <;> first
    | (cases h; done)
    | (cases h; simp only [tyN, Tn.ty]; decide +kernel)
theorem tyx_of {H : Hp} {μ : Mu} {d : D} {v : V} {t : Tn} {b : Bool} (h : RelD W H μ d v) (hi : isi d t = some b) : TyX W.K H v (.type (tyN d)) := by
  cases d with
  | non => simp only [RelD] at h; rw [h]; exact .base .non
  | bl b => simp only [RelD] at h; rw [h]; exact .base (.bl b)
  | int b => simp only [RelD] at h; rw [h]; exact .base (.int b)
  | str b => simp only [RelD] at h; rw [h]; exact .base (.str b)
  | tup ds =>
    simp only [RelD] at h
    obtain ⟨a, vs, rfl, q, _⟩ := h
    rcases q with (q | ⟨o, q⟩) | ⟨o, its, n, q1, q2, _⟩
    · exact .base (.tup q)
    · exact .fTuple q
    · exact .kTuple q1 q2
  | lst ds =>
    simp only [RelD] at h
    obtain ⟨a, vs, rfl, q, _⟩ := h
    exact .base (.lst q.2)
  | con ds =>
    simp only [RelD] at h
    obtain ⟨a, vs, rfl, q, _⟩ := h
    rcases q with q | ⟨o, q⟩ | ⟨o, its, n, q1, q2, _⟩
    · exact .base (.lst q.2)
    · exact .base (.frz q)
    · exact .kList q1 q2
  | dic =>
    simp only [RelD] at h
    obtain ⟨a, rfl, _, q⟩ := h
    exact .base (.dK q)
  | obj c fs => cases t <;> cases hi
def oIsi (t : Tn) : Val → Sto → Out Val := fun x S => match x with
  | .d d => (match isi d t with | some b => .ok (.d (.bl b)) S | none => .bad)
  | .r n => (match S[n]? with | some (.lst _) => .ok (.d (.bl (match t with | .lst => true | _ => false))) S | _ => .bad)
theorem de_isi {f : DEf} {p2 : Pos} (t : Tn) (hK : X.K = W.K) (hg : Gl X "isinstance") (hm : X.mg "isinstance" = none) (hg2 : Gl X t.nm) (hm2 : X.mg t.nm = none) (ha : DE W E X e f)
    (he : starEach [e, .Name t.nm p2] X.env = (false, eval e X.env) :: starEach [.Name t.nm p2] X.env := by rfl) (hpl : (backTo pos (starEach [.Name t.nm p2] X.env)).any (·.1) = false := by rfl) : DE W E X (.Call (.Name "isinstance" p) [e, .Name t.nm p2] [] pos) (dUn (oIsi t) f) := by
  have hv : bootBuiltins t.nm = some (.type t.ty) := by cases t <;> decide +kernel
  have hT : PE X (.Name t.nm p2) (tC (.ty t.ty)) := pe_bltn hg2 hm2 hv rfl (by cases t <;> decide) (by cases t <;> decide)
  refine (pe_callB call_isi hg hm boot_isinstance' (pa_cons ha (pa_cons hT pa_nil) he) (by decide) (by decide) he hpl).imp fun σ H Q ⟨env, S, μ, hE, hS, hp⟩ => ?_
  refine ⟨env, S, μ, hE, hS, hp.bind.imp fun x S1 H1 μ1 l1 s1 p1 v rv => ?_⟩
  unfold oIsi at p1
  rw [hK]
  split at p1
  · rename_i d
    split at p1
    · rename_i b e1
      exact ⟨v, _, _, _, b, rfl, .ty _, tyx_of rv e1, kit_ty (isi_kit e1), p1.at_ s1 _ (rel_bl _)⟩
    · exact p1.elim
  · rename_i n
    split at p1
    · rename_i ds e1
      obtain ⟨a, vs, rfl, _, h2, _⟩ := cell_rel s1 rv e1
      refine ⟨_, _, _, _, _, rfl, .ty _, .base (.lst h2), kit_ty ?_, p1.at_ s1 _ (rel_bl _)⟩
      cases t <;> decide +kernel
    · exact p1.elim
end

/-! ### defs -/
def spD (W : Wd) (n : Nat) (m : Opn) : Sp := fun vs H Q E => vs.length = n ∧ ∃ xs S μ, RelVs W H μ xs vs ∧ RelS W H μ S ∧ Post W E H μ (m xs S) (QV W Q)
/-- what comes back: the places behind the caller's go, but a new list -/
def dFin (S : Sto) (x : Val) (S' : Sto) : Out Val := match x with
  | .d d => .ok (.d d) (S'.take S.length)
  | .r n => if n < S.length then .ok (.r n) (S'.take S.length) else match S'[n]? with
    | some c => .ok (.r S.length) (S'.take S.length ++ [c])
    | none => .bad
def dFn (N : Nat) (body : DSf) : Opn := fun xs S => match body (xs.map some ++ List.replicate (N - xs.length) none) S with
  | .ok (.ret x) S' => dFin S x S'
  | .ok (.nx _) S' => .ok (.d .non) (S'.take S.length)
  | .exc x S' => .exc x (S'.take S.length)
  | _ => .bad
theorem start_rel {W : Wd} {H : Hp} {μ : Mu} {N : List Str} : ∀ {xs : List Val} {vs : List V}, RelVs W H μ xs vs → RelE W H μ (xs.map some ++ List.replicate (N.length - xs.length) none) (start N vs) := by
  have key : ∀ {xs : List Val} {vs : List V} {i : Nat} {x : Val}, RelVs W H μ xs vs → xs[i]? = some x → ∃ v, vs[i]? = some v ∧ RelV' W H μ x v := by
    intro xs
    induction xs with
    | nil => intro vs i x h e; simp at e
    | cons y ys ih =>
      intro vs i x h e
      simp only [RelVs] at h
      obtain ⟨v, r, rfl, h1, h2⟩ := h
      cases i with
      | zero => simp at e; subst e; exact ⟨v, by simp, h1⟩
      | succ i => simp at e; obtain ⟨u, q, z⟩ := ih h2 e; exact ⟨u, by simpa using q, z⟩
  intro xs vs h
  unfold L2.start
  rw [h.length]
  refine ⟨by simp [h.length], fun i x e => ?_⟩
  by_cases hi : i < vs.length
  · rw [List.getElem?_append_left (by simpa [h.length] using hi), List.getElem?_map] at e
    rw [List.getElem?_append_left (by simpa using hi), List.getElem?_map]
    cases q : xs[i]? with
    | none => rw [q] at e; cases e
    | some y =>
      rw [q] at e
      simp at e
      subst e
      obtain ⟨v, e2, r⟩ := key h q
      exact ⟨v, by rw [e2]; rfl, r⟩
  · rw [List.getElem?_append_right (by simp [h.length]; omega), List.getElem?_replicate] at e
    split at e <;> cases e
section
variable {W : Wd} {E : XK} {H : Hp} {μ : Mu} {S : Sto}
theorem post_fn {N : Nat} {body : DSf} {xs : List Val} {Q : VK} (hS : RelS W H μ S) (h : Post W E H μ (dFn N body xs S) (QV W Q)) :
    Post W E H μ (body (xs.map some ++ List.replicate (N - xs.length) none) S) (QS W { nx := fun _ H' => Q .non H', rt := Q }) := by
  unfold dFn at h
  generalize body (xs.map some ++ List.replicate (N - xs.length) none) S = r at h ⊢
  have n0 := hS.len
  have tk : ∀ {S' : Sto} {H' : Hp} {μ' : Mu}, Le H μ H' μ' → RelS W H' μ' S' → Le H μ H' (μ'.take μ.length) ∧ RelS W H' (μ'.take μ.length) (S'.take S.length) := fun l s => ⟨l.take, by rw [n0]; exact s.take _⟩
  cases r with
  | bad => exact h
  | exc x S' =>
    intro H' μ' u dd l s rx
    obtain ⟨l2, s2⟩ := tk l s
    exact h H' _ u dd l2 s2 rx
  | ok fl S' =>
    intro H' μ' l s
    obtain ⟨l2, s2⟩ := tk l s
    cases fl with
    | nx env => exact fun σ _ => h H' _ l2 s2 _ rel_non
    | brk env => exact h.elim
    | cnt env => exact h.elim
    | ret x =>
      intro v rv
      cases x with
      | d d => exact h H' _ l2 s2 v (RelD.sub (fun _ z => z.take _) d v rv)
      | r n =>
        unfold dFin at h
        dsimp only at h
        split at h
        · rename_i hn
          refine h H' _ l2 s2 v ?_
          have e : (μ'.take μ.length)[n]? = μ'[n]? := by rw [List.getElem?_take, if_pos (n0 ▸ hn)]
          simp only [RelV', e]
          exact rv
        · rename_i hn
          split at h
          · rename_i c e
            have hl : n < μ'.length := by rw [← s.len]; exact (List.getElem?_eq_some_iff.mp e).1
            have eo := List.getElem?_eq_getElem hl
            refine h H' (μ'.take μ.length ++ [μ'[n]]) (l.comp eo) ?_ v ?_
            · rw [n0]
              exact s.comp (by omega) eo e
            · have l1 : (μ'.take μ.length).length = S.length := by rw [List.length_take, n0]; have := l.len; omega
              simp only [RelV'] at rv ⊢
              rw [List.getElem?_append_right (by omega), l1]
              simp only [Nat.sub_self, List.getElem?_cons_zero]
              rw [eo] at rv
              exact rv
          · exact h.elim
end
/-! ### a def's promise where no repr runs (so that one may) -/
structure FnG (P : Program) (w : World) (K : PySem.W.Frag) (mg : Str → Option Value) (base : Heap) (k : Nat) (f : Addr) (fd : FuncData) (ps : List Str) (sp : Sp) : Prop where
  len : ∀ vs H Q E, sp vs H Q E → vs.length = ps.length
  run : ∀ (A : Around) (outer : List PySem.Env) (s : Shared) (H : Hp) (args : Args) (us : List Value) (vs : List V) (Q : VK) (E : XK), Room k A → A.guards = some [] → Env0 P w K mg base A outer s H →
    BindsTo s fd args (ps.zip us) → Vals vs us → sp vs H Q E → codeAny (model P w) A (.call (.ref f) args) (CR CX0 outer P w H s Q E) s
theorem FnG.mono {P : Program} {w : World} {K : PySem.W.Frag} {mg : Str → Option Value} {base : Heap} {j k : Nat} {f : Addr} {fd : FuncData} {ps : List Str} {sp : Sp} (F : FnG P w K mg base j f fd ps sp) (h : j ≤ k) : FnG P w K mg base k f fd ps sp :=
  ⟨F.len, fun A outer s H args us vs Q E hr => F.run A outer s H args us vs Q E (hr.mono h)⟩
/-- by its body -/
theorem fnG_of {P : Program} {w : World} {K : PySem.W.Frag} {mg : Str → Option Value} {base : Heap} {k : Nat} {f : Addr} {name qual : Str} {params : Arguments} {body : List Stmt} {scope : Scope} {dV kV doc pm cdv ct oc : Value} {an od : Option Addr}
    {osl : Array (Option Value)} {N ps : List Str} {sp : Sp} (lk : K.lookup f = some ⟨oc, od, .func (PySem.W.fnOf name qual params body scope dV kV doc pm an cdv ct), osl⟩) (hcd : PySem.W.codeIn K cdv qual = true) (S : FnScope N ps scope)
    (hl : ∀ vs H Q E, sp vs H Q E → vs.length = ps.length)
    (hb : ∀ (A : Around) (outer : List PySem.Env) (s : Shared) (H : Hp) (vs : List V) (Q : VK) (E : XK), Room k (A.deeper (envOfC qual scope s.heap.objs.size f cdv)) → A.guards = some [] → sp vs H Q E →
      ∃ t, PSs (cxOf CX0 P w K mg base N qual scope f cdv A outer s H E) body t ∧ t { nx := fun _ H' => Q .non H', rt := Q } (L2.start N vs) H) :
    FnG P w K mg base (k + 1) f (PySem.W.fnOf name qual params body scope dV kV doc pm an cdv ct) ps sp where
  len := hl
  run := by
    intro A outer s0 H0 args us vs Q E room hg en bd rel promise
    have there : K.In s0.heap := en.mod.kin.keeps fun b o q => (en.bs b o q).1
    have nolim : s0.heap.NoLimit := en.mod.nolimit.keeps fun b o q => (en.bs b o q).1
    obtain ⟨t, body_t, at_start⟩ := hb A outer s0 H0 vs Q E (room.deeper _) hg promise
    refine codeAny_call_function room.depth (there _ _ lk) rfl S.co S.gen rfl (PySem.W.codeRec_of there hcd) (bd _ _ _ _ ?_)
    refine wpAny_newFunctionEnv_cells S.kind (fun y hy => ?_) fun env he s1 inC => ?_
    · obtain ⟨n, u⟩ := y
      exact (S.par n (List.of_mem_zip hy).1).imp id fun c => ⟨c, PySem.W.cellsFrom_some _ _ _ (.inl c)⟩
    · subst he
      have I1 := inv_start (CX := CX0) (P := P) (w := w) (E := E) S room.hd en (hl _ _ _ _ promise) rel inC
      refine ⟨nolim.keeps inC.toInCall.keep, codeAny_func (wpAny_mono (body_t.run [] s1 _ H0 _ I1 at_start) ?_ fun _ _ z => z)⟩
      intro fl s2 hs
      cases fl with
      | brk => obtain ⟨_, _, _, z⟩ := hs; exact z.elim
      | cont => obtain ⟨_, _, _, z⟩ := hs; exact z.elim
      | next => obtain ⟨_, H2, I2, z⟩ := hs; exact ⟨.non, H2, I2.os, I2.bare, I2.base, I2.hok, rfl, z⟩
      | ret u => obtain ⟨v, _, H2, I2, rv, z⟩ := hs; exact ⟨v, H2, I2.os, I2.bare, I2.base, I2.hok, rv, z⟩
section
variable {P : Program} {w : World} {K : PySem.W.Frag} {mg : Str → Option Value} {base : Heap} {x qual : Str} {params : Arguments} {body : List Stmt} {scope : Scope} {kws : List (Str × V)} {q : Str × Option Str} {fd : FuncData}
/-- a def keeps what its body's function says -/
theorem fn_D {W : Wd} {N ps : List Str} {k : Nat} {f : DSf} (F : FunD K x qual params body scope [] kws (He.fAd K q) fd) (S : FnScope N ps scope)
    (hb : ∀ (A : Around) (outer : List PySem.Env) (s : Shared) (H : Hp) (E : XK), Room k (A.deeper (envOfC qual scope s.heap.objs.size (He.fAd K q) (.ref (He.codeOf K q)))) → A.guards = some [] →
      DSs W E (cxOf CX0 P w K mg base N qual scope (He.fAd K q) (.ref (He.codeOf K q)) A outer s H E).nox body f) : FnG P w K mg base (k + 1) (He.fAd K q) fd ps (spD W ps.length (dFn N.length f)) := by
  obtain ⟨oc, od, dV, kV, doc, pm, an, cdv, ct, osl, rfl, lk, hcd, _, _⟩ := F.ex
  obtain ⟨c, rfl⟩ := He.codeIn_ref hcd
  have hc : He.codeOf K q = c := He.codeOf_eq lk rfl
  rw [hc] at hb
  refine fnG_of lk hcd S (fun vs H Q E h => h.1) fun A outer s H vs Q E hr hg ⟨hl, xs, S0, μ, hv, hS, hp⟩ => ⟨_, (hb A outer s H E hr hg).nox, ?_⟩
  exact ⟨_, S0, μ, start_rel (N := N) hv, hS, post_fn hS hp⟩
/-- a def as its callers take it; ks, g: how keywords are put -/
structure Callee (P : Program) (w : World) (K : PySem.W.Frag) (mg : Str → Option Value) (base : Heap) (W : Wd) (k : Nat) (x : Str) (n : Nat) (m : Opn) : Prop where
  ex : ∃ (fd : FuncData) (ps : List Str), ps.length = n ∧ FnG P w K mg base k (He.fAd K (x, none)) fd ps (spD W n m) ∧ (∀ (s : Shared) (us : List Value), us.length = n → BindsTo s fd ⟨us, []⟩ (ps.zip us)) ∧ PySem.W.keepIn K (.ref (He.fAd K (x, none))) = true
  glo : mg x = some (.ref (He.fAd K (x, none)))
/-- the same called with keywords ks behind j positional values; pr: the places in the parameters' order of all that is given -/
def permL {α : Type} (pr : List Nat) (xs : List α) : List α := pr.filterMap fun i => xs[i]?
structure CalleeK (P : Program) (w : World) (K : PySem.W.Frag) (mg : Str → Option Value) (base : Heap) (W : Wd) (k : Nat) (x : Str) (n j : Nat) (ks : List Str) (pr : List Nat) (m : Opn) : Prop where
  ex : ∃ (fd : FuncData) (ps : List Str), ps.length = n ∧ FnG P w K mg base k (He.fAd K (x, none)) fd ps (spD W n m) ∧
    (∀ (s : Shared) (us ws : List Value), us.length = j → ws.length = ks.length → BindsTo s fd ⟨us, ks.zip ws⟩ (ps.zip (permL pr (us ++ ws)))) ∧ PySem.W.keepIn K (.ref (He.fAd K (x, none))) = true
  glo : mg x = some (.ref (He.fAd K (x, none)))
theorem Callee.mono {W : Wd} {j k n : Nat} {m : Opn} (C : Callee P w K mg base W j x n m) (h : j ≤ k) : Callee P w K mg base W k x n m := by
  obtain ⟨⟨fd, ps, h1, h2, h3, h4⟩, g⟩ := C
  exact ⟨⟨fd, ps, h1, h2.mono h, h3, h4⟩, g⟩
theorem CalleeK.mono {W : Wd} {i k n j : Nat} {ks : List Str} {pr : List Nat} {m : Opn} (C : CalleeK P w K mg base W i x n j ks pr m) (h : i ≤ k) : CalleeK P w K mg base W k x n j ks pr m := by
  obtain ⟨⟨fd, ps, h1, h2, h3, h4⟩, g⟩ := C
  exact ⟨⟨fd, ps, h1, h2.mono h, h3, h4⟩, g⟩
def dCallN (n : Nat) (m : Opn) (As : DAf) : DEf := fun env S => (As env S).bind fun xs S1 => if xs.length = n then m xs S1 else .bad
/-- the callee runs, within a body -/
theorem runG {X : Cx} {k : Nat} {f : Addr} {ps : List Str} {sp : Sp} {E : XK} {args : Args} {pins : List (Addr × Obj)} {σ : L2.St} {H : Hp} {s : Shared} {Q : VK} {us : List Value} {vs : List V} (F : FnG X.prog X.w X.K X.mg X.base k f fd ps sp) (hr : Room k X.A) (hG : X.A.guards = some [])
    (hb : BindsTo s fd args (ps.zip us)) (I : Inv X pins σ H s) (r : Vals vs us) (h : sp vs H Q E) {first : List Value} {kw : List (Str × Value)} (ha : args = ⟨first, kw⟩) : wpAny (model X.prog X.w) X.A (call (.ref f) first kw) (EP X pins σ Q) X.xe s := by
  subst ha
  refine wpAny_call (codeAny_mono (F.run X.A X.stack s H _ us vs Q E hr hG I.env0 hb r h) fun res s' hq => ?_)
  match res, hq with
  | .error _, hq => exact hq.elim
  | .ok (.ret u), hq => exact I.after hq
  | .ok .next, hq => exact hq.elim
  | .ok .brk, hq => exact hq.elim
  | .ok .cont, hq => exact hq.elim
theorem de_call {W : Wd} {E : XK} {X : Cx} {k n : Nat} {m : Opn} {p pos : Pos} {e : Expr} {es : List Expr} {As : DAf} (C : Callee X.prog X.w X.K X.mg X.base W k x n m) (hr : Room k X.A) (hG : X.A.guards = some []) (hg : Gl X x) (ha : DA W E X (e :: es) As)
    (hdb : (x == ("__debug__" : Str)) = false := by decide) (he : starEach (e :: es) X.env = (false, eval e X.env) :: starEach es X.env := by rfl) (hpl : (backTo pos (starEach es X.env)).any (·.1) = false := by rfl) :
    DE W E X (.Call (.Name x p) (e :: es) [] pos) (dCallN n m As) := by
  obtain ⟨⟨fd, ps, h1, h2, h3, h4⟩, g⟩ := C
  refine ⟨fun pins s σ H Q I ⟨env, S, μ, hE, hS, hp⟩ => wpAny_Call_Name_kw (ld_glob I hg g ?_ hdb)⟩
  refine PySem.W.callWith_K (h₀ := X.base) I.ok.mod.kin h4 (thn (ha.run pos pins s σ H (fun vs H1 => spD W n m vs H1 Q E) I ⟨env, S, μ, hE, hS, hp.bind.imp fun xs S1 H1 μ1 l1 s1 p1 vs rvs => ?_⟩) fun us s1 ⟨vs, H1, I1, r, q⟩ => ⟨I1.kIn, ?_⟩) he hpl
  · split at p1
    · rename_i hn
      exact ⟨by rw [← rvs.length]; exact hn, xs, S1, μ1, rvs, s1, p1⟩
    · exact p1.elim
  · exact runG h2 hr hG (h3 s1 us (by rw [← r.length]; exact q.1)) I1 r q rfl
theorem de_call0 {W : Wd} {E : XK} {X : Cx} {k : Nat} {m : Opn} {p pos : Pos} (C : Callee X.prog X.w X.K X.mg X.base W k x 0 m) (hr : Room k X.A) (hG : X.A.guards = some []) (hg : Gl X x)
    (hdb : (x == ("__debug__" : Str)) = false := by decide) : DE W E X (.Call (.Name x p) [] [] pos) (dCallN 0 m dNil) := by
  obtain ⟨⟨fd, ps, h1, h2, h3, h4⟩, g⟩ := C
  refine ⟨fun pins s σ H Q I ⟨env, S, μ, hE, hS, hp⟩ => wpAny_Call_Name_kw (ld_glob I hg g ?_ hdb)⟩
  exact PySem.W.callWith_K0 I.kIn h4 (runG (us := []) (vs := []) h2 hr hG (h3 s [] rfl) I .nil (show spD W 0 m [] H Q E from ⟨rfl, [], S, μ, rfl, hS, hp⟩) rfl)
/-! keywords -/
abbrev DK (W : Wd) (E : XK) (X : Cx) (kws : List Keyword) (f : DAf) : Prop := PK X kws (tA W E f)
theorem _root_.L2.PK.imp {X : Cx} {e : List Keyword} {t t' : TA} (h : PK X e t) (hi : ∀ σ H Q, t' σ H Q → t σ H Q) : PK X e t' := ⟨fun pos pins s σ H Q I q => h.run pos pins s σ H Q I (hi σ H Q q)⟩
theorem dk_nil {W : Wd} {E : XK} {X : Cx} : DK W E X [] dNil := pk_nil.imp fun σ H Q ⟨env, S, μ, hE, hS, hp⟩ => hp.at_ hS [] rfl
theorem dk_cons {W : Wd} {E : XK} {X : Cx} {nm : Option Str} {e : Expr} {kpos : Pos} {kws : List Keyword} {F : DEf} {As : DAf} (ha : DE W E X e F) (hr : DK W E X kws As) : DK W E X (⟨nm, e, kpos⟩ :: kws) (dCons F As) :=
  (pk_cons ha hr).imp fun σ H Q ⟨env, S, μ, hE, hS, hp⟩ => by
    refine ⟨env, S, μ, hE, hS, hp.bind.imp fun x S1 H1 μ1 l1 s1 p1 v rv => ?_⟩
    refine ⟨env, S1, μ1, hE.mono l1 hS.is, s1, p1.bind.imp fun xs S2 H2 μ2 l2 s2 p2 vs rvs => ?_⟩
    exact p2.at_ s2 _ ⟨v, vs, rfl, rv.mono l2 s1.is, rvs⟩
theorem RelVs.get {W : Wd} {H : Hp} {μ : Mu} : ∀ {xs : List Val} {vs : List V} {i : Nat}, RelVs W H μ xs vs → (xs[i]? = none ∧ vs[i]? = none) ∨ ∃ x v, xs[i]? = some x ∧ vs[i]? = some v ∧ RelV' W H μ x v
  | [], vs, i, h => by simp only [RelVs] at h; subst h; exact .inl ⟨by simp, by simp⟩
  | x :: xs, vs, i, h => by
    simp only [RelVs] at h
    obtain ⟨v, r, rfl, h1, h2⟩ := h
    cases i with
    | zero => exact .inr ⟨x, v, rfl, rfl, h1⟩
    | succ i => simpa using RelVs.get (i := i) h2
theorem RelVs.perm {W : Wd} {H : Hp} {μ : Mu} {xs : List Val} {vs : List V} (h : RelVs W H μ xs vs) : ∀ pr : List Nat, RelVs W H μ (permL pr xs) (permL pr vs)
  | [] => by simp [permL, RelVs]
  | i :: pr => by
    have ih := RelVs.perm h pr
    unfold permL at ih ⊢
    rcases h.get (i := i) with ⟨e1, e2⟩ | ⟨x, v, e1, e2, r⟩
    · simp only [List.filterMap_cons, e1, e2]; exact ih
    · simp only [List.filterMap_cons, e1, e2, RelVs]; exact ⟨v, _, rfl, r, ih⟩
theorem RelVs.append {W : Wd} {H : Hp} {μ : Mu} : ∀ {xs ys : List Val} {vs ws : List V}, RelVs W H μ xs vs → RelVs W H μ ys ws → RelVs W H μ (xs ++ ys) (vs ++ ws)
  | [], ys, vs, ws, h, h' => by simp only [RelVs] at h; subst h; simpa using h'
  | x :: xs, ys, vs, ws, h, h' => by
    simp only [RelVs] at h
    obtain ⟨v, r, rfl, h1, h2⟩ := h
    simp only [List.cons_append, RelVs]
    exact ⟨v, r ++ ws, rfl, h1, RelVs.append h2 h'⟩
theorem Vals.get2 : ∀ {vs : List V} {us : List Value} {i : Nat}, Vals vs us → (vs[i]? = none ∧ us[i]? = none) ∨ ∃ v u, vs[i]? = some v ∧ us[i]? = some u ∧ RelV v u
  | [], us, i, h => by cases h; exact .inl ⟨by simp, by simp⟩
  | v :: vs, us, i, h => by
    cases h with
    | cons r h2 =>
      cases i with
      | zero => exact .inr ⟨v, _, rfl, rfl, r⟩
      | succ i => simpa using Vals.get2 (i := i) h2
theorem vals_perm {vs : List V} {us : List Value} (h : Vals vs us) : ∀ pr : List Nat, Vals (permL pr vs) (permL pr us)
  | [] => .nil
  | i :: pr => by
    have ih := vals_perm h pr
    unfold permL at ih ⊢
    rcases Vals.get2 (i := i) h with ⟨e1, e2⟩ | ⟨v, u, e1, e2, r⟩
    · simp only [List.filterMap_cons, e1, e2]; exact ih
    · simp only [List.filterMap_cons, e1, e2]; exact .cons r ih
def dCallK (n j l : Nat) (pr : List Nat) (m : Opn) (As Ks : DAf) : DEf := fun env S => (As env S).bind fun xs S1 => (Ks env S1).bind fun ys S2 => if xs.length = j ∧ ys.length = l ∧ (permL pr (xs ++ ys)).length = n then m (permL pr (xs ++ ys)) S2 else .bad
theorem tkw {W : Wd} {E : XK} {n j l : Nat} {pr : List Nat} {m : Opn} {As Ks : DAf} {σ : L2.St} {H : Hp} {Q : VK} (h : tE W E (dCallK n j l pr m As Ks) σ H Q) : tA W E As σ H fun vs H1 => tA W E Ks σ H1 fun zs H2 => vs.length = j ∧ zs.length = l ∧ spD W n m (permL pr (vs ++ zs)) H2 Q E := by
  obtain ⟨env, S, μ, hE, hS, hp⟩ := h
  refine ⟨env, S, μ, hE, hS, hp.bind.imp fun xs S1 H1 μ1 l1 s1 p1 vs rvs => ?_⟩
  refine ⟨env, S1, μ1, hE.mono l1 hS.is, s1, p1.bind.imp fun ys S2 H2 μ2 l2 s2 p2 zs rzs => ?_⟩
  split at p2
  · rename_i c
    have r := ((rvs.mono l2 s1.is).append rzs).perm pr
    exact ⟨by rw [← rvs.length]; exact c.1, by rw [← rzs.length]; exact c.2.1, by rw [← r.length]; exact c.2.2, _, S2, μ2, r, s2, p2⟩
  · exact p2.elim
theorem de_callK {W : Wd} {E : XK} {X : Cx} {k n j l : Nat} {m : Opn} {p pos : Pos} {e : Expr} {es : List Expr} {kws : List Keyword} {ks : List Str} {pr : List Nat} {As Ks : DAf} (C : CalleeK X.prog X.w X.K X.mg X.base W k x n j ks pr m) (hr : Room k X.A) (hG : X.A.guards = some []) (hg : Gl X x)
    (ha : DA W E X (e :: es) As) (hkw : DK W E X kws Ks) (hall : (backToKw pos (keywordEach kws X.env)).all (·.1.isSome) = true := by rfl) (hks : (backToKw pos (keywordEach kws X.env)).filterMap (·.1) = ks := by rfl) (hl : ks.length = l := by rfl)
    (hdb : (x == ("__debug__" : Str)) = false := by decide) (he : starEach (e :: es) X.env = (false, eval e X.env) :: starEach es X.env := by rfl)
    (hpl : ((backTo pos (starEach (e :: es) X.env)).any (·.1) || (backToKw pos (keywordEach kws X.env)).any (·.1.isNone)) = false := by rfl) : DE W E X (.Call (.Name x p) (e :: es) kws pos) (dCallK n j l pr m As Ks) := by
  subst hl
  obtain ⟨⟨fd, ps, h1, h2, h3, h4⟩, g⟩ := C
  refine ⟨fun pins s σ H Q I h => wpAny_Call_Name_kw (ld_glob I hg g ?_ hdb)⟩
  refine PySem.W.callWith_KW (h₀ := X.base) I.ok.mod.kin h4 hall (thn (ha.run pos pins s σ H _ I (tkw h)) fun us s1 ⟨vs, H1, I1, r, q⟩ => ?_) hpl he
  refine thn (hkw.run pos pins s1 σ H1 _ I1 q) fun ws s2 ⟨zs, H2, I2, rz, l1, l2, q2⟩ => ⟨I2.kIn, ?_⟩
  rw [hks]
  exact runG h2 hr hG (h3 s2 us ws (by rw [← r.length]; exact l1) (by rw [← rz.length]; exact l2)) I2 (vals_perm (r.append rz) pr) q2 rfl
theorem de_callK0 {W : Wd} {E : XK} {X : Cx} {k n l : Nat} {m : Opn} {p pos : Pos} {kws : List Keyword} {ks : List Str} {pr : List Nat} {Ks : DAf} (C : CalleeK X.prog X.w X.K X.mg X.base W k x n 0 ks pr m) (hr : Room k X.A) (hG : X.A.guards = some []) (hg : Gl X x)
    (hkw : DK W E X kws Ks) (hall : (backToKw pos (keywordEach kws X.env)).all (·.1.isSome) = true := by rfl) (hks : (backToKw pos (keywordEach kws X.env)).filterMap (·.1) = ks := by rfl) (hl : ks.length = l := by rfl)
    (hdb : (x == ("__debug__" : Str)) = false := by decide)
    (hpl : ((backTo pos (starEach [] X.env)).any (·.1) || (backToKw pos (keywordEach kws X.env)).any (·.1.isNone)) = false := by rfl) : DE W E X (.Call (.Name x p) [] kws pos) (dCallK n 0 l pr m dNil Ks) := by
  subst hl
  obtain ⟨⟨fd, ps, h1, h2, h3, h4⟩, g⟩ := C
  refine ⟨fun pins s σ H Q I h => wpAny_Call_Name_kw (ld_glob I hg g ?_ hdb)⟩
  have h' := tkw h
  refine PySem.W.callWith_KW0 (h₀ := X.base) (first := []) I.ok.mod.kin h4 hall ?_ hpl
  obtain ⟨env, S, μ, hE, hS, hp⟩ := h'
  have q := hp.at_ hS [] rfl
  refine thn (hkw.run pos pins s σ H _ I q) fun ws s2 ⟨zs, H2, I2, rz, l1, l2, q2⟩ => ⟨I2.kIn, ?_⟩
  rw [hks]
  exact runG h2 hr hG (h3 s2 [] ws rfl (by rw [← rz.length]; exact l2)) I2 (vals_perm (show Vals ([] ++ zs) ([] ++ ws) from by simpa using rz) pr) q2 rfl
/-- made from the head's facts -/
theorem callee_of {W : Wd} {ps : List Str} {k : Nat} {m : Opn} {dflt : List (Str × V)} (F : FunD K x x params body scope [] dflt (He.fAd K (x, none)) fd) (h : FnG P w K mg base k (He.fAd K (x, none)) fd ps (spD W ps.length m)) (g : mg x = some (.ref (He.fAd K (x, none))))
    (hb : ∀ (kV doc pm : Value) (an : Option Addr) (cdv ct : Value) (us : List Value), us.length = ps.length → bindArgs (PySem.W.fnOf x x params body scope .none kV doc pm an cdv ct) ⟨us, []⟩ = pure (ps.zip us)) : Callee P w K mg base W k x ps.length m :=
  ⟨⟨fd, ps, rfl, h, fun s us hl => F.bindsA (ps := ps) hb s us hl, F.kp⟩, g⟩
theorem calleeK_of {W : Wd} {ps : List Str} {k j : Nat} {m : Opn} {ks : List Str} {pr : List Nat} {dflt : List (Str × V)} (F : FunD K x x params body scope [] dflt (He.fAd K (x, none)) fd) (h : FnG P w K mg base k (He.fAd K (x, none)) fd ps (spD W ps.length m)) (g : mg x = some (.ref (He.fAd K (x, none))))
    (hb : ∀ (kV doc pm : Value) (an : Option Addr) (cdv ct : Value) (us ws : List Value), us.length = j → ws.length = ks.length → bindArgs (PySem.W.fnOf x x params body scope .none kV doc pm an cdv ct) ⟨us, ks.zip ws⟩ = pure (ps.zip (permL pr (us ++ ws)))) : CalleeK P w K mg base W k x ps.length j ks pr m := by
  refine ⟨⟨fd, ps, rfl, h, fun s us ws h1 h2 => ?_, F.kp⟩, g⟩
  obtain ⟨oc, od, dV, kV, doc, pm, an, cdv, ct, osl, rfl, lk, hcd, hD, hK⟩ := F.ex
  rcases hD with ⟨_, rfl⟩ | ⟨e, _⟩
  · exact .of_eq (hb kV doc pm an cdv ct us ws h1 h2)
  · exact absurd rfl e
end
/-! ### {} -/
section
variable {W : Wd} {E : XK} {X : Cx} {pos : Pos}
theorem de_dic : DE W E X (.Dict [] [] pos) (dC .dic) := pe_dnewK.imp fun σ H Q ⟨env, S, μ, hE, hS, hp⟩ => fun p hp0 => by
  refine hp _ _ (Le.new hp0) (hS.new hp0) _ ?_
  simp only [RelV', RelD]
  exact ⟨p, rfl, outM.new hS.is hp0, upd_same⟩
/-! ### repr -/
def bRepr : Val → Sto → Out Val := fun x S => match pyV x S with
  | some p => if p.showable = true ∧ p.hasDict = false ∧ p.depth ≤ 30 ∧ p.shown.length ≤ szL then .ok (.d (.str p.shown)) S else .bad
  | none => .bad
def rReprA (K : PySem.W.Frag) : List V → Hp → VK → Prop := fun vs H Q => ∃ v p, vs = [v] ∧ Dp K H v p ∧ p.showable = true ∧ p.hasDict = false ∧ p.depth ≤ 30 ∧ p.shown.length ≤ szL ∧ Q (.str p.shown) H
theorem call_reprA (hG : X.A.guards = some []) (hu : X.A.units + 64 < cLine) : CallR X (.builtin "repr") (rReprA X.K) := by
  intro pins s σ H xs us Q I r h
  obtain ⟨v, p, rfl, hd, h1, h2, h3, h4, q⟩ := h
  obtain ⟨u, rfl, ru⟩ := vals1 r
  have fin : ∀ (h' : Heap) (t : Tok) (tk : Nat), (∀ b o, s.heap.get? b = some o → h'.get? b = some o) → EP X pins σ Q (.str p.shown t) { s with heap := h', toks := tk } := fun h' t tk k => ⟨.str p.shown, H, I.kept k, ⟨_, rfl⟩, q⟩
  have hz : p.shown.length ≤ sizeLine := by rw [szL_eq]; exact h4
  obtain ⟨as, rd⟩ := Dp.reads I p v u hd ru
  cases hd with
  | non => cases ru; exact PySem.P.repr_of_none (fin s.heap _ _ fun _ _ e => e)
  | bl b => cases ru; exact PySem.P.repr_of_bool (fin s.heap _ _ fun _ _ e => e)
  | int i =>
    obtain ⟨t, rfl⟩ := ru
    simp only [PyData.showable, decide_eq_true_eq] at h1
    exact PySem.P.repr_of_int h1 (fin s.heap _ _ fun _ _ e => e)
  | str z =>
    obtain ⟨t, rfl⟩ := ru
    exact PySem.P.repr_of_str (fin s.heap _ _ fun _ _ e => e) hz
  | lst hs ha =>
    cases ru
    exact repr_of_reads' rd h1 (fun z => absurd (h2.symm.trans z) Bool.false_ne_true) hG (by omega) (fun _ _ e => e) (fun h' t tk k => fin h' t tk k) hz
  | tup hs ha =>
    cases ru
    exact repr_of_reads' rd h1 (fun z => absurd (h2.symm.trans z) Bool.false_ne_true) hG (by omega) (fun _ _ e => e) (fun h' t tk k => fin h' t tk k) hz
theorem dc_repr : DCall W E (rReprA W.K) (o1 bRepr) := dcall1 fun x S H μ v Q s rv p => by
  unfold bRepr at p
  split at p
  · rename_i d e
    split at p
    · rename_i c
      exact ⟨v, d, rfl, pyV_rel s rv e, c.1, c.2.1, c.2.2.1, c.2.2.2, p.at_ s _ (rel_str _)⟩
    · exact p.elim
  · exact p.elim
theorem boot_repr' : bootBuiltins "repr" = some (.builtin "repr") := by decide +kernel
end
end Dn
set_option Elab.async false
set_option linter.all false
set_option maxRecDepth 100000
set_option maxHeartbeats 4000000
/-! ### t[::-1] of a tuple or a list -/
namespace Dn
open PySem PySem.Spec PyProof.Rows L2 GxR HT
section
variable {prog : Program} {w : World} {A : Around} {E : Value → Shared → Prop} {s : Shared}
theorem back_pick (xs : Array Value) : ((List.range xs.size).filterMap fun (k : Nat) => xs[(((xs.size : Int) - 1) + (k : Int) * (-1)).toNat]?).toArray = xs.toList.reverse.toArray := by
  congr 1
  refine List.ext_getElem? fun i => ?_
  have key : ∀ k ∈ List.range xs.size, xs[(((xs.size : Int) - 1) + (k : Int) * (-1)).toNat]? = some (xs.toList.reverse.getD k .none) := fun k hk => by
    have hk' : k < xs.size := List.mem_range.mp hk
    have e : (((xs.size : Int) - 1) + (k : Int) * (-1)).toNat = xs.size - 1 - k := by omega
    rw [e, List.getD_eq_getElem?_getD, List.getElem?_reverse (by simpa using hk')]
    have hl : xs.size - 1 - k < xs.size := by omega
    simp [hl]
  have e2 : (List.range xs.size).filterMap (fun (k : Nat) => xs[(((xs.size : Int) - 1) + (k : Int) * (-1)).toNat]?) = (List.range xs.size).map fun k => xs.toList.reverse.getD k .none := by
    have : ∀ l : List Nat, (∀ k ∈ l, xs[(((xs.size : Int) - 1) + (k : Int) * (-1)).toNat]? = some (xs.toList.reverse.getD k .none)) → l.filterMap (fun (k : Nat) => xs[(((xs.size : Int) - 1) + (k : Int) * (-1)).toNat]?) = l.map fun k => xs.toList.reverse.getD k .none := by
      intro l
      induction l with
      | nil => intro _; rfl
      | cons a r ih => intro h; rw [List.filterMap_cons, h a List.mem_cons_self, List.map_cons, ih fun k hk => h k (List.mem_cons_of_mem _ hk)]
    exact this _ key
  rw [e2]
  by_cases hi : i < xs.size
  · rw [List.getElem?_map, List.getElem?_range hi]
    have hl : i < xs.toList.reverse.length := by simpa using hi
    simp only [Option.map_some, List.getD_eq_getElem?_getD, List.getElem?_eq_getElem hl, Option.getD_some]
  · rw [List.getElem?_eq_none (by simp; omega), List.getElem?_eq_none (by simp; omega)]
theorem slice_back {sl : Addr} {vl vu vs : Value} {n : Nat} {Q : Int × Int × Nat → Shared → Prop} (hs : s.heap.IsSliceOf sl vl vu vs) (pl : IsPart vl none) (pu : IsPart vu none) (ps : IsPart vs (some (-1)))
    (h : Q ((n : Int) - 1, -1, n) s) : wpAny (model prog w) A (Builtin.Slice.sliceApplied (.ref sl) (pure (n : Int))) Q E s := by
  obtain ⟨o, ho, hc, hd⟩ := id hs
  cases pl
  cases pu
  cases ps with
  | int i t =>
    unfold Builtin.Slice.sliceApplied Builtin.Slice.sliceFields
    refine wpAny_bind (wpAny_bind (wpAny_field ho hd (x := .none) rfl (wpAny_bind (wpAny_field ho hd (x := .none) rfl (wpAny_bind (wpAny_field ho hd (x := .int (-1) t) rfl (wpAny_pure ?_)))))))
    refine wpAny_bind (slicePart_int ?_)
    show wpAny _ _ (if ((-1 : Int) == 0) = true then _ else _) _ _ s
    rw [if_neg (by decide)]
    refine wpAny_bind (slicePart_none (wpAny_bind (slicePart_none (wpAny_bind (wpAny_pure ?_)))))
    have e : Builtin.Slice.slicePlaces ((n : Int) - 1) (-1) (-1) = n := by
      unfold Builtin.Slice.slicePlaces
      rw [if_neg (by decide)]
      by_cases hn : n = 0
      · subst hn; decide
      · rw [if_pos (by omega)]
        have : ((n : Int) - 1 - -1 - 1) / (- -1) + 1 = n := by
          have e2 : (- -1 : Int) = 1 := by decide
          rw [e2, Int.ediv_one]
          omega
        rw [this]
        omega
    show wpAny _ _ (pure ((n : Int) - 1, (-1 : Int), Builtin.Slice.slicePlaces ((n : Int) - 1) (-1) (-1))) _ _ s
    rw [e]
    exact wpAny_pure h
theorem getItem_tuple_back {t sl : Addr} {items : Array Value} {vl vu vs : Value} {Q : Value → Shared → Prop} (ht : IsTup s.heap t items) (hs : s.heap.IsSliceOf sl vl vu vs) (pl : IsPart vl none) (pu : IsPart vu none) (ps : IsPart vs (some (-1)))
    (h : Q (.ref s.heap.objs.size) { s with heap := s.heap.push { cls := .type "tuple", data := .seq items.toList.reverse.toArray } }) (hsz : items.size ≤ sizeLine) : wpAny (model prog w) A (getItem (.ref t) (.ref sl)) Q E s := by
  have hz : sizeOk (.seq items.toList.reverse.toArray) := by
    show items.toList.reverse.toArray.size ≤ sizeLine
    simpa using hsz
  obtain ⟨o, ho, hc, hd⟩ := id hs
  have hT : s.TypeIs (.ref sl) "slice" := ⟨o, ho, hc⟩
  unfold getItem
  try with_reducible refine wpAny_holding ?_
  first | refine wpAny_bind (wpAny_pure ?_) | skip
  refine wpAny_bind (wpAny_sequenceKey ht.typeIs (by decide) ?_)
  refine wpAny_bind (wpAny_callSpecial?_slot (name := Str.ofString "__getitem__") ht.typeIs PyProof.Rows.slot_tuple_getitem (wpAny_call_entry PyProof.Rows.slot_tuple_getitem ht.typeIs entry_tuple_getitem ?_ (args_tuple_getitem _ _)))
  show wpAny _ _ (Builtin.Tuple.tupleItemsOf (.ref t) >>= _) _ _ s
  refine wpAny_bind (tupleItemsOf_ ht (wpAny_bind (wpAny_typeOf hT ?_)))
  rw [if_pos (by decide)]
  refine wpAny_bind (slice_back hs pl pu ps ?_)
  have no : ¬ ((((items.size : Int) - 1) == 0 && (-1 : Int) == 1 && items.size == items.size) = true) := by simp
  show wpAny _ _ (if (((items.size : Int) - 1) == 0 && (-1 : Int) == 1 && items.size == items.size) = true then _ else _) _ _ s
  rw [if_neg no, back_pick]
  first
    | exact wpAny_bind (m := Builtin.Tuple.tupleExact _) (wpAny_newObj_type (wpAny_pure ⟨_, rfl, wpAny_pure h⟩) hz)
    | exact wpAny_bind (m := Builtin.Tuple.tupleExact _) (wpAny_newObj_type (wpAny_bind (wpAny_pure (wpAny_pure ⟨_, rfl, wpAny_pure h⟩))) hz)
    | exact wpAny_bind (wpAny_bind (m := Builtin.Tuple.tupleExact _) (wpAny_newObj_type (wpAny_pure (wpAny_pure ⟨_, rfl, wpAny_pure h⟩)) hz))
    | exact wpAny_bind (wpAny_bind (m := Builtin.Tuple.tupleExact _) (wpAny_newObj_type (wpAny_pure ⟨_, rfl, wpAny_pure h⟩) hz))
end
section
variable {X : Cx} {W : Wd} {E : XK}
def tRevA (K : PySem.W.Frag) (te : TE) : TE := fun σ H Q => te σ H fun x H1 => ∃ a xs, x = .ref a ∧ ((SqL K H1 a xs ∧ ∀ p, H1 p = none → Q (.ref p) (upd H1 p (.lst xs.reverse))) ∨ (SqT K H1 a xs ∧ ∀ p, H1 p = none → Q (.ref p) (upd H1 p (.tup xs.reverse))))
theorem pe_back {e : Expr} {te : TE} {k : Nat} {p1 p2 p3 pos : Pos} (he : PE X e te) : PE X (.Subscript e (.Slice none none (some (.UnaryOp .USub (.Constant (.int 1) k p1) p2)) p3) pos) (tRevA X.K te) := by
  refine ⟨fun pins s0 σ H Q I h => Subscript_ (thn (he.run pins s0 σ H _ I h) fun v s1 ⟨x, H1, I1, r1, a, xs, ex, q⟩ => ?_)⟩
  subst ex
  cases r1
  have step : PO X (some (.UnaryOp .USub (.Constant (.int 1) k p1) p2)) (tPart (tUn (rU fun i => .int (-i)) (tC (.int 1)))) := po_some (pe_un un_neg pe_int)
  refine wpAny_Slice (thn (po_none.run pins s1 σ H1 (fun o H2 => o = none ∧ H2 = H1) I1 ⟨rfl, rfl⟩) fun vl s2 ⟨l, H2, I2, pl, el, e2⟩ => ?_)
  subst el e2
  refine thn (po_none.run pins s2 σ H2 (fun o H3 => o = none ∧ H3 = H2) I2 ⟨rfl, rfl⟩) fun vu s3 ⟨u, H3, I3, pu, eu, e3⟩ => ?_
  subst eu e3
  refine thn (step.run pins s3 σ H3 (fun o H4 => o = some (-1) ∧ H4 = H3) I3 ⟨1, rfl, -1, rfl, rfl, rfl⟩) fun vs s4 ⟨o, H4, I4, ps, eo, e4⟩ => ?_
  subst eo e4
  have I5 : Inv X pins σ H4 { s4 with heap := s4.heap.push { cls := .type "slice", data := .fields #[vl, vu, vs] } } := I4.kept (t' := s4.toks) fun b ob z => Heap.get?_push_of_some _ z
  show wpAny (model X.prog X.w) X.A (subscriptTail e (.Slice none none (some (.UnaryOp .USub (.Constant (.int 1) k p1) p2)) p3) (.ref a) (.ref s4.heap.objs.size)) (EP X pins σ Q) X.xe { s4 with heap := s4.heap.push { cls := .type "slice", data := .fields #[vl, vu, vs] } }
  rcases q with ⟨hx, q⟩ | ⟨hx, q⟩
  · obtain ⟨its, r, ht, hz⟩ := I5.list hx
    have hlen := r.length
    refine tail_any (ops := [.ref a, .ref s4.heap.objs.size]) ht.isList.typeIs (PySem.slot_list_getitem.lookup) ?_ (by with_unfolding_all rfl)
    refine wpAny_getItem_list_slice ht.isList (Heap.IsSliceOf.new _ vl vu vs) pl pu ps (by decide) ?_ (by rw [List.size_toArray]; omega)
    rw [PySem.W.krv_pick]
    exact ⟨.ref _, _, I5.laid (t' := s4.toks) (o := .lst xs.reverse) (fun b ob z => Heap.get?_push_of_some _ z) (Nat.le_refl _) ⟨by rw [List.length_reverse]; exact hz, _, 0, r.reverse, Heap.get?_push_size _ rfl⟩, rfl, q _ (I5.hok.fresh (Nat.le_refl _))⟩
  · obtain ⟨its, r, ht, hz⟩ := I5.tuple hx
    have hlen := r.length
    refine tail_any (ops := [.ref a, .ref s4.heap.objs.size]) ht.typeIs (PyProof.Rows.slot_tuple_getitem.lookup) ?_ (by with_unfolding_all rfl)
    refine getItem_tuple_back ht (Heap.IsSliceOf.new _ vl vu vs) pl pu ps ?_ (by rw [List.size_toArray]; omega)
    exact ⟨.ref _, _, I5.laid (t' := s4.toks) (o := .tup xs.reverse) (fun b ob z => Heap.get?_push_of_some _ z) (Nat.le_refl _) ⟨by rw [List.length_reverse]; exact hz, _, r.reverse, _, Heap.get?_push_size _ rfl, rfl, 0, rfl⟩, rfl, q _ (I5.hok.fresh (Nat.le_refl _))⟩
def oBack : Val → Sto → Out Val := fun x S => match x with
  | .d (.tup ds) => .ok (.d (.tup ds.reverse)) S
  | _ => match seqL x S with
    | some ds => .ok (.d (.lst ds.reverse)) S
    | none => .bad
theorem de_back {a : Expr} {f : DEf} {k : Nat} {p1 p2 p3 pos : Pos} (hK : X.K = W.K) (ha : DE W E X a f) : DE W E X (.Subscript a (.Slice none none (some (.UnaryOp .USub (.Constant (.int 1) k p1) p2)) p3) pos) (dUn oBack f) :=
  (pe_back ha).imp fun σ H Q ⟨env, S, μ, hE, hS, hp⟩ => ⟨env, S, μ, hE, hS, hp.bind.imp fun x S1 H1 μ1 l1 s1 p1 v rv => by
    rw [hK]
    unfold oBack at p1
    split at p1
    · obtain ⟨p, vs, rfl, q1, r1⟩ := seqT_rel rv rfl
      refine ⟨p, vs, rfl, .inr ⟨q1, fun c hc => ?_⟩⟩
      obtain ⟨k, r⟩ := post_tup p1 s1 hc r1.reverse
      exact k _ r
    · split at p1
      · rename_i ds e0
        obtain ⟨p, vs, rfl, q1, r1⟩ := seqL_rel s1 rv e0
        refine ⟨p, vs, rfl, .inl ⟨q1, fun c hc => ?_⟩⟩
        obtain ⟨k, r⟩ := post_lst p1 s1 hc r1.reverse
        exact k _ r
      · exact p1.elim⟩
end
end Dn
set_option Elab.async false
set_option linter.all false
set_option maxRecDepth 100000
set_option maxHeartbeats 4000000
/-! ### short words for the printed derivations -/
namespace Dn
open PySem PySem.Spec PyProof.Rows L2 GxR Gx
section
variable {W : Wd} {E : XK} {X : Cx} {pos : Pos}
theorem dv (i : Nat) {x : Str} (hN : X.N[i]? = some x := by rfl) (hv : Vis X.env.scope x := by first | exact Or.inl rfl | exact Or.inr (Or.inl rfl) | exact Or.inr (Or.inr rfl)) (hd : (x == ("__debug__" : Str)) = false := by decide)
    (hcd : (x == ("__classdict__" : Str)) = false := by decide) : DE W E X (.Name x pos) (dVar i) := de_var hN hv hd hcd
theorem dgn (i : Nat) {x : Str} (hn : X.N.Nodup) (hi : X.N[i]? = some x := by rfl) (hx : Loc X.env.scope x := by first | exact Or.inl rfl | exact Or.inr rfl) (hf : X.fn x = true ∨ X.env.scope.names.lookup x = some .local := by first | exact .inl rfl | exact .inr rfl) : DG W E X (.Name x pos) (dgName i) := dg_name hn hi hx hf
theorem dgwn {vs : List Nat} (i : Nat) {x : Str} (hn : X.N.Nodup) (hv : i ∈ vs := by decide) (hi : X.N[i]? = some x := by rfl) (hx : Loc X.env.scope x := by first | exact Or.inl rfl | exact Or.inr rfl) (hf : X.fn x = true ∨ X.env.scope.names.lookup x = some .local := by first | exact .inl rfl | exact .inr rfl) : DGw W E vs X (.Name x pos) (dgName i) := dgw_name hv hn hi hx hf
theorem dset (i : Nat) {x : Str} {e : Expr} {F : DEf} {pos' : Pos} (hn : X.N.Nodup) (he : DE W E X e F) (hi : X.N[i]? = some x := by rfl) (hx : Loc X.env.scope x := by first | exact Or.inl rfl | exact Or.inr rfl) (hs : swapsWith e (some (.Name x pos')) pos.line X.env = pure false := by rfl)
    (hf : X.fn x = true ∨ X.env.scope.names.lookup x = some .local := by first | exact .inl rfl | exact .inr rfl) : DS W E X (.Assign [.Name x pos'] e pos) (dAsg F (dgName i)) := ds_set hn hi hx he hs hf
end
end Dn
set_option Elab.async false
set_option linter.all false
set_option maxRecDepth 100000
set_option maxHeartbeats 2000000
/-! enumerate over a tuple, over a list -/
namespace Dn
open PySem PySem.Spec PyProof.Rows L2 GxR
theorem en_new (l : Addr) (items : Array Value) (n : Nat) (dd : Option Addr) (sl : Array (Option Value)) :
    Meets (Builtin.«enumerate.__new__» ⟨[.type "enumerate", .ref l], []⟩) (fun _ R s => s.heap.get? l = some { cls := .type "tuple", dict := dd, data := .seq items n, slots := sl } ∧
      R (.ok (.ret (.ref (s.heap.push { cls := .type "tuple_iterator", data := .fields #[.ref l, .int 0 0] }).objs.size)))
        { s with heap := (s.heap.push { cls := .type "tuple_iterator", data := .fields #[.ref l, .int 0 0] }).push { cls := .type "enumerate", data := .fields #[.none, .bool false, .ref s.heap.objs.size, rawInt 0, .none, .none] } }) :=
  .of_wp fun prog w A R s h => by
    obtain ⟨hp, g, dr, tk, os⟩ := s
    obtain ⟨hl, h⟩ := h
    have hsub := sub_enumerate
    have hT : Heap.IsTuple (Shared.heap ⟨hp, g, dr, tk, os⟩) l items := ⟨_, hl, rfl, n, rfl⟩
    wp_walk using AutoSeq1.wpAny_loadPart' hl
    refine wpAny_stack_any fun st => wpAny_pure ?_
    split
    · rename_i c _ _ _ _ _
      cases (c == Value.type "enumerate")
      · wp_walk using AutoSeq1.wpAny_loadPart' hl, wpAny_pyIter_tuple hT
        exact ⟨_, rfl, h⟩
      · wp_walk using AutoSeq1.wpAny_loadPart' hl, wpAny_pyIter_tuple hT
        exact ⟨_, rfl, h⟩
    · wp_walk using AutoSeq1.wpAny_loadPart' hl, wpAny_pyIter_tuple hT
      exact ⟨_, rfl, h⟩
section
variable {prog : Program} {w : World} {A : Around} {E : Value → Shared → Prop} {s : Shared}
theorem en_call {l : Addr} {items : Array Value} {Q : Value → Shared → Prop} (hL : IsTup s.heap l items)
    (h : ∀ h', IsEnum h' (s.heap.objs.size + 1) s.heap.objs.size 0 .none → h'.IsTupleIter s.heap.objs.size l 0 → (∀ b o, s.heap.get? b = some o → h'.get? b = some o) → Q (.ref (s.heap.objs.size + 1)) { s with heap := h' }) :
    wpAny (model prog w) A (call (.type "enumerate") [.ref l]) Q E s := by
  obtain ⟨⟨c, dct, dt, sl⟩, hl, hc, n, hd⟩ := hL
  replace hc : c = .type "tuple" := hc
  replace hd : dt = .seq items n := hd
  subst hc hd
  refine callType_new F.called_enumerate (by decide) (F.typeCall_enumerate_1 _) (F.newCall_enumerate_1 _) (fun obj => F.args_object_init_2 obj _) F.entry_enumerate_new (en_new l items n dct sl) ⟨hl, ?_⟩
  have hz : (s.heap.push { cls := .type "tuple_iterator", data := .fields #[.ref l, .int 0 0] }).objs.size = s.heap.objs.size + 1 := Heap.size_push ..
  show _ ∧ _
  rw [hz]
  have he : IsEnum ((s.heap.push { cls := .type "tuple_iterator", data := .fields #[.ref l, .int 0 0] }).push
      { cls := .type "enumerate", data := .fields #[.none, .bool false, .ref s.heap.objs.size, rawInt 0, .none, .none] }) (s.heap.objs.size + 1) s.heap.objs.size 0 .none := by
    have q := Heap.get?_push_size (s.heap.push { cls := .type "tuple_iterator", data := .fields #[.ref l, .int 0 0] })
      (o := { cls := .type "enumerate", data := .fields #[.none, .bool false, .ref s.heap.objs.size, rawInt 0, .none, .none] }) rfl
    rw [hz] at q; exact q
  exact ⟨⟨_, he, rfl⟩, h _ he ⟨_, Heap.get?_push_of_some _ (Heap.get?_push_size _ rfl), rfl, rfl⟩ fun b o x => Heap.get?_push_of_some _ (Heap.get?_push_of_some _ x)⟩
end
/-- the tuple at a as it stands at each turn, each item in a new pair -/
def IteT (K : PySem.W.Frag) (a : Addr) : It :=
  ⟨fun i H => ∃ (xs : List V) (x : V), SqT K H a xs ∧ xs[i]? = some x, fun i H v H' => ∃ T x, v = .ref T ∧ H T = none ∧ H' = upd H T (.tup [.int (i : Nat), x]) ∧ ∀ xs, SqT K H a xs → xs[i]? = some x, fun i H => ∃ xs : List V, SqT K H a xs ∧ xs.length = i⟩
theorem turn_enT {P : Program} {w : World} {K : PySem.W.Frag} {elts : List Expr} {kk : Nat} {tpos : Pos} (a e it : Addr) :
    Turn P w K (.Tuple elts kk tpos) (IteT K a) [e, it] e (fun i h => (∃ old, IsEnum h e it ((i : Nat) : Int) old) ∧ h.IsTupleIter it a i ∧ e ≠ it ∧ e ≠ a ∧ a ≠ it) where
  mem := by simp
  obj := fun i h st b hb => by
    obtain ⟨⟨old, he⟩, ⟨o, ho, hc, hd⟩, _⟩ := st
    have q : b = e ∨ b = it := by simpa using hb
    rcases q with z | z
    · rw [z]; exact ⟨_, he, fun v q => nomatch q⟩
    · rw [z]; exact ⟨o, ho, fun v q => by rw [hd] at q; cases q⟩
  keep := fun i h h' st k => let ⟨⟨old, he⟩, hi, hne⟩ := st; ⟨⟨old, k e (by simp) _ he⟩, hi.at fun o q => k it (by simp) o q, hne⟩
  item := by
    intro X hP hw hK hc i pins s σ H E I hf st hg
    subst hP hw hK
    obtain ⟨⟨old, he⟩, hit, hne, hea, hai⟩ := st
    obtain ⟨xs, x, hq, hx⟩ := hg
    obtain ⟨its, rv, p, hz⟩ := I.tuple hq
    obtain ⟨u, hu, ru⟩ := rv.get hx
    have hel : e < s.heap.objs.size := Heap.lt_size he
    have hil : it < s.heap.objs.size := by obtain ⟨_, q, _⟩ := hit; exact Heap.lt_size q
    have hlt : i < its.toArray.size := by
      have := (List.getElem?_eq_some_iff.mp hu).1
      simpa using this
    refine wpAny_pyNext_enum_itemD (Draws.tuple (A := X.A.in1) (show X.A.in1.handled = none from I.ok.hd hc) it a hai its.toArray) he ⟨hit, p⟩ hlt hne (by simp [hne, hea]) fun x' h' tk hp ho hst hT hsz hk => ?_
    obtain ⟨hit', hp'⟩ := hst
    have ex : x' = u := by
      have hu' : its.toArray[i]? = some u := by simpa using hu
      rw [hu'] at hp
      cases hp; rfl
    subst ex
    refine ⟨_, rfl, wpAny_letOwnedTupleGo_enum (s := { s with heap := h', toks := tk + 1 }) ho fun h'' he' sb => ?_⟩
    have hT2 : h''.get? s.heap.objs.size = some { cls := .type "tuple", data := .seq #[.int i tk, x'] } := (sb.2 _ (Nat.ne_of_gt hel)).trans hT
    have new : ObjOk X.prog X.w (upd H s.heap.objs.size (.tup [.int (i : Nat), x])) h'' s.heap.objs.size (.tup [.int (i : Nat), x]) :=
      ⟨by show 2 ≤ sizeLine; decide, [.int i tk, x'], .cons ⟨_, rfl⟩ (.cons ru .nil), ⟨_, hT2, rfl, _, rfl⟩⟩
    have I1 : Inv X pins σ (upd H s.heap.objs.size (.tup [.int (i : Nat), x])) { s with heap := h'', toks := tk + 1 } :=
      I.turnedNew (ch := [e, it]) (fun b ob hb q => (sb.2 b (fun z => hb (by simp [z]))).trans (hk b ob (fun z => hb (by simp [z])) (fun z => hb (by simp [z])) q)) hf (Nat.le_refl _) new
    refine ⟨.ref s.heap.objs.size, _, I1, rfl, ⟨_, x, rfl, I.hok.fresh (Nat.le_refl _), rfl, fun ys hy => by rw [I.tuple_inj hy hq]; exact hx⟩, ⟨⟨x', ?_⟩, hit'.at fun o q => (sb.2 it (Ne.symm hne)).trans q, hne, hea, hai⟩, fun b hb => ?_⟩
    · have e1 : ((i + 1 : Nat) : Int) = (i : Int) + 1 := by omega
      rw [e1]; exact he'
    · have hb' : b < s.heap.objs.size := by
        have q : b = e ∨ b = it := by simpa using hb
        rcases q with z | z
        · rw [z]; exact hel
        · rw [z]; exact hil
      rw [upd_ne (Nat.ne_of_lt hb')]
      exact (hf b hb).1
  done := by
    intro X hP hw hK hc i pins s σ H E I hf st hg
    subst hP hw hK
    obtain ⟨⟨old, he⟩, hit, hne, hea, hai⟩ := st
    obtain ⟨xs, hq, hx⟩ := hg
    obtain ⟨its, rv, p, hz⟩ := I.tuple hq
    obtain ⟨f0, f1, f2, f3, f4, f5⟩ := hf it (by simp)
    have hl := rv.length
    have ei : i = its.toArray.size := by simp; omega
    subst ei
    exact wpAny_pyNext_enum_endD (Draws.tuple (A := X.A.in1) (show X.A.in1.handled = none from I.ok.hd hc) it a hai its.toArray) he ⟨hit, p⟩ fun h' eb => ⟨rfl, I.turned (t' := s.toks) (fun b o hb q => eb b o hb q) f0 f1 f3 f4 f5⟩
  self := fun A i s Q E st h => let ⟨⟨_, he⟩, _⟩ := st; wpAny_pyIter_enum he h
def iEnA (K : PySem.W.Frag) (ta : TA) : TI := fun σ H R => ta σ H fun vs H1 => ∃ a xs, vs = [.ref a] ∧ ((SqL K H1 a xs ∧ R (Ite K a) H1) ∨ (SqT K H1 a xs ∧ R (IteT K a) H1))
theorem pi_enA {X : Cx} {e : Expr} {ta : TA} {p pos tpos : Pos} {elts : List Expr} {kk : Nat} (hg : Gl X "enumerate") (hm : X.mg "enumerate" = none) (ha : PA X [e] ta) (hs : starEach [e] X.env = [(false, eval e X.env)] := by rfl) :
    PI X (.Tuple elts kk tpos) (.Call (.Name "enumerate" p) [e] [] pos) (iEnA X.K ta) := by
  refine ⟨fun pins s σ H R I h => ?_⟩
  refine Call_ (ld_blt I hg hm boot_enumerate (PyProof.Rows.callWith_type1 (thn (ha.run pos pins s σ H _ I h) fun us s1 ⟨vs, H1, I1, r1, q1⟩ => ?_) hs rfl))
  obtain ⟨a, xs, ex, hq⟩ := q1
  subst ex
  have fresh : ∀ b ∈ [s1.heap.objs.size + 1, s1.heap.objs.size], FpOk X pins H1 b := fun b hb => by
    have q : b = s1.heap.objs.size + 1 ∨ b = s1.heap.objs.size := by simpa using hb
    have hle : s1.heap.objs.size ≤ b := by omega
    exact I1.fpOk hle (I1.hok.fresh hle)
  cases r1 with
  | cons r rr =>
    cases rr
    cases r
    rcases hq with ⟨hq, q⟩ | ⟨hq, q⟩
    · obtain ⟨its, rv, p', hz⟩ := I1.list hq
      refine call_enumerate_list p'.isList fun h' he hit hsz hk => wpAny_pyIter_enum he ?_
      have I2 : Inv X pins σ H1 { s1 with heap := h' } := I1.kept (t' := s1.toks) hk
      exact ⟨s1.heap.objs.size + 1, [s1.heap.objs.size + 1, s1.heap.objs.size], _, _, H1, rfl, I2, turn_enum a (s1.heap.objs.size + 1) s1.heap.objs.size, ⟨⟨.none, he⟩, hit, Nat.succ_ne_self _⟩, fresh, q⟩
    · obtain ⟨its, rv, p', hz⟩ := I1.tuple hq
      have hal : a < s1.heap.objs.size := by obtain ⟨o, q, _⟩ := p'; exact Heap.lt_size q
      refine en_call p' fun h' he hit hk => wpAny_pyIter_enum he ?_
      have I2 : Inv X pins σ H1 { s1 with heap := h' } := I1.kept (t' := s1.toks) hk
      exact ⟨s1.heap.objs.size + 1, [s1.heap.objs.size + 1, s1.heap.objs.size], _, _, H1, rfl, I2, turn_enT a (s1.heap.objs.size + 1) s1.heap.objs.size, ⟨⟨.none, he⟩, hit, Nat.succ_ne_self _, Nat.ne_of_gt (Nat.lt_succ_of_lt hal), Nat.ne_of_lt hal⟩, fresh, q⟩
/-- the pairs that enumerate tells -/
def enD (ds : List D) : List D := ((rngD 0 ds.length).zip ds).map fun p => .tup [p.1, p.2]
def iEnum (xs : List Val) (S : Sto) : Out Itm := match xs with
  | [x] => (match seqT x with
    | some ds => .ok ⟨enD ds, []⟩ S
    | none => match seqL x S with
      | some ds => .ok ⟨enD ds, wtV x S⟩ S
      | none => .bad)
  | _ => .bad
def diEnum (As : DAf) : DIf := fun env S => (As env S).bind fun xs S1 => Dn.iEnum xs S1
section
variable {W : Wd} {E : XK} {X : Cx} {H H' : Hp} {μ μ' : Mu} {S : Sto}
theorem rng_at {n i : Nat} (h : i < n) : (rngD 0 n)[i]? = some (.int (i : Nat)) := by
  simp [rngD, List.getElem?_map, List.getElem?_range h]
theorem di_enum {a : Expr} {As : DAf} {p tpos : Pos} {elts : List Expr} {kk : Nat} (hK : X.K = W.K) (hg : Gl X "enumerate") (hm : X.mg "enumerate" = none) (ha : DA W E X [a] As) (hs : starEach [a] X.env = [(false, eval a X.env)] := by rfl) :
    DI W E X (.Tuple elts kk tpos) (.Call (.Name "enumerate" p) [a] [] pos) (diEnum As) :=
  (pi_enA hg hm ha hs).imp fun σ H R ⟨env, S, μ, hE, hS, hp⟩ => ⟨env, S, μ, hE, hS, hp.bind.imp fun xs S1 H1 μ1 l1 s1 p1 vs rvs => by
    unfold Dn.iEnum at p1
    rw [hK]
    split at p1
    · rename_i x
      obtain ⟨v, rfl, rv⟩ := rel_one rvs
      split at p1
      · rename_i ds e1
        obtain ⟨a, rfl, h1⟩ := staysT s1 rv e1
        obtain ⟨us, q1, _⟩ := h1 H1 μ1 .refl
        refine ⟨a, us, rfl, .inr ⟨q1, p1.at_ s1 _ (pairs_ok (n := ds.length) (by simp [rngD]) (fun i H' μ' S' l s w hi => ?_) (fun H' μ' S' l s w => ?_) fun i H' μ' S' v H2 l s w hi yy => ?_)⟩⟩
        · obtain ⟨us, q1, r1⟩ := h1 H' μ' l
          obtain ⟨u, e3, _⟩ := r1.get (List.getElem?_eq_getElem hi)
          exact ⟨us, u, q1, e3⟩
        · obtain ⟨us, q1, r1⟩ := h1 H' μ' l
          exact ⟨us, q1, r1.length.symm⟩
        · obtain ⟨us, q1, r1⟩ := h1 H' μ' l
          have hd := List.getElem?_eq_getElem hi
          obtain ⟨u, e3, r3⟩ := r1.get hd
          obtain ⟨T, x, rfl, hT, rfl, f1⟩ := yy
          have g1 := f1 us q1
          rw [e3] at g1; cases g1
          exact ⟨T, _, _, _, _, rfl, hT, rfl, rng_at hi, hd, by simp [RelD], r3⟩
      · split at p1
        · rename_i ds e1
          obtain ⟨a, rfl, h1⟩ := stays s1 rv e1
          obtain ⟨us, q1, _⟩ := h1 H1 μ1 S1 .refl s1 wtV_ok
          refine ⟨a, us, rfl, .inl ⟨q1, p1.at_ s1 _ (pairs_ok (n := ds.length) (by simp [rngD]) (fun i H' μ' S' l s w hi => ?_) (fun H' μ' S' l s w => ?_) fun i H' μ' S' v H2 l s w hi yy => ?_)⟩⟩
          · obtain ⟨us, q1, r1⟩ := h1 H' μ' S' l s w
            obtain ⟨u, e3, _⟩ := r1.get (List.getElem?_eq_getElem hi)
            exact ⟨us, u, q1, e3⟩
          · obtain ⟨us, q1, r1⟩ := h1 H' μ' S' l s w
            exact ⟨us, q1, Nat.le_of_eq r1.length.symm⟩
          · obtain ⟨us, q1, r1⟩ := h1 H' μ' S' l s w
            have hd := List.getElem?_eq_getElem hi
            obtain ⟨u, e3, r3⟩ := r1.get hd
            obtain ⟨T, x, rfl, hT, rfl, f1⟩ := yy
            have g1 := f1 us q1
            rw [e3] at g1; cases g1
            exact ⟨T, _, _, _, _, rfl, hT, rfl, rng_at hi, hd, by simp [RelD], r3⟩
        · exact p1.elim
    · exact p1.elim⟩
end
end Dn
set_option Elab.async false
set_option linter.all false
set_option maxRecDepth 100000
set_option maxHeartbeats 4000000
/-! ### the law's own call -/
namespace Dn
open PySem PySem.Spec PyProof.Rows L2 GxR Gx
/-- what is tracked at the law's entry: the script, if it is no object of the written part, and the empty tables -/
noncomputable def entryH (K : PySem.W.Frag) (a : Addr) (vs : List Value) (ns : List Int) (ts : List Addr) : Hp := fun b =>
  if b ∈ ts then some (.tbl #[]) else if b = a ∧ K.lookup a = none then some (.frz { cls := .type "list", data := .seq vs.toArray } (.lst (ns.map V.int))) else none
section
variable {P : Program} {w : World} {K : PySem.W.Frag} {mg mb : Str → Option Value} {k : Nat} {fa a : Addr} {cs : List (Addr × Addr)} {fd : FuncData} {x : Str} {m : Opn} {s1 : Shared} {vs : List Value} {ns : List Int} {W : Wd}
theorem entry_tab {ts : List Addr} {b : Addr} (h : b ∈ ts) : entryH K a vs ns ts b = some (.tbl #[]) := if_pos h
theorem entry_script {ts : List Addr} (h : a ∉ ts) (hk : K.lookup a = none) : entryH K a vs ns ts a = some (.frz { cls := .type "list", data := .seq vs.toArray } (.lst (ns.map V.int))) := by
  unfold entryH
  rw [if_neg h, if_pos ⟨rfl, hk⟩]
theorem entry_cases {ts : List Addr} {b : Addr} : entryH K a vs ns ts b = none ∨ (b ∈ ts ∧ entryH K a vs ns ts b = some (.tbl #[])) ∨ (b = a ∧ K.lookup a = none ∧ entryH K a vs ns ts b = some (.frz { cls := .type "list", data := .seq vs.toArray } (.lst (ns.map V.int)))) := by
  unfold entryH
  by_cases h1 : b ∈ ts
  · exact .inr (.inl ⟨h1, if_pos h1⟩)
  · by_cases h2 : b = a ∧ K.lookup a = none
    · exact .inr (.inr ⟨h2.1, h2.2, by rw [if_neg h1, if_pos h2]⟩)
    · exact .inl (by rw [if_neg h1, if_neg h2])
/-- the law's def called at its entry, the def kept by a function of data that says True -/
theorem law_callG (KX : K.In s1.heap) (gN : s1.heap.Ns mainGlobals mg) (bN : s1.heap.Ns builtinsNs mb) (bb : ∀ x : Str, x ≠ "__name__" → mb x = bootBuiltins x) (lim : s1.heap.NoLimit) (gn : s1.gens = #[])
    (tE' : ∀ p ∈ cs, s1.heap.get? p.2 = some { cls := .none, data := .fields #[] }) (tK : ∀ p ∈ cs, K.lookup p.2 = none) (tC : ∀ p ∈ cs, PySem.W.CodeHd s1.heap p.1 p.2)
    (bmod : ∃ (bm : Addr) (ob : Obj), mg "__builtins__" = some (.ref bm) ∧ bm ≠ builtinsNs ∧ s1.heap.get? bm = some ob ∧ ob.cls = .type "module" ∧ ob.dict = some builtinsNs ∧ ob.data = .plain)
    (sc : s1.heap.get? a = some { cls := .type "list", data := .seq vs.toArray }) (isI : IntsAre vs ns) (short : ns.length ≤ sizeLine) (room : Room k callerA)
    (hW : W.K = K) (hWt : W.tabs = cs.map (·.2))
    (F : ∀ base : Heap, K.In base → base.Ns mainGlobals mg → (∀ p ∈ cs, TabB base mg p.1 p.2) → FnG P w K mg base k fa fd [x] (spD W 1 m)) (bd : ∀ (s : Shared) (u : Value), BindsTo s fd ⟨[u], []⟩ [(x, u)])
    (so : ∃ S', m [.d (.con (ns.map .int))] [] = .ok (.d (.bl true)) S') :
    codeAny (model P w) callerA (.call (.ref fa) ⟨[.ref a], []⟩) (fun r s' => r = .ok (.ret (.bool true)) ∧ OldK s1.heap s'.heap ∧ s'.os = s1.os ∧ AllBare s'.gens) s1 := by
  have items := vals_ints isI
  have same := isI.length
  have tabAt : ∀ b ∈ cs.map (·.2), s1.heap.get? b = some { cls := .none, data := .fields #[] } ∧ K.lookup b = none := fun b hb => by
    obtain ⟨p, hp, rfl⟩ := List.mem_map.mp hb
    exact ⟨tE' p hp, tK p hp⟩
  have apart : a ∉ cs.map (·.2) := fun z => by
    have q := (tabAt a z).1
    rw [sc] at q
    cases congrArg Obj.data (Option.some.inj q)
  generalize eH : entryH K a vs ns (cs.map (·.2)) = H
  have kinds : ∀ b, H b = none ∨ (b ∈ cs.map (·.2) ∧ H b = some (.tbl #[])) ∨ (b = a ∧ K.lookup a = none ∧ H b = some (.frz { cls := .type "list", data := .seq vs.toArray } (.lst (ns.map V.int)))) := fun b => by
    rw [← eH]; exact entry_cases
  -- what is no list and no empty record is not tracked
  have free : ∀ {b : Addr} {o : Obj}, s1.heap.get? b = some o → (∀ us n, o.data ≠ .seq us n) → o.data ≠ .fields #[] → H b = none := fun {b o} e n1 n2 => by
    rcases kinds b with z | ⟨z, _⟩ | ⟨z, _, _⟩
    · exact z
    · rw [(tabAt b z).1] at e
      cases e
      exact (n2 rfl).elim
    · rw [z, sc] at e
      cases e
      exact (n1 _ _ rfl).elim
  have hide : ∀ {b : Addr} {o : Obj}, s1.heap.get? b = some o → H b = none → (hidT s1.heap H).get? b = some o := fun e n => hidT_get e n
  have dictFree : ∀ {b : Addr} {o : Obj} {es : Array DictEntry} {ep : Nat}, s1.heap.get? b = some o → o.data = .dict es ep → H b = none := fun e d =>
    free e (fun _ _ z => by rw [d] at z; cases z) fun z => by rw [d] at z; cases z
  have nsH : ∀ {b : Addr} {f : Str → Option Value}, s1.heap.Ns b f → (hidT s1.heap H).Ns b f := fun {b f} ⟨o, es, ep, e, d, r⟩ => ⟨o, es, ep, hide e (dictFree e d), d, r⟩
  have Kfree : ∀ b o, K.lookup b = some o → H b = none := fun b o e => by
    rcases kinds b with z | ⟨z, _⟩ | ⟨z, zk, _⟩
    · exact z
    · rw [(tabAt b z).2] at e; cases e
    · rw [z, zk] at e; cases e
  have KB : K.In (hidT s1.heap H) := fun b o e => hide (KX b o e) (Kfree b o e)
  have modB : L2.Mod K mg (hidT s1.heap H) := ⟨KB, nsH gN, ⟨mb, nsH bN, bb⟩, let ⟨f, z1, z2⟩ := lim; ⟨f, nsH z1, z2⟩⟩
  have tabB : ∀ p ∈ cs, TabB (hidT s1.heap H) mg p.1 p.2 := fun p hp => by
    refine ⟨?_, ?_, fun z => ?_⟩
    · obtain ⟨o, us, file, tx, flags, tg, inF, text, tt, e1, r1, r2, r3, rest⟩ := tC p hp
      refine ⟨o, us, file, tx, flags, tg, inF, text, tt, hide e1 (free e1 (fun _ _ z => by rw [r2] at z; cases z) fun z => ?_), r1, r2, r3, rest⟩
      rw [r2] at z
      cases z
      simp at r3
    · obtain ⟨bm, ob, c1, c2, c3, c4, c5, c6⟩ := bmod
      refine ⟨bm, ob, c1, c2, fun q => ?_, fun q => ?_, hide c3 (free c3 (fun _ _ z => by rw [c6] at z; cases z) fun z => by rw [c6] at z; cases z), c4, c5, c6⟩
      · obtain ⟨o, es, ep, e, d, _⟩ := gN
        rw [q, e] at c3
        cases c3
        rw [d] at c6; cases c6
      · rw [q, tE' p hp] at c3
        cases c3
        cases c6
    · obtain ⟨o, es, ep, e, d, _⟩ := gN
      rw [z, tE' p hp] at e
      cases e
      cases d
  have okH : HOk P w H s1.heap := fun b u z => by
    rcases kinds b with q | ⟨q, q2⟩ | ⟨q, _, q2⟩
    · rw [q] at z; cases z
    · rw [q2] at z; cases z
      exact (tabAt b q).1
    · rw [q2] at z; cases z
      rw [q]
      exact ⟨sc, by rw [List.length_map]; exact short, vs, _, items, sc⟩
  have isScript : SqL K H a (ns.map V.int) := by
    cases hk : K.lookup a with
    | none => exact .inl (.inr ⟨_, by rw [← eH]; exact entry_script apart hk⟩)
    | some o =>
      have e := KX a o hk
      rw [sc] at e
      cases e
      exact .inr ⟨_, vs.toArray, _, hk, rfl, rfl, rfl, by rw [List.size_toArray, same]; exact short, by simpa using items⟩
  have en : Env0 P w K mg (hidT s1.heap H) callerA [] s1 H := ⟨rfl, modB, fun _ _ e => of_hidT e, Nat.le_of_eq (hidT_size _ _), trivial, fun b hb => absurd hb List.not_mem_nil, okH, .of_eq gn⟩
  have prom : spD W 1 m [.ref a] H (fun v _ => v = .bl true) fun _ _ _ => False := by
    refine ⟨rfl, [.d (.con (ns.map .int))], [], [], ?_, ⟨rfl, fun n _ b e => by simp at e, fun n c o e => by simp at e, fun n b e => by simp at e, fun T hT => ?_⟩, ?_⟩
    · have rl : ∀ l : List Int, RelDs W H [] (l.map .int) (l.map V.int) := fun l => by
        induction l with
        | nil => simp [RelDs]
        | cons i l ih => simp only [List.map_cons, RelDs]; exact ⟨_, _, rfl, by simp [RelD], ih⟩
      simp only [RelVs, RelV', RelD]
      exact ⟨_, [], rfl, ⟨a, _, rfl, CoL.of (hW ▸ isScript) (fun n e => by simp at e), rl ns⟩, rfl⟩
    · rw [hWt] at hT
      rw [← eH]
      exact ⟨#[], entry_tab hT, trivial⟩
    · obtain ⟨S', e⟩ := so
      rw [e]
      exact fun H' μ' _ _ v rv => bl_rel rv
  refine codeAny_mono ((F _ KB (nsH gN) tabB).run callerA [] s1 H _ [.ref a] [.ref a] _ _ room rfl en (bd s1 (.ref a)) (.cons rfl .nil) prom) fun r s' out => ?_
  match r, out with
  | .error _, out => exact out.elim
  | .ok .next, out => exact out.elim
  | .ok .brk, out => exact out.elim
  | .ok .cont, out => exact out.elim
  | .ok (.ret u), out =>
    obtain ⟨v, H', os', bare, un, okH', rv, q⟩ := out
    have q' : v = .bl true := q
    subst q'
    obtain rfl : u = Value.bool true := rv
    have keep : ∀ b o, b ∉ cs.map (·.2) → s1.heap.get? b = some o → s'.heap.get? b = some o := fun b o nb e => by
      rcases kinds b with z | ⟨z, _⟩ | ⟨z, _, z2⟩
      · exact un.keep b o e z (fun z => absurd z List.not_mem_nil) (fun z => absurd z List.not_mem_nil)
      · exact absurd z nb
      · obtain ⟨e1, _⟩ := okH b _ z2
        obtain ⟨e2, _⟩ := okH' b _ (un.frzs b _ _ z2)
        rw [e] at e1; cases e1
        exact e2
    refine ⟨rfl, ⟨fun b o e => ?_, fun b o e => ?_⟩, os', bare⟩
    · by_cases hb : b ∈ cs.map (·.2)
      · obtain ⟨p, hp, ep⟩ := List.mem_map.mp hb
        rcases kinds b with z | ⟨_, z⟩ | ⟨z, _, _⟩
        · rw [← eH, entry_tab hb] at z; cases z
        · obtain ⟨more, e2⟩ := un.tbls b #[] z
          subst ep
          rw [tE' p hp] at e
          cases e
          exact .inr (.inl ⟨((tC p hp).tab (tE' p hp)).isCodeTable, rfl, #[], more, rfl, okH' _ _ e2⟩)
        · exact absurd (z ▸ hb) apart
      · exact .inl (keep b o hb e)
    · by_cases hb : b ∈ cs.map (·.2)
      · rcases kinds b with z | ⟨_, z⟩ | ⟨z, _, _⟩
        · rw [← eH, entry_tab hb] at z; cases z
        · obtain ⟨more, e2⟩ := un.tbls b #[] z
          exact ⟨_, okH' _ _ e2⟩
        · exact absurd (z ▸ hb) apart
      · exact ⟨o, keep b o hb e⟩
/-- the walk over the head, by it -/
theorem walk_G {l : PySem.W.OpenLaw} {n k : Nat} {q : Program} {loose : List Str} {XP : (Str → Option Value) → Heap → Prop} {YP : World → Heap → Prop} {d : DefRec} {x : Str} {m : Opn}
    (hn : l.most = some n) (hn2 : n ≤ sizeLine) (hdf : d.params.defaults = []) (room : Room k callerA)
    (F : ∀ (w : World) (mg : Str → Option Value) (fa : Addr) (h : Heap), YP w h → h.Ns mainGlobals mg → mg d.name = some (.ref fa) → ∃ (K : PySem.W.Frag) (W : Wd) (fd : FuncData) (cs : List (Addr × Addr)), K.In h ∧ W.K = K ∧ W.tabs = cs.map (·.2) ∧
      (∀ p ∈ cs, h.get? p.2 = some { cls := .none, data := .fields #[] }) ∧ (∀ p ∈ cs, K.lookup p.2 = none) ∧ (∀ p ∈ cs, PySem.W.CodeHd h p.1 p.2) ∧ (∀ (s : Shared) (u : Value), BindsTo s fd ⟨[u], []⟩ [(x, u)]) ∧
      ∀ base : Heap, K.In base → base.Ns mainGlobals mg → (∀ p ∈ cs, TabB base mg p.1 p.2) → FnG l.prog w K mg base k fa fd [x] (spD W 1 m))
    (so : ∀ ns : List Int, ns.length ≤ n → (∀ z ∈ ns, Builtin.Int.intBits z ≤ 1048576) → ∃ S', m [.d (.con (ns.map .int))] [] = .ok (.d (.bl true)) S') :
    PySem.W.WalkO q loose XP YP l.row.toRowW d [] (fun f vs => PySem.call f vs) := by
  refine Att.attach_callB hn hdf fun w s0 s1 mg mb fa o pm cd doc a vs ns G Y ho hd hcd hmg sc isI hlen bits gn => ?_
  obtain ⟨K, W, fd, cs, KX, hW, hWt, t1, t2, t3, bd, hF⟩ := F w mg fa _ Y G.T.g hmg
  exact law_callG KX G.T.g G.T.b G.T.builtins G.T.nolimit gn t1 t2 t3 G.T.bmain sc isI (Nat.le_trans hlen hn2) room hW hWt hF bd (so ns hlen bits)
end
end Dn
set_option Elab.async false
set_option linter.all false
set_option maxRecDepth 100000
set_option maxHeartbeats 4000000
/-! ### lists put together as a new place; lists repeated -/
namespace Dn
open PySem PySem.Spec PyProof.Rows L2 GxR Gx
section
variable {W : Wd} {E : XK} {X : Cx} {pos : Pos}
def oAddC : Op2 := fun x y S => match trkL x S, trkL y S with
  | some a, some b => if a.length + b.length ≤ szL then .ok (.r S.length) (S ++ [.lst (a ++ b)]) else .bad
  | _, _ => .bad
theorem dop_addC : DOp W E rCat oAddC := by
  intro x y S H μ v w Q s rx ry h
  unfold oAddC at h
  split at h
  · rename_i a b e1 e2
    split at h
    · rename_i hz
      obtain ⟨p, vs, rfl, q1, r1⟩ := trkL_rel s rx e1
      obtain ⟨p', ws, rfl, q2, r2⟩ := trkL_rel s ry e2
      refine ⟨p, p', vs, ws, rfl, rfl, q1, q2, by rw [← r1.length, ← r2.length, szL_eq]; exact hz, fun c hc => ?_⟩
      obtain ⟨k, r⟩ := post_cell h s hc (r1.append r2)
      exact k _ r
    · exact h.elim
  · exact h.elim
theorem de_addC {a b : Expr} {f g : DEf} (ha : DE W E X a f) (hb : DE W E X b g) : DE W E X (.BinOp a .Add b pos) (dOp oAddC f g) := de_op op_cat dop_addC ha hb
def oRepL : Op2 := fun x y S => match trkL x S, y with
  | some a, .d (.int k) => if 0 ≤ k ∧ k ≤ 100000 ∧ a.length ≤ 100 then .ok (.d (.lst (List.replicate k.toNat a).flatten)) S else .bad
  | _, _ => .bad
def oRepC : Op2 := fun x y S => match trkL x S, y with
  | some a, .d (.int k) => if 0 ≤ k ∧ k ≤ 100000 ∧ a.length ≤ 100 then .ok (.r S.length) (S ++ [.lst (List.replicate k.toNat a).flatten]) else .bad
  | _, _ => .bad
theorem rep_size {n : Nat} {k : Int} (h1 : k ≤ 100000) (h2 : n ≤ 100) : n * k.toNat ≤ sizeLine := by
  rw [szL_eq]
  have : n * k.toNat ≤ 100 * 100000 := Nat.mul_le_mul h2 (by omega)
  exact Nat.le_trans this (by decide)
theorem dop_repL : DOp W E rRep oRepL := by
  intro x y S H μ v w Q s rx ry h
  unfold oRepL at h
  split at h
  · rename_i a k e1
    split at h
    · rename_i hz
      obtain ⟨p, vs, rfl, q1, r1⟩ := trkL_rel s rx e1
      refine ⟨p, k, vs, rfl, int_rel ry, q1, by omega, by omega, rep_size hz.2.1 (by rw [← r1.length]; exact hz.2.2), fun c hc => ?_⟩
      obtain ⟨k, r⟩ := post_lst h s hc (r1.rep _)
      exact k _ r
    · exact h.elim
  · exact h.elim
theorem dop_repC : DOp W E rRep oRepC := by
  intro x y S H μ v w Q s rx ry h
  unfold oRepC at h
  split at h
  · rename_i a k e1
    split at h
    · rename_i hz
      obtain ⟨p, vs, rfl, q1, r1⟩ := trkL_rel s rx e1
      refine ⟨p, k, vs, rfl, int_rel ry, q1, by omega, by omega, rep_size hz.2.1 (by rw [← r1.length]; exact hz.2.2), fun c hc => ?_⟩
      obtain ⟨k, r⟩ := post_cell h s hc (r1.rep _)
      exact k _ r
    · exact h.elim
  · exact h.elim
theorem de_repL {a b : Expr} {f g : DEf} (ha : DE W E X a f) (hb : DE W E X b g) : DE W E X (.BinOp a .Mult b pos) (dOp oRepL f g) := de_op op_rep dop_repL ha hb
theorem de_repC {a b : Expr} {f g : DEf} (ha : DE W E X a f) (hb : DE W E X b g) : DE W E X (.BinOp a .Mult b pos) (dOp oRepC f g) := de_op op_rep dop_repC ha hb
end
end Dn
set_option Elab.async false
set_option linter.all false
set_option maxRecDepth 100000
set_option maxHeartbeats 1000000
/-! ### reckoning with such functions -/
namespace Dn
open PySem PySem.Spec PyProof.Rows L2
/-- it comes to an end with Q -/
def Ok {α : Type} (r : Out α) (Q : α → Sto → Prop) : Prop := ∃ a S, r = .ok a S ∧ Q a S
section
variable {α β : Type} {Q : α → Sto → Prop} {a : α} {S : Sto} {x : Exn}
@[simp] theorem ok_ok : Ok (.ok a S) Q ↔ Q a S := ⟨fun ⟨b, T, e, q⟩ => by cases e; exact q, fun q => ⟨a, S, rfl, q⟩⟩
@[simp] theorem ok_bad : Ok (.bad : Out α) Q ↔ False := ⟨fun ⟨b, T, e, q⟩ => (by cases e), False.elim⟩
@[simp] theorem ok_exc : Ok (.exc x S : Out α) Q ↔ False := ⟨fun ⟨b, T, e, q⟩ => (by cases e), False.elim⟩
@[simp] theorem ok_bind {r : Out α} {k : α → Sto → Out β} {Q : β → Sto → Prop} : Ok (r.bind k) Q ↔ Ok r fun a S => Ok (k a S) Q := by
  cases r <;> simp
theorem Ok.mono {r : Out α} {Q' : α → Sto → Prop} (h : Ok r Q) (hq : ∀ a S, Q a S → Q' a S) : Ok r Q' := let ⟨a, S, e, q⟩ := h; ⟨a, S, e, hq a S q⟩
@[simp] theorem ok_ite {c : Prop} [Decidable c] {r r' : Out α} : Ok (if c then r else r') Q ↔ if c then Ok r Q else Ok r' Q := by by_cases h : c <;> simp [h]
end
/-! equations by constructors: nothing unfolds below a name that is not known yet -/
def getV (o : Option (Option Val)) (S : Sto) : Out Val := match o with
  | some (some x) => .ok x S
  | _ => .bad
@[simp] theorem getV_some (x : Val) (S : Sto) : getV (some (some x)) S = .ok x S := (rfl)
@[simp] theorem getV_none (S : Sto) : getV none S = .bad := (rfl)
@[simp] theorem getV_non (S : Sto) : getV (some none) S = .bad := (rfl)
@[simp] theorem dVar_eq (i : Nat) (env : Env) (S : Sto) : dVar i env S = getV env[i]? S := (rfl)
@[simp] theorem dC_eq (d : D) (env : Env) (S : Sto) : dC d env S = .ok (.d d) S := (rfl)
@[simp] theorem dOp_eq (o : Op2) (f g : DEf) (env : Env) (S : Sto) : dOp o f g env S = (f env S).bind fun x S1 => (g env S1).bind fun y S2 => o x y S2 := (rfl)
@[simp] theorem dUn_eq (o : Val → Sto → Out Val) (f : DEf) (env : Env) (S : Sto) : dUn o f env S = (f env S).bind fun x S1 => o x S1 := (rfl)
def toB (x : Val) (S : Sto) : Out Bool := match x with
  | .d (.bl b) => .ok b S
  | _ => .bad
@[simp] theorem toB_bl (b : Bool) (S : Sto) : toB (.d (.bl b)) S = .ok b S := (rfl)
@[simp] theorem dB_eq (f : DEf) (env : Env) (S : Sto) : dB f env S = (f env S).bind toB := (rfl)
def chain (o' : Op2) (y : Val) (h : Sto → Out Val) (z : Val) (S : Sto) : Out Val := match z with
  | .d (.bl true) => (h S).bind fun w S4 => o' y w S4
  | .d (.bl false) => .ok (.d (.bl false)) S
  | _ => .bad
@[simp] theorem chain_bl (o' : Op2) (y : Val) (h : Sto → Out Val) (b : Bool) (S : Sto) : chain o' y h (.d (.bl b)) S = if b = true then (h S).bind fun w S4 => o' y w S4 else .ok (.d (.bl false)) S := by cases b <;> rfl
@[simp] theorem dChain_eq (o o' : Op2) (f g h : DEf) (env : Env) (S : Sto) : dChain o o' f g h env S = (f env S).bind fun x S1 => (g env S1).bind fun y S2 => (o x y S2).bind (chain o' y (h env)) := (rfl)
@[simp] theorem dtAnd_eq (f g : DTf) (env : Env) (S : Sto) : dtAnd f g env S = (f env S).bind fun b S1 => if b = true then g env S1 else .ok false S1 := (rfl)
@[simp] theorem dtOr_eq (f g : DTf) (env : Env) (S : Sto) : dtOr f g env S = (f env S).bind fun b S1 => if b = true then .ok true S1 else g env S1 := (rfl)
@[simp] theorem dtNot_eq (f : DTf) (env : Env) (S : Sto) : dtNot f env S = (f env S).bind fun b S1 => .ok (!b) S1 := (rfl)
@[simp] theorem dAnd_eq (f g : DEf) (env : Env) (S : Sto) : dAnd f g env S = ((f env S).bind toB).bind fun b S1 => if b = true then g env S1 else .ok (.d (.bl false)) S1 := (rfl)
@[simp] theorem dOr_eq (f g : DEf) (env : Env) (S : Sto) : dOr f g env S = ((f env S).bind toB).bind fun b S1 => if b = true then .ok (.d (.bl true)) S1 else g env S1 := (rfl)
@[simp] theorem dNot_eq (f : DEf) (env : Env) (S : Sto) : dNot f env S = ((f env S).bind toB).bind fun b S1 => .ok (.d (.bl (!b))) S1 := (rfl)
@[simp] theorem dIf_eq (f : DTf) (F G : DEf) (env : Env) (S : Sto) : dIf f F G env S = (f env S).bind fun b S1 => if b = true then F env S1 else G env S1 := (rfl)
@[simp] theorem dNil_eq (env : Env) (S : Sto) : dNil env S = .ok [] S := (rfl)
@[simp] theorem dCons_eq (F : DEf) (As : DAf) (env : Env) (S : Sto) : dCons F As env S = (F env S).bind fun x S1 => (As env S1).bind fun xs S2 => .ok (x :: xs) S2 := (rfl)
@[simp] theorem dCall_eq (o : Opn) (As : DAf) (env : Env) (S : Sto) : dCall o As env S = (As env S).bind fun xs S1 => o xs S1 := (rfl)
@[simp] theorem dCallN_eq (n : Nat) (m : Opn) (As : DAf) (env : Env) (S : Sto) : dCallN n m As env S = (As env S).bind fun xs S1 => if xs.length = n then m xs S1 else .bad := (rfl)
@[simp] theorem dCallK_eq (n j l : Nat) (pr : List Nat) (m : Opn) (As Ks : DAf) (env : Env) (S : Sto) : dCallK n j l pr m As Ks env S = (As env S).bind fun xs S1 => (Ks env S1).bind fun ys S2 => if xs.length = j ∧ ys.length = l ∧ (permL pr (xs ++ ys)).length = n then m (permL pr (xs ++ ys)) S2 else .bad := (rfl)
def toO (x : Val) (S : Sto) : Out (Option Int) := match x with
  | .d (.int i) => .ok (some i) S
  | _ => .bad
@[simp] theorem toO_int (i : Int) (S : Sto) : toO (.d (.int i)) S = .ok (some i) S := (rfl)
@[simp] theorem dO0_eq (env : Env) (S : Sto) : dO0 env S = .ok none S := (rfl)
@[simp] theorem dO1_eq (f : DEf) (env : Env) (S : Sto) : dO1 f env S = (f env S).bind toO := (rfl)
@[simp] theorem dSl_eq (f : DEf) (lo hi : DOf) (env : Env) (S : Sto) : dSl f lo hi env S = (f env S).bind fun x S1 => (lo env S1).bind fun l S2 => (hi env S2).bind fun h S3 => oSl x l h S3 := (rfl)
@[simp] theorem dgName_eq (i : Nat) (x : Val) (env : Env) (S : Sto) : dgName i x env S = .ok (env.set i (some x)) S := (rfl)
@[simp] theorem dgNil_eq (env : Env) (S : Sto) : dgNil [] env S = .ok env S := (rfl)
@[simp] theorem dgCons_eq (g : DGf) (gs : DGsf) (x : D) (xs : List D) (env : Env) (S : Sto) : dgCons g gs (x :: xs) env S = (g (.d x) env S).bind fun env1 S1 => gs xs env1 S1 := (rfl)
@[simp] theorem dgTup_eq (n : Nat) (gs : DGsf) (ds : List D) (env : Env) (S : Sto) : dgTup n gs (.d (.tup ds)) env S = if ds.length = n then gs ds env S else .bad := (rfl)
@[simp] theorem dgSub_eq (f g : DEf) (x : Val) (env : Env) (S : Sto) : dgSub f g x env S = (f env S).bind fun o S1 => (g env S1).bind fun i S2 => (oSet o i x S2).bind fun _ S3 => .ok env S3 := (rfl)
def cSet (c : Option Cell) (n : Nat) (k : Int) (d : D) (S : Sto) : Out Unit := match c with
  | some (.lst ds) => (match ixN ds.length k with
    | some j => .ok () (S.set n (.lst (ds.set j d)))
    | none => .bad)
  | _ => .bad
@[simp] theorem oSet_eq (n : Nat) (k : Int) (d : D) (S : Sto) : oSet (.r n) (.d (.int k)) (.d d) S = cSet S[n]? n k d S := by
  unfold oSet cSet
  dsimp only
  all_goals (cases S[n]? with
  | none => rfl
  | some c => cases c <;> rfl)
def iSet (o : Option Nat) (n : Nat) (ds : List D) (d : D) (S : Sto) : Out Unit := match o with
  | some j => .ok () (S.set n (.lst (ds.set j d)))
  | none => .bad
@[simp] theorem iSet_some (j n : Nat) (ds : List D) (d : D) (S : Sto) : iSet (some j) n ds d S = .ok () (S.set n (.lst (ds.set j d))) := (rfl)
@[simp] theorem cSet_lst (ds : List D) (n : Nat) (k : Int) (d : D) (S : Sto) : cSet (some (.lst ds)) n k d S = iSet (ixN ds.length k) n ds d S := (rfl)
@[simp] theorem dNext_eq (env : Env) (S : Sto) : dNext env S = .ok (.nx env) S := (rfl)
def cont (g : DSf) (fl : Fl) (S : Sto) : Out Fl := match fl with
  | .nx env1 => g env1 S
  | fl => .ok fl S
@[simp] theorem cont_nx (g : DSf) (env : Env) (S : Sto) : cont g (.nx env) S = g env S := (rfl)
@[simp] theorem cont_ret (g : DSf) (x : Val) (S : Sto) : cont g (.ret x) S = .ok (.ret x) S := (rfl)
@[simp] theorem cont_brk (g : DSf) (env : Env) (S : Sto) : cont g (.brk env) S = .ok (.brk env) S := (rfl)
@[simp] theorem cont_cnt (g : DSf) (env : Env) (S : Sto) : cont g (.cnt env) S = .ok (.cnt env) S := (rfl)
@[simp] theorem dSeq_eq (f g : DSf) (env : Env) (S : Sto) : dSeq f g env S = (f env S).bind (cont g) := by
  unfold dSeq
  congr 1
@[simp] theorem dBrk_eq (env : Env) (S : Sto) : dBrk env S = .ok (.brk env) S := (rfl)
@[simp] theorem dCnt_eq (env : Env) (S : Sto) : dCnt env S = .ok (.cnt env) S := (rfl)
@[simp] theorem dRet_eq (F : DEf) (env : Env) (S : Sto) : dRet F env S = (F env S).bind fun x S1 => .ok (.ret x) S1 := (rfl)
@[simp] theorem dRetN_eq (env : Env) (S : Sto) : dRetN env S = .ok (.ret (.d .non)) S := (rfl)
@[simp] theorem dDrop_eq (F : DEf) (env : Env) (S : Sto) : dDrop F env S = (F env S).bind fun _ S1 => .ok (.nx env) S1 := (rfl)
@[simp] theorem dIfS_eq (c : DTf) (f g : DSf) (env : Env) (S : Sto) : dIfS c f g env S = (c env S).bind fun b S1 => if b = true then f env S1 else g env S1 := (rfl)
@[simp] theorem dAsg_eq (F : DEf) (g : DGf) (env : Env) (S : Sto) : dAsg F g env S = (F env S).bind fun x S1 => (g x env S1).bind fun env1 S2 => .ok (.nx env1) S2 := (rfl)
def par2 (i j : Nat) (env : Env) (xs : List Val) (S : Sto) : Out Fl := match xs with
  | [x, y] => .ok (.nx ((env.set i (some x)).set j (some y))) S
  | _ => .bad
@[simp] theorem par2_eq (i j : Nat) (env : Env) (x y : Val) (S : Sto) : par2 i j env [x, y] S = .ok (.nx ((env.set i (some x)).set j (some y))) S := (rfl)
@[simp] theorem dPar_eq (i j : Nat) (As : DAf) (env : Env) (S : Sto) : dPar i j As env S = (As env S).bind (par2 i j env) := (rfl)
def par3 (i j l : Nat) (env : Env) (xs : List Val) (S : Sto) : Out Fl := match xs with
  | [x, y, z] => .ok (.nx (((env.set i (some x)).set j (some y)).set l (some z))) S
  | _ => .bad
@[simp] theorem par3_eq (i j l : Nat) (env : Env) (x y z : Val) (S : Sto) : par3 i j l env [x, y, z] S = .ok (.nx (((env.set i (some x)).set j (some y)).set l (some z))) S := (rfl)
@[simp] theorem dPar3_eq (i j l : Nat) (As : DAf) (env : Env) (S : Sto) : dPar3 i j l As env S = (As env S).bind (par3 i j l env) := (rfl)
@[simp] theorem dYes_eq (env : Env) (S : Sto) : dYes env S = .ok true S := (rfl)
/-! operators -/
@[simp] theorem oSub_int (i j : Int) (S : Sto) : oSub (.d (.int i)) (.d (.int j)) S = .ok (.d (.int (i - j))) S := (rfl)
@[simp] theorem oLt_int (i j : Int) (S : Sto) : oLt (.d (.int i)) (.d (.int j)) S = .ok (.d (.bl (decide (i < j)))) S := (rfl)
@[simp] theorem oLe_int (i j : Int) (S : Sto) : oLe (.d (.int i)) (.d (.int j)) S = .ok (.d (.bl (decide (i ≤ j)))) S := (rfl)
@[simp] theorem oGt_int (i j : Int) (S : Sto) : oGt (.d (.int i)) (.d (.int j)) S = .ok (.d (.bl (decide (j < i)))) S := (rfl)
@[simp] theorem oGe_int (i j : Int) (S : Sto) : oGe (.d (.int i)) (.d (.int j)) S = .ok (.d (.bl (decide (j ≤ i)))) S := (rfl)
@[simp] theorem oAdd_int (i j : Int) (S : Sto) : oAdd (.d (.int i)) (.d (.int j)) S = .ok (.d (.int (i + j))) S := (rfl)
@[simp] theorem oAdd_tup (a b : List D) (S : Sto) : oAdd (.d (.tup a)) (.d (.tup b)) S = if a.length + b.length ≤ szL then .ok (.d (.tup (a ++ b))) S else .bad := (rfl)
@[simp] theorem oMul_int (i j : Int) (S : Sto) : oMul (.d (.int i)) (.d (.int j)) S = if cMul i j = true then .ok (.d (.int (i * j))) S else .bad := (rfl)
@[simp] theorem oMul_tup (a : List D) (k : Int) (S : Sto) : oMul (.d (.tup a)) (.d (.int k)) S = if a ≠ [] ∧ ((2 ≤ k ∧ k ≤ 1000 ∧ a.length ≤ 1000) ∨ k = 0 ∨ k = 1) then .ok (.d (.tup (List.replicate k.toNat a).flatten)) S else .bad := (rfl)
@[simp] theorem oDiv_int (i j : Int) (S : Sto) : oDiv (.d (.int i)) (.d (.int j)) S = if cDiv i j = true then .ok (.d (.int (i.fdiv j))) S else .bad := (rfl)
@[simp] theorem oMod_int (i j : Int) (S : Sto) : oMod (.d (.int i)) (.d (.int j)) S = if cMod i j = true then .ok (.d (.int (i.fmod j))) S else .bad := (rfl)
@[simp] theorem oPow_int (i j : Int) (S : Sto) : oPow (.d (.int i)) (.d (.int j)) S = if cPow i j = true then .ok (.d (.int (i ^ j.toNat))) S else .bad := (rfl)
@[simp] theorem oEqB_int (neg : Bool) (i j : Int) (S : Sto) : oEqB neg (.d (.int i)) (.d (.int j)) S = .ok (.d (.bl (xor neg (decide (i = j))))) S := (rfl)
@[simp] theorem oEqB_str (neg : Bool) (i j : Str) (S : Sto) : oEqB neg (.d (.str i)) (.d (.str j)) S = .ok (.d (.bl (xor neg (decide (i = j))))) S := (rfl)
@[simp] theorem oIsB_non (neg : Bool) (a : D) (S : Sto) : oIsB neg (.d a) (.d .non) S = .ok (.d (.bl (xor neg (isNon a)))) S := by cases a <;> rfl
@[simp] theorem oIsB_bl (neg a b : Bool) (S : Sto) : oIsB neg (.d (.bl a)) (.d (.bl b)) S = .ok (.d (.bl (xor neg (decide (a = b))))) S := (rfl)
@[simp] theorem oNeg_int (i : Int) (S : Sto) : oNeg (.d (.int i)) S = .ok (.d (.int (-i))) S := (rfl)
def optV (o : Option D) (S : Sto) : Out Val := match o with
  | some d => .ok (.d d) S
  | none => .bad
@[simp] theorem optV_some (d : D) (S : Sto) : optV (some d) S = .ok (.d d) S := (rfl)
@[simp] theorem oIx_tup (ds : List D) (i : Int) (S : Sto) : oIx (.d (.tup ds)) (.d (.int i)) S = optV (atI ds i) S := by
  unfold oIx optV; dsimp only; all_goals (cases atI ds i <;> rfl)
@[simp] theorem oIx_lst (ds : List D) (i : Int) (S : Sto) : oIx (.d (.lst ds)) (.d (.int i)) S = optV (atI ds i) S := by
  unfold oIx optV; dsimp only [seqL]; all_goals (cases atI ds i <;> rfl)
@[simp] theorem oIx_con (ds : List D) (i : Int) (S : Sto) : oIx (.d (.con ds)) (.d (.int i)) S = optV (atI ds i) S := by
  unfold oIx optV; dsimp only [seqL]; all_goals (cases atI ds i <;> rfl)
def cellIx (c : Option Cell) (i : Int) (S : Sto) : Out Val := match c with
  | some (.lst ds) => optV (atI ds i) S
  | _ => .bad
@[simp] theorem cellIx_lst (ds : List D) (i : Int) (S : Sto) : cellIx (some (.lst ds)) i S = optV (atI ds i) S := (rfl)
@[simp] theorem oIx_r (n : Nat) (i : Int) (S : Sto) : oIx (.r n) (.d (.int i)) S = cellIx S[n]? i S := by
  unfold oIx cellIx optV
  dsimp only [seqL]
  cases S[n]? with
  | none => rfl
  | some c =>
    cases c with
    | dead => rfl
    | lst ds => dsimp only; all_goals (cases atI ds i <;> rfl)
theorem atI_cast {α : Type} (xs : List α) (k : Nat) : atI xs (k : Int) = xs[k]? := by
  cases h : xs[k]? with
  | some v => exact atI_nat h
  | none =>
    have : xs.length ≤ k := List.getElem?_eq_none_iff.mp h
    unfold atI ixN
    rw [if_pos (by omega), if_neg (by omega)]
    rfl
@[simp] theorem atI_two {α : Type} (xs : List α) : atI xs 2 = xs[2]? := atI_cast xs 2
@[simp] theorem atI_three {α : Type} (xs : List α) : atI xs 3 = xs[3]? := atI_cast xs 3
@[simp] theorem atI_four {α : Type} (xs : List α) : atI xs 4 = xs[4]? := atI_cast xs 4
@[simp] theorem atI_zero {α : Type} (xs : List α) : atI xs 0 = xs[0]? := atI_cast xs 0
@[simp] theorem atI_one {α : Type} (xs : List α) : atI xs 1 = xs[1]? := atI_cast xs 1
@[simp] theorem o1_eq (o : Val → Sto → Out Val) (x : Val) (S : Sto) : o1 o [x] S = o x S := (rfl)
@[simp] theorem o2_eq (o : Op2) (x y : Val) (S : Sto) : o2 o [x, y] S = o x y S := (rfl)
@[simp] theorem bInt_int (i : Int) (S : Sto) : bInt (.d (.int i)) S = .ok (.d (.int i)) S := (rfl)
@[simp] theorem bAbs_int (i : Int) (S : Sto) : bAbs (.d (.int i)) S = .ok (.d (.int (if i < 0 then -i else i))) S := (rfl)
@[simp] theorem bMax2_int (i j : Int) (S : Sto) : bMax2 (.d (.int i)) (.d (.int j)) S = .ok (.d (.int (if j > i then j else i))) S := (rfl)
@[simp] theorem bMin2_int (i j : Int) (S : Sto) : bMin2 (.d (.int i)) (.d (.int j)) S = .ok (.d (.int (if j < i then j else i))) S := (rfl)
@[simp] theorem bGcd_int (i j : Int) (S : Sto) : bGcd (.d (.int i)) (.d (.int j)) S = .ok (.d (.int ((Nat.gcd i.natAbs j.natAbs : Nat) : Int))) S := (rfl)
@[simp] theorem bDivmod_int (i j : Int) (S : Sto) : bDivmod (.d (.int i)) (.d (.int j)) S = if 0 < j ∧ j < 1073741824 then .ok (.d (.tup [.int (i / j), .int (i % j)])) S else .bad := (rfl)
@[simp] theorem bLen_tup (ds : List D) (S : Sto) : bLen (.d (.tup ds)) S = .ok (.d (.int ds.length)) S := (rfl)
@[simp] theorem bLen_lst (ds : List D) (S : Sto) : bLen (.d (.lst ds)) S = .ok (.d (.int ds.length)) S := (rfl)
@[simp] theorem bLen_con (ds : List D) (S : Sto) : bLen (.d (.con ds)) S = .ok (.d (.int ds.length)) S := (rfl)
@[simp] theorem bTuple_tup (ds : List D) (S : Sto) : bTuple (.d (.tup ds)) S = .ok (.d (.tup ds)) S := (rfl)
@[simp] theorem bTuple_lst (ds : List D) (S : Sto) : bTuple (.d (.lst ds)) S = .ok (.d (.tup ds)) S := (rfl)
@[simp] theorem bList_tup (ds : List D) (S : Sto) : bList (.d (.tup ds)) S = .ok (.d (.lst ds)) S := (rfl)
@[simp] theorem oBack_tup (ds : List D) (S : Sto) : oBack (.d (.tup ds)) S = .ok (.d (.tup ds.reverse)) S := (rfl)
@[simp] theorem oSl_tup (ds : List D) (lo hi : Option Int) (S : Sto) : oSl (.d (.tup ds)) lo hi S = .ok (.d (.tup (cutL ds lo hi))) S := (rfl)
@[simp] theorem oSl_con (ds : List D) (lo hi : Option Int) (S : Sto) : oSl (.d (.con ds)) lo hi S = .ok (.d (.lst (cutL ds lo hi))) S := (rfl)
def cTuple (c : Option Cell) (S : Sto) : Out Val := match c with
  | some (.lst ds) => .ok (.d (.tup ds)) S
  | _ => .bad
@[simp] theorem cTuple_lst (ds : List D) (S : Sto) : cTuple (some (.lst ds)) S = .ok (.d (.tup ds)) S := (rfl)
@[simp] theorem bTuple_r (n : Nat) (S : Sto) : bTuple (.r n) S = cTuple S[n]? S := by
  unfold bTuple cTuple
  dsimp only [seqA, seqL]
  all_goals (cases S[n]? with
  | none => rfl
  | some c => cases c <;> rfl)
def cLen (c : Option Cell) (S : Sto) : Out Val := match c with
  | some (.lst ds) => .ok (.d (.int ds.length)) S
  | _ => .bad
@[simp] theorem cLen_lst (ds : List D) (S : Sto) : cLen (some (.lst ds)) S = .ok (.d (.int ds.length)) S := (rfl)
@[simp] theorem bLen_r (n : Nat) (S : Sto) : bLen (.r n) S = cLen S[n]? S := by
  unfold bLen cLen
  dsimp only [seqA, seqL]
  all_goals (cases S[n]? with
  | none => rfl
  | some c => cases c <;> rfl)
def cAppend (c : Option Cell) (n : Nat) (d : D) (S : Sto) : Out Val := match c with
  | some (.lst ds) => if ds.length < szL then .ok (.d .non) (S.set n (.lst (ds ++ [d]))) else .bad
  | _ => .bad
@[simp] theorem cAppend_lst (ds : List D) (n : Nat) (d : D) (S : Sto) : cAppend (some (.lst ds)) n d S = if ds.length < szL then .ok (.d .non) (S.set n (.lst (ds ++ [d]))) else .bad := (rfl)
@[simp] theorem mAppend_r (n : Nat) (d : D) (S : Sto) : mAppend (.r n) [.d d] S = cAppend S[n]? n d S := by
  unfold mAppend cAppend
  dsimp only
  all_goals (cases S[n]? with
  | none => rfl
  | some c => cases c <;> rfl)
def cMeth (o : Val → List Val → Sto → Out Val) (As : DAf) (env : Env) (x : Val) (S : Sto) (c : Option Cell) : Out Val := match c with
  | some (.lst _) => (As env S).bind fun xs S2 => o x xs S2
  | _ => .bad
@[simp] theorem cMeth_lst (o : Val → List Val → Sto → Out Val) (As : DAf) (env : Env) (x : Val) (S : Sto) (ds : List D) : cMeth o As env x S (some (.lst ds)) = (As env S).bind fun xs S2 => o x xs S2 := (rfl)
def meth (o : Val → List Val → Sto → Out Val) (As : DAf) (env : Env) (x : Val) (S : Sto) : Out Val := match seqL x S with
  | some _ => (As env S).bind fun xs S2 => o x xs S2
  | none => .bad
@[simp] theorem meth_r (o : Val → List Val → Sto → Out Val) (As : DAf) (env : Env) (n : Nat) (S : Sto) : meth o As env (.r n) S = cMeth o As env (.r n) S S[n]? := by
  unfold meth cMeth
  dsimp only [seqL]
  all_goals (cases S[n]? with
  | none => rfl
  | some c => cases c <;> rfl)
@[simp] theorem dMeth_eq (o : Val → List Val → Sto → Out Val) (f : DEf) (As : DAf) (env : Env) (S : Sto) : dMeth o f As env S = (f env S).bind fun x S1 => meth o As env x S1 := (rfl)
@[simp] theorem datas_nil : datas [] = some [] := (rfl)
@[simp] theorem datas_cons (x : D) (xs : List Val) : datas (.d x :: xs) = (datas xs).map (x :: ·) := (rfl)
def mkT (o : Option (List D)) (S : Sto) : Out Val := match o with
  | some ds => if ds.length ≤ szL then .ok (.d (.tup ds)) S else .bad
  | none => .bad
@[simp] theorem mkT_some (ds : List D) (S : Sto) : mkT (some ds) S = if ds.length ≤ szL then .ok (.d (.tup ds)) S else .bad := (rfl)
@[simp] theorem oTup_eq (xs : List Val) (S : Sto) : oTup xs S = mkT (datas xs) S := (rfl)
def mkC (o : Option (List D)) (S : Sto) : Out Val := match o with
  | some ds => if ds.length ≤ szL then .ok (.r S.length) (S ++ [.lst ds]) else .bad
  | none => .bad
@[simp] theorem mkC_some (ds : List D) (S : Sto) : mkC (some ds) S = if ds.length ≤ szL then .ok (.r S.length) (S ++ [.lst ds]) else .bad := (rfl)
@[simp] theorem oCell_eq (xs : List Val) (S : Sto) : oCell xs S = mkC (datas xs) S := (rfl)
def mkL (o : Option (List D)) (S : Sto) : Out Val := match o with
  | some ds => if ds.length ≤ szL then .ok (.d (.lst ds)) S else .bad
  | none => .bad
@[simp] theorem mkL_some (ds : List D) (S : Sto) : mkL (some ds) S = if ds.length ≤ szL then .ok (.d (.lst ds)) S else .bad := (rfl)
@[simp] theorem oLst_eq (xs : List Val) (S : Sto) : oLst xs S = mkL (datas xs) S := (rfl)
def cAdd (c : Option (List D)) (c' : Option (List D)) (S : Sto) : Out Val := match c, c' with
  | some a, some b => if a.length + b.length ≤ szL then .ok (.r S.length) (S ++ [.lst (a ++ b)]) else .bad
  | _, _ => .bad
@[simp] theorem cAdd_some (a b : List D) (S : Sto) : cAdd (some a) (some b) S = if a.length + b.length ≤ szL then .ok (.r S.length) (S ++ [.lst (a ++ b)]) else .bad := (rfl)
def cellL (c : Option Cell) : Option (List D) := match c with
  | some (.lst ds) => some ds
  | _ => none
@[simp] theorem cellL_lst (ds : List D) : cellL (some (.lst ds)) = some ds := (rfl)
@[simp] theorem trkL_r (n : Nat) (S : Sto) : trkL (.r n) S = cellL S[n]? := by
  unfold trkL cellL
  dsimp only
  all_goals (cases S[n]? with
  | none => rfl
  | some c => cases c <;> rfl)
@[simp] theorem trkL_lst (ds : List D) (S : Sto) : trkL (.d (.lst ds)) S = some ds := (rfl)
@[simp] theorem oAddC_eq (x y : Val) (S : Sto) : oAddC x y S = cAdd (trkL x S) (trkL y S) S := by
  unfold oAddC cAdd
  cases trkL x S <;> cases trkL y S <;> rfl
def lAdd (c : Option (List D)) (c' : Option (List D)) (S : Sto) : Out Val := match c, c' with
  | some a, some b => if a.length + b.length ≤ szL then .ok (.d (.lst (a ++ b))) S else .bad
  | _, _ => .bad
@[simp] theorem lAdd_some (a b : List D) (S : Sto) : lAdd (some a) (some b) S = if a.length + b.length ≤ szL then .ok (.d (.lst (a ++ b))) S else .bad := (rfl)
@[simp] theorem oAdd_r (n : Nat) (y : Val) (S : Sto) : oAdd (.r n) y S = lAdd (trkL (.r n) S) (trkL y S) S := by
  unfold oAdd lAdd
  dsimp only
  all_goals (cases trkL (.r n) S <;> cases trkL y S <;> rfl)
@[simp] theorem oAdd_lst (ds : List D) (y : Val) (S : Sto) : oAdd (.d (.lst ds)) y S = lAdd (some ds) (trkL y S) S := by
  unfold oAdd lAdd
  dsimp only [trkL_lst]
  all_goals (cases trkL y S <;> rfl)
@[simp] theorem oRepL_lst (ds : List D) (k : Int) (S : Sto) : oRepL (.d (.lst ds)) (.d (.int k)) S = if 0 ≤ k ∧ k ≤ 100000 ∧ ds.length ≤ 100 then .ok (.d (.lst (List.replicate k.toNat ds).flatten)) S else .bad := (rfl)
@[simp] theorem oRepC_lst (ds : List D) (k : Int) (S : Sto) : oRepC (.d (.lst ds)) (.d (.int k)) S = if 0 ≤ k ∧ k ≤ 100000 ∧ ds.length ≤ 100 then .ok (.r S.length) (S ++ [.lst (List.replicate k.toNat ds).flatten]) else .bad := (rfl)
def cExt (c : Option Cell) (n : Nat) (c' : Option (List D)) (S : Sto) : Out Val := match c, c' with
  | some (.lst ds), some es => if ds.length + es.length ≤ szL then .ok (.d .non) (S.set n (.lst (ds ++ es))) else .bad
  | _, _ => .bad
@[simp] theorem cExt_lst (ds es : List D) (n : Nat) (S : Sto) : cExt (some (.lst ds)) n (some es) S = if ds.length + es.length ≤ szL then .ok (.d .non) (S.set n (.lst (ds ++ es))) else .bad := (rfl)
@[simp] theorem mExtend_r (n : Nat) (y : Val) (S : Sto) : mExtend (.r n) [y] S = cExt S[n]? n (trkL y S) S := by
  unfold mExtend cExt
  dsimp only
  all_goals (cases S[n]? with
  | none => cases trkL y S <;> rfl
  | some c => cases c <;> cases trkL y S <;> rfl)
def isiV (o : Option Bool) (S : Sto) : Out Val := match o with
  | some b => .ok (.d (.bl b)) S
  | none => .bad
@[simp] theorem isiV_some (b : Bool) (S : Sto) : isiV (some b) S = .ok (.d (.bl b)) S := (rfl)
@[simp] theorem oIsi_d (t : Tn) (d : D) (S : Sto) : oIsi t (.d d) S = isiV (isi d t) S := by
  unfold oIsi isiV; dsimp only; all_goals (cases isi d t <;> rfl)
@[simp] theorem oFrz_d (d : D) (S : Sto) : oFrz (.d d) S = .ok (.d d) S := (rfl)
@[simp] theorem dFin_d (S : Sto) (d : D) (S' : Sto) : dFin S (.d d) S' = .ok (.d d) (S'.take S.length) := (rfl)
@[simp] theorem iRng1_eq (j : Int) (S : Sto) : iRng1 [.d (.int j)] S = if smallI j = true then .ok ⟨rngD 0 j.toNat, []⟩ S else .bad := (rfl)
@[simp] theorem diRng1_eq (As : DAf) (env : Env) (S : Sto) : diRng1 As env S = (As env S).bind fun xs S1 => iRng1 xs S1 := (rfl)
@[simp] theorem iSeq_tup (ds : List D) (S : Sto) : iSeq (.d (.tup ds)) S = .ok ⟨ds, []⟩ S := (rfl)
@[simp] theorem iSeq_lst (ds : List D) (S : Sto) : iSeq (.d (.lst ds)) S = .ok ⟨ds, []⟩ S := (rfl)
@[simp] theorem diSeq_eq (f : DEf) (env : Env) (S : Sto) : diSeq f env S = (f env S).bind fun x S1 => iSeq x S1 := (rfl)
@[simp] theorem dFor_eq (it : DIf) (g : DGf) (body : DSf) (env : Env) (S : Sto) : dFor it g body env S = (it env S).bind fun i S1 => dLoop g body i.wt i.ds env S1 := (rfl)
@[simp] theorem cMod_pos {i j : Int} : cMod i j = true ↔ j ≠ 0 := by simp [cMod]
@[simp] theorem ixN_lit {n : Nat} : ixN (n + 1) 0 = some 0 := by unfold ixN; rw [if_pos (by omega), if_pos (by omega)]; rfl
@[simp] theorem wtOk_nil' (S : Sto) : wtOk [] S ↔ True := ⟨fun _ => trivial, fun _ => wtOk_nil S⟩
theorem ok_fn {N : Nat} {body : DSf} {xs : List Val} {S : Sto} {Q : Val → Sto → Prop} (h : Ok (body (xs.map some ++ List.replicate (N - xs.length) none) S) fun fl S' => match fl with
    | .ret x => Ok (dFin S x S') Q
    | .nx _ => Q (.d .non) (S'.take S.length)
    | _ => False) : Ok (dFn N body xs S) Q := by
  obtain ⟨fl, S', e, q⟩ := h
  unfold dFn
  rw [e]
  cases fl with
  | nx env => exact ⟨_, _, rfl, q⟩
  | ret x => exact q
  | brk env => exact q.elim
  | cnt env => exact q.elim
/-- a loop, by what holds at each turn -/
theorem ok_loop {g : DGf} {body : DSf} {wt : List (Nat × List D)} {ds : List D} {env : Env} {S : Sto} {Q : Fl → Sto → Prop} (I : Nat → Env → Sto → Prop) (h0 : I 0 env S) (hw : ∀ i env S, I i env S → wtOk wt S)
    (hs : ∀ i d env S, ds[i]? = some d → I i env S → Ok (g (.d d) env S) fun env1 S1 => Ok (body env1 S1) fun fl S2 => match fl with
      | .nx e => I (i + 1) e S2
      | .cnt e => I (i + 1) e S2
      | .brk e => Q (.nx e) S2
      | .ret x => Q (.ret x) S2) (hd : ∀ env S, I ds.length env S → Q (.nx env) S) : Ok (dLoop g body wt ds env S) Q := by
  have key : ∀ (es : List D) (i : Nat) (env : Env) (S : Sto), ds.drop i = es → i + es.length = ds.length → I i env S → Ok (dLoop g body wt es env S) Q := by
    intro es
    induction es with
    | nil =>
      intro i env S e hl h
      unfold dLoop
      rw [if_pos (hw i env S h)]
      have : i = ds.length := by simpa using hl
      subst this
      exact ok_ok.mpr (hd env S h)
    | cons d es ih =>
      intro i env S e hl h
      unfold dLoop
      rw [if_pos (hw i env S h), ok_bind]
      have hi : i < ds.length := by simp at hl; omega
      have ed : ds[i]? = some d := by
        rw [List.drop_eq_getElem_cons hi] at e
        rw [List.getElem?_eq_getElem hi]
        exact congrArg some (List.cons.inj e).1
      have er : ds.drop (i + 1) = es := by
        rw [List.drop_eq_getElem_cons hi] at e
        exact (List.cons.inj e).2
      refine (hs i d env S ed h).mono fun env1 S1 h1 => ?_
      rw [ok_bind]
      refine h1.mono fun fl S2 h2 => ?_
      cases fl with
      | nx e' => exact ih (i + 1) e' S2 er (by simp at hl; omega) h2
      | cnt e' => exact ih (i + 1) e' S2 er (by simp at hl; omega) h2
      | brk e' => exact ok_ok.mpr h2
      | ret x => exact ok_ok.mpr h2
  exact key ds 0 env S (by simp) (by simp) h0
/-- a while, by what holds at each turn and a measure -/
theorem ok_while {c : DTf} {body : DSf} {env : Env} {S : Sto} {Q : Fl → Sto → Prop} (I : Nat → Env → Sto → Prop) (n : Nat) (h0 : I n env S)
    (hs : ∀ n env S, I n env S → Ok (c env S) fun b S1 => if b = true then Ok (body env S1) fun fl S2 => match fl with
      | .nx e => ∃ m, m < n ∧ I m e S2
      | .cnt e => ∃ m, m < n ∧ I m e S2
      | .brk e => Q (.nx e) S2
      | .ret x => Q (.ret x) S2
      else Q (.nx env) S1) : Ok (dWhile c body env S) Q := by
  have key : ∀ (N n : Nat), n ≤ N → ∀ env S, I n env S → Ok (dWhileN c body (N + 1) env S) Q := by
    intro N
    induction N with
    | zero =>
      intro n hn env S h
      unfold dWhileN
      rw [ok_bind]
      refine (hs n env S h).mono fun b S1 h1 => ?_
      cases b with
      | false => exact ok_ok.mpr (by simpa using h1)
      | true =>
        simp only [if_true] at h1 ⊢
        rw [ok_bind]
        refine h1.mono fun fl S2 h2 => ?_
        cases fl with
        | nx e => obtain ⟨m, hm, _⟩ := h2; omega
        | cnt e => obtain ⟨m, hm, _⟩ := h2; omega
        | brk e => exact ok_ok.mpr h2
        | ret x => exact ok_ok.mpr h2
    | succ N ih =>
      intro n hn env S h
      unfold dWhileN
      rw [ok_bind]
      refine (hs n env S h).mono fun b S1 h1 => ?_
      cases b with
      | false => exact ok_ok.mpr (by simpa using h1)
      | true =>
        simp only [if_true] at h1 ⊢
        rw [ok_bind]
        refine h1.mono fun fl S2 h2 => ?_
        cases fl with
        | nx e => obtain ⟨m, hm, hI⟩ := h2; exact ih m (by omega) e S2 hI
        | cnt e => obtain ⟨m, hm, hI⟩ := h2; exact ih m (by omega) e S2 hI
        | brk e => exact ok_ok.mpr h2
        | ret x => exact ok_ok.mpr h2
  have k := key n n (Nat.le_refl _) env S h0
  have ne : dWhileN c body (n + 1) env S ≠ .bad := fun z => by
    obtain ⟨_, _, e, _⟩ := k
    rw [z] at e; cases e
  rw [dWhile_of ne]
  exact k
/-- a comprehension whose items leave the store as it was: f tells the items -/
theorem ok_lc {it : DIf} {g : DGf} {te : DEf} {vs : List Nat} {env : Env} {S : Sto} {ds : List D} {f : D → D} {Q : Val → Sto → Prop} (hi : it env S = .ok ⟨ds, []⟩ S) (hl : ds.length ≤ szL)
    (hf : ∀ d ∈ ds, ∀ c, Ok (g (.d d) (wipeE env vs) (S ++ [c])) fun env1 S1 => Ok (te env1 S1) fun z S2 => z = .d (f d) ∧ S2 = S ++ [c]) (q : Q (.d (.lst (ds.map f))) S) : Ok (dLc it g dYes te vs env S) Q := by
  have key : ∀ (es acc : List D), (∀ d ∈ es, d ∈ ds) → acc.length + es.length ≤ szL → lcLoop g dYes te [] (wipeE env vs) S.length es acc (S ++ [.lst acc]) = .ok (acc ++ es.map f) (S ++ [.lst (acc ++ es.map f)]) := by
    intro es
    induction es with
    | nil =>
      intro acc _ _
      unfold lcLoop
      rw [if_pos ⟨wtOk_nil _, by simp⟩]
      simp
    | cons d es ih =>
      intro acc hm hz
      unfold lcLoop
      rw [if_pos (wtOk_nil _)]
      obtain ⟨env1, S1, e1, z, S2, e2, rfl, rfl⟩ := hf d (hm d List.mem_cons_self) (.lst acc)
      rw [e1]
      simp only [Out.bind_ok, dYes, if_true, e2]
      rw [if_pos ⟨by simp at hz; omega, by simp⟩]
      have e3 : (S ++ [Cell.lst acc]).set S.length (.lst (acc ++ [f d])) = S ++ [.lst (acc ++ [f d])] := by simp
      rw [e3, ih (acc ++ [f d]) (fun x hx => hm x (List.mem_cons_of_mem _ hx)) (by simp at hz ⊢; omega)]
      simp
  unfold dLc
  rw [hi]
  simp only [Out.bind_ok]
  rw [key ds [] (fun _ h => h) (by simpa using hl)]
  simpa using q
/-- all(..) likewise -/
theorem ok_allG {it : DIf} {g : DGf} {te : DEf} {vs : List Nat} {env : Env} {S : Sto} {ds : List D} {f : D → Bool} {Q : Val → Sto → Prop} (hi : it env S = .ok ⟨ds, []⟩ S)
    (hf : ∀ d ∈ ds, Ok (g (.d d) (wipeE env vs) S) fun env1 S1 => Ok (te env1 S1) fun z S2 => z = .d (.bl (f d)) ∧ S2 = S) (q : Q (.d (.bl (ds.all f))) S) : Ok (dAllG it g te vs env S) Q := by
  have key : ∀ (es : List D), (∀ d ∈ es, d ∈ ds) → allLoop g te [] (wipeE env vs) es S = .ok (.d (.bl (es.all f))) S := by
    intro es
    induction es with
    | nil => intro _; unfold allLoop; rw [if_pos (wtOk_nil _)]; rfl
    | cons d es ih =>
      intro hm
      unfold allLoop
      rw [if_pos (wtOk_nil _)]
      obtain ⟨env1, S1, e1, z, S2, e2, rfl, rfl⟩ := hf d (hm d List.mem_cons_self)
      rw [e1]
      simp only [Out.bind_ok, e2]
      cases hb : f d with
      | true => simp only [List.all_cons, hb, Bool.true_and]; exact ih fun x hx => hm x (List.mem_cons_of_mem _ hx)
      | false => simp [hb]
  unfold dAllG
  rw [hi]
  simp only [Out.bind_ok]
  rw [key ds fun _ h => h]
  exact ok_ok.mpr q
end Dn
set_option Elab.async false
set_option linter.all false
set_option maxRecDepth 100000
set_option maxHeartbeats 1000000
/-! ### data without objects, ints below 2^b, tuples and lists not longer than l -/
namespace Dn
open PySem PySem.Spec PyProof.Rows L2
mutual
def gD (b l : Nat) : D → Bool
  | .non => true
  | .bl _ => true
  | .int i => decide (i.natAbs < 2 ^ b)
  | .str _ => true
  | .tup ds => decide (ds.length ≤ l) && gDs b l ds
  | .lst ds => decide (ds.length ≤ l) && gDs b l ds
  | .con _ => false
  | .dic => true
  | .obj _ _ => false
def gDs (b l : Nat) : List D → Bool
  | [] => true
  | d :: ds => gD b l d && gDs b l ds
end
theorem gDs_all {b l : Nat} : ∀ {ds : List D}, gDs b l ds = true ↔ ∀ d ∈ ds, gD b l d = true
  | [] => by simp [gDs]
  | d :: ds => by simp [gDs, gDs_all (ds := ds)]
mutual
theorem gD_mono {b l b' l' : Nat} (hb : b ≤ b') (hl : l ≤ l') : ∀ d : D, gD b l d = true → gD b' l' d = true
  | .non, h => rfl
  | .bl _, h => rfl
  | .int i, h => by
    simp only [gD, decide_eq_true_eq] at h ⊢
    exact Nat.lt_of_lt_of_le h (Nat.pow_le_pow_right (by decide) hb)
  | .str _, h => rfl
  | .tup ds, h => by
    simp only [gD, Bool.and_eq_true, decide_eq_true_eq] at h ⊢
    exact ⟨Nat.le_trans h.1 hl, gDs_mono hb hl ds h.2⟩
  | .lst ds, h => by
    simp only [gD, Bool.and_eq_true, decide_eq_true_eq] at h ⊢
    exact ⟨Nat.le_trans h.1 hl, gDs_mono hb hl ds h.2⟩
  | .con _, h => by simp [gD] at h
  | .dic, h => rfl
  | .obj _ _, h => by simp [gD] at h
theorem gDs_mono {b l b' l' : Nat} (hb : b ≤ b') (hl : l ≤ l') : ∀ ds : List D, gDs b l ds = true → gDs b' l' ds = true
  | [], h => rfl
  | d :: ds, h => by
    simp only [gDs, Bool.and_eq_true] at h ⊢
    exact ⟨gD_mono hb hl d h.1, gDs_mono hb hl ds h.2⟩
end
theorem ok_eq {α : Type} {r : Out α} {a : α} {S : Sto} (h : Ok r fun x S' => x = a ∧ S' = S) : r = .ok a S := by
  obtain ⟨x, S', e, rfl, rfl⟩ := h; exact e
theorem eq_ok {α : Type} {r : Out α} {a : α} {S : Sto} {Q : α → Sto → Prop} (h : r = .ok a S) (q : Q a S) : Ok r Q := ⟨a, S, h, q⟩
/-! what a fraction, a row are -/
def wholeB : D → Bool
  | .int _ => true
  | _ => false
def fromB (d : D) (lo hi : Int) : Bool := match d with
  | .int i => decide (lo ≤ i) && decide (i ≤ hi)
  | _ => false
def tupB (d : D) (lo hi : Int) : Bool := match d with
  | .tup ds => decide (lo ≤ ds.length) && decide (ds.length ≤ hi)
  | _ => false
def fracB : D → Bool
  | .tup [.int a, .int b] => decide (0 < b) && decide (Nat.gcd a.natAbs b.natAbs = 1)
  | _ => false
def rowB (n : Int) : D → Bool
  | .tup ds => decide ((ds.length : Int) = n) && ds.all fracB
  | _ => false
def wishB (n : Int) : D → Bool
  | .tup [r, f] => rowB n r && fracB f
  | _ => false
def lotB (most : Int) : D → Bool
  | .tup [.int n, .tup ws] => decide (1 ≤ n) && decide (n ≤ 12) && decide ((ws.length : Int) ≤ most) && ws.all (wishB n)
  | _ => false
@[simp] theorem isi_int_tup (x : List D) : isi (.tup x) .int = some false := rfl
/-- a pair or not -/
theorem pair_cases (ds : List D) : (∃ x y, ds = [x, y]) ∨ ds.length ≠ 2 := by
  match ds with
  | [] => exact .inr (by simp)
  | [x] => exact .inr (by simp)
  | [x, y] => exact .inl ⟨x, y, rfl⟩
  | x :: y :: z :: r => exact .inr (by simp)
end Dn
set_option Elab.async false
set_option linter.all false
set_option maxRecDepth 100000
set_option maxHeartbeats 4000000
/-! ### shifts to the left -/
namespace Dn
open PySem PySem.Spec PyProof.Rows L2 GxR Gx
section
variable {W : Wd} {E : XK} {X : Cx} {pos : Pos}
def oShl : Op2 := oI cPow fun i j => .int (i * 2 ^ j.toNat)
theorem dop_shl : DOp W E (rI CPow fun i j => .int (i * 2 ^ j.toNat)) oShl := dop_I (fun _ _ h => by simpa [cPow, CPow, and_assoc] using h) fun _ _ _ _ => by simp [RelD]
theorem de_shl {a b : Expr} {f g : DEf} (ha : DE W E X a f) (hb : DE W E X b g) : DE W E X (.BinOp a .LShift b pos) (dOp oShl f g) := de_op L2.op_shl dop_shl ha hb
def bDivmodW : Op2 := fun x y S => match x, y with
  | .d (.int i), .d (.int j) => if 0 < j ∧ j.natAbs.log2 < 9000 then .ok (.d (.tup [.int (i / j), .int (i % j)])) S else .bad
  | _, _ => .bad
theorem dc_divmodW : DCall W E (fun xs H Q => ∃ i j, xs = [.int i, .int j] ∧ CDivP i j ∧ ∀ p, H p = none → Q (.ref p) (upd H p (.tup [.int (i / j), .int (i % j)]))) (o2 bDivmodW) := dcall2 fun x y S H μ v w Q s rx ry p => by
  unfold bDivmodW at p
  split at p
  · rename_i i j
    split at p
    · rename_i c
      refine ⟨i, j, by rw [int_rel rx, int_rel ry], ⟨c.1, PyProof.noPylong_of_log2 c.2⟩, fun b hb => ?_⟩
      obtain ⟨k, r⟩ := post_tup (vs := [.int (i / j), .int (i % j)]) p s hb (by simp [RelDs, RelD])
      exact k _ r
    · exact p.elim
  · exact p.elim
end
@[simp] theorem bDivmodW_int (i j : Int) (S : Sto) : bDivmodW (.d (.int i)) (.d (.int j)) S = if 0 < j ∧ j.natAbs.log2 < 9000 then .ok (.d (.tup [.int (i / j), .int (i % j)])) S else .bad := (rfl)
@[simp] theorem oShl_int (i j : Int) (S : Sto) : oShl (.d (.int i)) (.d (.int j)) S = if cPow i j = true then .ok (.d (.int (i * 2 ^ j.toNat))) S else .bad := (rfl)
end Dn
set_option Elab.async false
set_option linter.all false
set_option maxRecDepth 100000
set_option maxHeartbeats 4000000
/-! ### zip over two sequences, each a list or a tuple -/
namespace Zm
open PySem PySem.Spec PyProof.Rows L2 RZ
/-- true: a tuple, false: a list -/
def At (t : Bool) (h : Heap) (j l : Addr) (k : Nat) : Prop := match t with
  | true => h.IsTupleIter j l k
  | false => h.IsListIter j l k
def Sq (t : Bool) (h : Heap) (l : Addr) (xs : Array Value) : Prop := match t with
  | true => h.IsTuple l xs
  | false => h.IsList l xs
section
variable {t u : Bool} {h h' : Heap} {j l c : Addr} {k : Nat} {xs : Array Value}
theorem At.ext (a : At t h j l k) (e : Heap.ExtBut c h h') (n : j ≠ c) : At t h' j l k := by
  cases t with
  | true => exact Heap.IsTupleIter.extBut a e n
  | false => exact Heap.IsListIter.extBut a e n
theorem Sq.ext (a : Sq t h l xs) (e : Heap.ExtBut c h h') (n : l ≠ c) : Sq t h' l xs := by
  cases t with
  | true => exact Heap.IsTuple.extBut a e n
  | false => exact Heap.IsList.extBut a e n
theorem At.same (a : At t h j l k) (e : ∀ o, h.get? j = some o → h'.get? j = some o) : At t h' j l k := by
  cases t with
  | true => exact Heap.IsTupleIter.at a e
  | false => exact Heap.IsListIter.at a e
theorem At.ob (a : At t h j l k) : ∃ o, h.get? j = some o ∧ ∀ v, o.data ≠ .cell v := by
  cases t with
  | true =>
    obtain ⟨o, e, _, d⟩ := a
    exact ⟨o, e, fun v q => by rw [d] at q; cases q⟩
  | false =>
    obtain ⟨o, e, _, d⟩ := a
    exact ⟨o, e, fun v q => by rw [d] at q; cases q⟩
end
section
variable {pg : Program} {w : World} {A : Around} {E : Value → Shared → Prop} {s : Shared} {t u : Bool}
theorem step {j l : Addr} {k : Nat} {xs : Array Value} {x : Value} {Q : Value → Shared → Prop} (a : At t s.heap j l k) (q : Sq t s.heap l xs) (e : xs[k]? = some x)
    (go : ∀ g, At t g j l (k + 1) → Heap.SameBut j s.heap g → Q x { s with heap := g }) : wpAny (model pg w) A (Builtin.SmallTypes.nextOf (.ref j)) Q E s := by
  cases t with
  | true => exact nextOf_tuple_item a q e go
  | false => exact wpAny_nextOf_list_item a q e go
theorem over {j l : Addr} {k : Nat} {xs : Array Value} {Q : Value → Shared → Prop} (hh : A.handled = none) (a : At t s.heap j l k) (q : Sq t s.heap l xs) (e : xs[k]? = none)
    (go : ∀ g f, Heap.ExtBut j s.heap g → (∃ o, g.get? f = some o ∧ o.cls = .type "StopIteration") → E (.ref f) { s with heap := g }) : wpAny (model pg w) A (Builtin.SmallTypes.nextOf (.ref j)) Q E s := by
  cases t with
  | true => exact nextOf_tuple_end hh a q e go
  | false => exact wpAny_nextOf_list_end hh a q e go
/-- what is kept by a turn: all but the zip, its pair and both iterators -/
abbrev Kept (h g : Heap) (Z O i j : Addr) : Prop := ∀ c o, c ≠ Z → c ≠ O → c ≠ i → c ≠ j → h.get? c = some o → g.get? c = some o
variable {Z I O i j a b : Addr} {k m : Nat} {xs ys : Array Value} {va vb x y : Value}
theorem turn {Q : Value → Shared → Prop} (D : ZipApart Z I O i j a b) (hz : IsZip s.heap Z I O .none) (hI : IsPair s.heap I (.ref i) (.ref j)) (hO : IsPair s.heap O va vb) (p1 : At t s.heap i a k) (p2 : At u s.heap j b m)
    (q1 : Sq t s.heap a xs) (q2 : Sq u s.heap b ys) (e1 : xs[k]? = some x) (e2 : ys[m]? = some y)
    (go : ∀ g, IsZip g Z I O (rawInt s.heap.objs.size) ∧ IsPair g O x y ∧ At t g i a (k + 1) ∧ At u g j b (m + 1) ∧ IsPair g s.heap.objs.size x y → Kept s.heap g Z O i j → Q (.ref s.heap.objs.size) { s with heap := g }) :
    wpAny (model pg w) A (Builtin.«zip.__next__» ⟨[.ref Z], []⟩) (fun f s' => ∃ v, f = .done (.ret v) ∧ Q v s') E s := by
  show wpAny _ _ (field (.ref Z) 2 >>= _) _ _ _; refine wpAny_bind (wpAny_field hz rfl (x := .bool false) rfl ?_)
  show wpAny _ _ (field (.ref Z) 3 >>= _) _ _ _; refine wpAny_bind (wpAny_field hz rfl (x := .ref I) rfl (wpAny_bind (wpAny_seqItems hI rfl ?_)))
  show wpAny _ _ (Builtin.SmallTypes.ownedTupleIsFree (.ref Z) >>= _) _ _ _; refine wpAny_bind ?_; unfold Builtin.SmallTypes.ownedTupleIsFree
  refine wpAny_bind (wpAny_field hz rfl (x := .none) rfl (wpAny_pure ?_)); simp only [if_true]
  refine wpAny_bind (wpAny_rule (wpAny_bind (wpAny_field hz rfl (x := .ref O) rfl (wpAny_bind (wpAny_setField_rec hz (by simp) fun g1 z1 k1 => ?_)))))
  replace z1 : IsZip g1 Z I O .ellipsis := z1
  refine wpAny_bind ?_; simp only [List.zipIdx_cons, List.zipIdx_nil, List.forIn_cons, List.forIn_nil]; refine wpAny_bind (wpAny_bind (wpAny_onRaise ?_))
  show wpAny _ _ (Builtin.SmallTypes.nextOf (.ref i) >>= _) _ _ _; refine wpAny_bind (step (p1.ext k1.extBut D.i1z) (q1.ext k1.extBut D.l1z) e1 fun g2 r1 k2 => wpAny_pure ?_)
  have o2 : IsPair g2 O va vb := k2.extBut _ _ D.TOi1 (k1.extBut _ _ D.TOz hO)
  refine wpAny_bind (wpAny_seqItems o2 rfl (wpAny_bind (wpAny_updateSeq_pair o2 fun g3 o3 k3 => ?_))); replace o3 : IsPair g3 O x vb := o3
  refine wpAny_bind (wpAny_letGo (wpAny_pure (wpAny_bind (wpAny_bind (wpAny_onRaise ?_)))))
  show wpAny _ _ (Builtin.SmallTypes.nextOf (.ref j) >>= _) _ _ _
  refine wpAny_bind (step (((p2.ext k1.extBut D.i2z).ext k2.extBut D.i12.symm).ext k3.extBut D.TOi2.symm) (((q2.ext k1.extBut D.l2z).ext k2.extBut D.l2i1).ext k3.extBut D.l2TO) e2 fun g4 r2 k4 => wpAny_pure ?_)
  have o4 : IsPair g4 O x vb := k4.extBut _ _ D.TOi2 o3
  refine wpAny_bind (wpAny_seqItems o4 rfl (wpAny_bind (wpAny_updateSeq_pair o4 fun g5 o5 k5 => ?_))); replace o5 : IsPair g5 O x y := o5
  refine wpAny_bind (wpAny_letGo (wpAny_pure (wpAny_pure (wpAny_bind (wpAny_seqItems o5 rfl (wpAny_bind (wpAny_newTuple ?_)))))))
  have sz : g5.objs.size = s.heap.objs.size := by rw [k5.1, k4.1, k3.1, k2.1, k1.1]
  have z5 : IsZip g5 Z I O .ellipsis := k5.extBut _ _ D.TOz.symm (k4.extBut _ _ D.i2z.symm (k3.extBut _ _ D.TOz.symm (k2.extBut _ _ D.i1z.symm z1)))
  have kp : Kept s.heap g5 Z O i j := fun c o n1 n2 n3 n4 e => k5.extBut _ _ n2 (k4.extBut _ _ n4 (k3.extBut _ _ n2 (k2.extBut _ _ n3 (k1.extBut _ _ n1 e))))
  have f1 : At t g5 i a (k + 1) := ((r1.ext k3.extBut D.TOi1.symm).ext k4.extBut D.i12).ext k5.extBut D.TOi1.symm
  have f2 : At u g5 j b (m + 1) := r2.ext k5.extBut D.TOi2.symm
  show wpAny _ _ (Builtin.SmallTypes.ownedTupleHandOut (.ref Z) (.ref g5.objs.size) >>= _) _ _ _
  refine wpAny_bind ?_; unfold Builtin.SmallTypes.ownedTupleHandOut
  have z6 : IsZip (g5.push { cls := .type "tuple", data := .seq #[x, y] }) Z I O .ellipsis := Heap.get?_push_of_some _ z5
  refine wpAny_bind (wpAny_setField_rec z6 (by simp) fun g7 z7 k7 => ?_); replace z7 : IsZip g7 Z I O (rawInt g5.objs.size) := z7
  refine wpAny_setField_rec z7 (by simp) fun g8 z8 k8 => ?_; replace z8 : IsZip g8 Z I O (rawInt g5.objs.size) := z8
  have up : ∀ c o, c ≠ Z → g5.get? c = some o → g8.get? c = some o := fun c o n e => k8.extBut _ _ n (k7.extBut _ _ n (Heap.get?_push_of_some _ e))
  have nz : g5.objs.size ≠ Z := Nat.ne_of_gt (Heap.lt_size z5)
  have o8 : IsPair g8 g5.objs.size x y := k8.extBut _ _ nz (k7.extBut _ _ nz (Heap.get?_push_size _ rfl))
  rw [sz] at z8 o8
  refine wpAny_pure ⟨_, rfl, ?_⟩; show Q (.ref g5.objs.size) _; rw [sz]
  exact go g8 ⟨z8, up _ _ D.TOz o5, f1.same fun o e => up _ o D.i1z e, f2.same fun o e => up _ o D.i2z e, o8⟩ fun c o n1 n2 n3 n4 e => up c o n1 (kp c o n1 n2 n3 n4 e)
theorem last {Q : Fin → Shared → Prop} (hh : A.handled = none) (D : ZipApart Z I O i j a b) (hz : IsZip s.heap Z I O .none) (hI : IsPair s.heap I (.ref i) (.ref j)) (hO : IsPair s.heap O va vb) (p1 : At t s.heap i a k) (p2 : At u s.heap j b m)
    (q1 : Sq t s.heap a xs) (q2 : Sq u s.heap b ys) (no : xs[k]? = none ∨ ys[m]? = none) (go : ∀ g f, Kept s.heap g Z O i j → (∃ o, g.get? f = some o ∧ o.cls = .type "StopIteration") → E (.ref f) { s with heap := g }) :
    wpAny (model pg w) A (Builtin.«zip.__next__» ⟨[.ref Z], []⟩) Q E s := by
  show wpAny _ _ (field (.ref Z) 2 >>= _) _ _ _; refine wpAny_bind (wpAny_field hz rfl (x := .bool false) rfl ?_)
  show wpAny _ _ (field (.ref Z) 3 >>= _) _ _ _; refine wpAny_bind (wpAny_field hz rfl (x := .ref I) rfl (wpAny_bind (wpAny_seqItems hI rfl ?_)))
  show wpAny _ _ (Builtin.SmallTypes.ownedTupleIsFree (.ref Z) >>= _) _ _ _; refine wpAny_bind ?_; unfold Builtin.SmallTypes.ownedTupleIsFree
  refine wpAny_bind (wpAny_field hz rfl (x := .none) rfl (wpAny_pure ?_)); simp only [if_true]
  refine wpAny_bind (wpAny_rule (wpAny_bind (wpAny_field hz rfl (x := .ref O) rfl (wpAny_bind (wpAny_setField_rec hz (by simp) fun g1 z1 k1 => ?_)))))
  replace z1 : IsZip g1 Z I O .ellipsis := z1
  refine wpAny_bind ?_; simp only [List.zipIdx_cons, List.zipIdx_nil, List.forIn_cons, List.forIn_nil]; refine wpAny_bind (wpAny_bind (wpAny_onRaise ?_))
  show wpAny _ _ (Builtin.SmallTypes.nextOf (.ref i) >>= _) _ _ _
  by_cases e1 : xs[k]? = none
  · refine wpAny_bind (over hh (p1.ext k1.extBut D.i1z) (q1.ext k1.extBut D.l1z) e1 fun g2 f k2 ⟨of, hf, cf⟩ => ?_)
    have z2 : IsZip g2 Z I O .ellipsis := k2 _ _ D.i1z.symm z1
    have fz : f ≠ Z := fun q => by subst q; rw [z2] at hf; cases hf; simp at cf
    exact wpAny_setField_rec z2 (by simp) fun g3 _ k3 => go g3 f (fun c o n1 _ n3 _ q => k3.extBut _ _ n1 (k2 _ _ n3 (k1.extBut _ _ n1 q))) ⟨of, k3.extBut _ _ fz hf, cf⟩
  · obtain ⟨x, ex⟩ := Option.ne_none_iff_exists'.mp e1
    have e2 : ys[m]? = none := no.elim (fun q => absurd q e1) id
    refine wpAny_bind (step (p1.ext k1.extBut D.i1z) (q1.ext k1.extBut D.l1z) ex fun g2 r1 k2 => wpAny_pure ?_)
    have o2 : IsPair g2 O va vb := k2.extBut _ _ D.TOi1 (k1.extBut _ _ D.TOz hO)
    refine wpAny_bind (wpAny_seqItems o2 rfl (wpAny_bind (wpAny_updateSeq_pair o2 fun g3 o3 k3 => wpAny_bind (wpAny_letGo (wpAny_pure (wpAny_bind (wpAny_bind (wpAny_onRaise ?_))))))))
    show wpAny _ _ (Builtin.SmallTypes.nextOf (.ref j) >>= _) _ _ _
    refine wpAny_bind (over hh (((p2.ext k1.extBut D.i2z).ext k2.extBut D.i12.symm).ext k3.extBut D.TOi2.symm) (((q2.ext k1.extBut D.l2z).ext k2.extBut D.l2i1).ext k3.extBut D.l2TO) e2 fun g4 f k4 ⟨of, hf, cf⟩ => ?_)
    have z4 : IsZip g4 Z I O .ellipsis := k4 _ _ D.i2z.symm (k3.extBut _ _ D.TOz.symm (k2.extBut _ _ D.i1z.symm z1))
    have fz : f ≠ Z := fun q => by subst q; rw [z4] at hf; cases hf; simp at cf
    exact wpAny_setField_rec z4 (by simp) fun g5 _ k5 => go g5 f (fun c o n1 n2 n3 n4 q => k5.extBut _ _ n1 (k4 _ _ n4 (k3.extBut _ _ n2 (k2.extBut _ _ n3 (k1.extBut _ _ n1 q))))) ⟨of, k5.extBut _ _ fz hf, cf⟩
end
/-! ### zip(a, b) -/
def nm (t : Bool) : String := match t with
  | true => "tuple_iterator"
  | false => "list_iterator"
abbrev itO (t : Bool) (l : Addr) : Obj := { cls := .type (nm t), data := .fields #[.ref l, .int 0 0] }
theorem iter_seq {pg : Program} {w : World} {A : Around} {E : Value → Shared → Prop} {s : Shared} {t : Bool} {l : Addr} {xs : Array Value} {Q : Value → Shared → Prop} (q : Sq t s.heap l xs) (go : Q (.ref s.heap.objs.size) { s with heap := s.heap.push (itO t l) }) :
    wpAny (model pg w) A (pyIter (.ref l)) Q E s := by
  cases t with
  | true => exact wpAny_pyIter_tuple q go
  | false => exact wpAny_pyIter_list q go
theorem Sq.push {t : Bool} {h : Heap} {l : Addr} {xs : Array Value} (q : Sq t h l xs) (o : Obj) : Sq t (h.push o) l xs := by
  cases t with
  | true => exact Heap.IsTuple.push q o
  | false => exact Heap.IsList.push q o
abbrev g1 (h : Heap) (t : Bool) (a : Addr) : Heap := h.push (itO t a)
abbrev g2 (h : Heap) (t u : Bool) (a b : Addr) : Heap := (g1 h t a).push (itO u b)
abbrev g3 (h : Heap) (t u : Bool) (a b : Addr) : Heap := (g2 h t u a b).push { cls := .type "tuple", data := .seq #[.ref h.objs.size, .ref (g1 h t a).objs.size] }
abbrev g4 (h : Heap) (t u : Bool) (a b : Addr) : Heap := (g3 h t u a b).push { cls := .type "tuple", data := .seq #[.none, .none] }
abbrev g5 (h : Heap) (t u : Bool) (a b : Addr) : Heap := (g4 h t u a b).push { cls := .type "zip", data := .fields #[.none, .bool false, .bool false, .ref (g2 h t u a b).objs.size, .ref (g3 h t u a b).objs.size] }
theorem made (t u : Bool) (a b : Addr) (xs ys : Array Value) : Meets (Builtin.«zip.__new__» ⟨[.type "zip", .ref a, .ref b], []⟩) (fun _ R s => Sq t s.heap a xs ∧ Sq u s.heap b ys ∧ R (.ok (.ret (.ref (g4 s.heap t u a b).objs.size))) { s with heap := g5 s.heap t u a b }) :=
  .of_wp fun pg w A R s h => by
    obtain ⟨hp, g, d, tk, os⟩ := s; obtain ⟨h1, h2, h⟩ := h
    have sub := sub_zip
    have s1 : Sq t (Shared.heap ⟨hp, g, d, tk, os⟩) a xs := h1
    have s2 : Sq u (Shared.heap ⟨hp.push (itO t a), g, d, tk, os⟩) b ys := h2.push _
    wp_walk using iter_seq s1, iter_seq s2
    exact ⟨_, rfl, h⟩
theorem zip_new {pg : Program} {w : World} {A : Around} {E : Value → Shared → Prop} {s : Shared} {t u : Bool} {a b : Addr} {xs ys : Array Value} {Q : Value → Shared → Prop} (q1 : Sq t s.heap a xs) (q2 : Sq u s.heap b ys)
    (go : ∀ g N, N = s.heap.objs.size → IsZip g (N + 4) (N + 2) (N + 3) .none → IsPair g (N + 2) (.ref N) (.ref (N + 1)) → IsPair g (N + 3) .none .none → At t g N a 0 → At u g (N + 1) b 0 → (∀ c o, s.heap.get? c = some o → g.get? c = some o) → Q (.ref (N + 4)) { s with heap := g }) :
    wpAny (model pg w) A (call (.type "zip") [.ref a, .ref b]) Q E s := by
  refine callType_new F.called_zip (by decide) (F.typeCall_zip_2 _ _) (F.newCall_zip_2 _ _) (fun z => F.args_object_init_3 z _ _) F.entry_zip_new (made t u a b xs ys) ⟨q1, q2, ?_⟩
  have n1 : (g1 s.heap t a).objs.size = s.heap.objs.size + 1 := Heap.size_push ..
  have n2 : (g2 s.heap t u a b).objs.size = s.heap.objs.size + 2 := by rw [Heap.size_push, n1]
  have n3 : (g3 s.heap t u a b).objs.size = s.heap.objs.size + 3 := by rw [Heap.size_push, n2]
  have n4 : (g4 s.heap t u a b).objs.size = s.heap.objs.size + 4 := by rw [Heap.size_push, n3]
  have o5 : (g5 s.heap t u a b).get? (g4 s.heap t u a b).objs.size = some _ := Heap.get?_push_size _ rfl
  have o4 : (g5 s.heap t u a b).get? (g3 s.heap t u a b).objs.size = some _ := Heap.get?_push_of_some _ (Heap.get?_push_size _ rfl)
  have o3 : (g5 s.heap t u a b).get? (g2 s.heap t u a b).objs.size = some _ := Heap.get?_push_of_some _ (Heap.get?_push_of_some _ (Heap.get?_push_size _ rfl))
  have o2 : (g5 s.heap t u a b).get? (g1 s.heap t a).objs.size = some (itO u b) := Heap.get?_push_of_some _ (Heap.get?_push_of_some _ (Heap.get?_push_of_some _ (Heap.get?_push_size _ rfl)))
  have o1 : (g5 s.heap t u a b).get? s.heap.objs.size = some (itO t a) := Heap.get?_push_of_some _ (Heap.get?_push_of_some _ (Heap.get?_push_of_some _ (Heap.get?_push_of_some _ (Heap.get?_push_size _ rfl))))
  show _ ∧ _
  rw [n2, n3, n4] at o5; rw [n1, n2] at o3; rw [n3] at o4; rw [n1] at o2; rw [n4]
  have at_ : ∀ (t : Bool) (h : Heap) (j l : Addr), h.get? j = some (itO t l) → At t h j l 0 := fun t h j l e => by
    cases t <;> exact ⟨_, e, rfl, rfl⟩
  exact ⟨⟨_, o5, rfl⟩, go _ _ rfl o5 o3 o4 (at_ _ _ _ _ o1) (at_ _ _ _ _ o2) fun c o x => Heap.get?_push_of_some _ (Heap.get?_push_of_some _ (Heap.get?_push_of_some _ (Heap.get?_push_of_some _ (Heap.get?_push_of_some _ x))))⟩
/-! ### in the hand layer -/
def SqA (t : Bool) (K : PySem.W.Frag) (H : Hp) (a : Addr) (xs : List V) : Prop := match t with
  | true => SqT K H a xs
  | false => SqL K H a xs
def ItM (t u : Bool) (K : PySem.W.Frag) (a b : Addr) : It where
  go := fun i H => ∃ (xs ys : List V) (x y : V), SqA t K H a xs ∧ SqA u K H b ys ∧ xs[i]? = some x ∧ ys[i]? = some y
  yld := fun i H v H' => ∃ T x y, v = .ref T ∧ H T = none ∧ H' = upd H T (.tup [x, y]) ∧ (∀ xs, SqA t K H a xs → xs[i]? = some x) ∧ ∀ ys, SqA u K H b ys → ys[i]? = some y
  stop := fun i H => ∃ xs ys : List V, SqA t K H a xs ∧ SqA u K H b ys ∧ (xs.length ≤ i ∨ ys.length ≤ i)
section
variable {X : Cx} {pins : List (Addr × Obj)} {σ : L2.St} {H : Hp} {s : Shared} {a : Addr} {xs ys : List V} {t : Bool}
theorem seqI (I : Inv X pins σ H s) (h : SqA t X.K H a xs) : ∃ its : List Value, Vals xs its ∧ Sq t s.heap a its.toArray ∧ a < s.heap.objs.size := by
  cases t with
  | true =>
    obtain ⟨its, r, p, _⟩ := I.tuple h
    obtain ⟨o, e, _⟩ := id p
    exact ⟨its, r, p, Heap.lt_size e⟩
  | false =>
    obtain ⟨its, r, p, _⟩ := I.list h
    exact ⟨its, r, p.isList, p.lt⟩
theorem seq_inj (I : Inv X pins σ H s) (h : SqA t X.K H a xs) (h' : SqA t X.K H a ys) : xs = ys := by
  cases t with
  | true => exact I.tuple_inj h h'
  | false => exact I.list_inj h h'
end
theorem turnM {P : Program} {w : World} {K : PySem.W.Frag} {elts : List Expr} {kk : Nat} {tpos : Pos} {t u : Bool} {a b Z I O i j : Addr} (D : ZipApart Z I O i j a b) :
    Turn P w K (.Tuple elts kk tpos) (ItM t u K a b) [Z, I, O, i, j] Z (fun n h => IsZip h Z I O .none ∧ IsPair h I (.ref i) (.ref j) ∧ (∃ x y, IsPair h O x y) ∧ At t h i a n ∧ At u h j b n) where
  mem := List.mem_cons_self
  obj := fun n h ⟨hz, hI, ⟨x, y, hO⟩, p1, p2⟩ c hc => by
    simp only [List.mem_cons, List.not_mem_nil, or_false] at hc
    rcases hc with rfl | rfl | rfl | rfl | rfl
    · exact ⟨_, hz, fun _ z => nomatch z⟩
    · exact ⟨_, hI, fun _ z => nomatch z⟩
    · exact ⟨_, hO, fun _ z => nomatch z⟩
    · exact p1.ob
    · exact p2.ob
  keep := fun n h h' ⟨hz, hI, ⟨x, y, hO⟩, p1, p2⟩ k => ⟨k Z (by simp) _ hz, k I (by simp) _ hI, ⟨x, y, k O (by simp) _ hO⟩, p1.same (k i (by simp)), p2.same (k j (by simp))⟩
  item := by
    intro X hP hw hK hc n pins s σ H E Iv hf ⟨hz, hI, ⟨x0, y0, hO⟩, p1, p2⟩ ⟨xs, ys, x, y, qx, qy, ex, ey⟩
    subst hP hw hK
    obtain ⟨us, rx, sx, _⟩ := seqI Iv qx
    obtain ⟨vs, ry, sy, _⟩ := seqI Iv qy
    obtain ⟨v1, ev1, rv1⟩ := rx.get ex
    obtain ⟨v2, ev2, rv2⟩ := ry.get ey
    have hT : s.TypeIs (.ref Z) "zip" := ⟨_, hz, rfl⟩
    have zl : Z < s.heap.objs.size := Heap.lt_size hz
    unfold pyNext
    refine wpAny_bind (wpAny_attempt (wpAny_callSpecial?_slot (name := Str.ofString "__next__") hT F.slot_zip_next (wpAny_call_entry F.slot_zip_next hT F.entry_zip_next
      (turn D hz hI hO p1 p2 sx sy (x := v1) (y := v2) (by simpa using ev1) (by simpa using ev2) fun g ⟨gz, gO, g1, g2, gT⟩ kp => wpAny_pure ?_) (F.args_zip_next_1 _))))
    refine ⟨_, rfl, wpAny_letOwnedTupleGo_zip (s := { s with heap := g }) gz fun g' gz' sb => ?_⟩
    have kz : ∀ c o, c ≠ Z → g.get? c = some o → g'.get? c = some o := fun c o q e => (sb.2 c q).trans e
    have nx : s.heap.objs.size ≠ Z := Nat.ne_of_gt zl
    have new : ObjOk X.prog X.w (upd H s.heap.objs.size (.tup [x, y])) g' s.heap.objs.size (.tup [x, y]) := ⟨by show 2 ≤ sizeLine; decide, [v1, v2], .cons rv1 (.cons rv2 .nil), ⟨_, kz _ _ nx gT, rfl, _, rfl⟩⟩
    have outs : ∀ c o, c ∉ [Z, I, O, i, j] → s.heap.get? c = some o → g'.get? c = some o := fun c o q e => by
      simp only [List.mem_cons, List.not_mem_nil, or_false, not_or] at q
      exact kz c o q.1 (kp c o q.1 q.2.2.1 q.2.2.2.1 q.2.2.2.2 e)
    have I1 : Inv X pins σ (upd H s.heap.objs.size (.tup [x, y])) { s with heap := g' } := Iv.turnedNew (t' := s.toks) (ch := [Z, I, O, i, j]) (fun c o q e => outs c o q e) hf (Nat.le_refl _) new
    refine ⟨.ref s.heap.objs.size, _, I1, rfl, ⟨_, x, y, rfl, Iv.hok.fresh (Nat.le_refl _), rfl, fun l hl => by rw [seq_inj Iv hl qx]; exact ex, fun l hl => by rw [seq_inj Iv hl qy]; exact ey⟩, ?_, fun c hc => ?_⟩
    · exact ⟨gz', kz _ _ D.TIz (kp _ _ D.TIz D.TITO D.TIi1 D.TIi2 hI), ⟨v1, v2, kz _ _ D.TOz gO⟩, g1.same fun o e => kz _ o D.i1z e, g2.same fun o e => kz _ o D.i2z e⟩
    · have lt : c < s.heap.objs.size := by
        simp only [List.mem_cons, List.not_mem_nil, or_false] at hc
        rcases hc with rfl | rfl | rfl | rfl | rfl
        · exact zl
        · exact Heap.lt_size hI
        · exact Heap.lt_size hO
        · exact (let ⟨_, e, _⟩ := p1.ob; Heap.lt_size e)
        · exact (let ⟨_, e, _⟩ := p2.ob; Heap.lt_size e)
      rw [upd_ne (Nat.ne_of_lt lt)]; exact (hf c hc).1
  done := by
    intro X hP hw hK hc n pins s σ H E Iv hf ⟨hz, hI, ⟨x0, y0, hO⟩, p1, p2⟩ ⟨xs, ys, qx, qy, no⟩
    subst hP hw hK
    obtain ⟨us, rx, sx, _⟩ := seqI Iv qx
    obtain ⟨vs, ry, sy, _⟩ := seqI Iv qy
    have l1 := rx.length; have l2 := ry.length
    have hT : s.TypeIs (.ref Z) "zip" := ⟨_, hz, rfl⟩
    unfold pyNext
    refine wpAny_bind (wpAny_attempt (wpAny_callSpecial?_slot (name := Str.ofString "__next__") hT F.slot_zip_next (wpAny_call_entry F.slot_zip_next hT F.entry_zip_next
      (last (Iv.ok.hd hc) D hz hI hO p1 p2 sx sy (no.imp (fun q => by simp; omega) fun q => by simp; omega) fun g f kp ⟨o, ho, cl⟩ => ?_) (F.args_zip_next_1 _))))
    refine wpAny_bind (wpAny_isInstance (T := "StopIteration") (b := true) ⟨o, ho, cl⟩ isSubtype_stop (wpAny_pure ⟨rfl, Iv.turnedL (t' := s.toks) (ch := [Z, I, O, i, j]) (fun c o q e => ?_) hf⟩))
    simp only [List.mem_cons, List.not_mem_nil, or_false, not_or] at q
    exact kp c o q.1 q.2.2.1 q.2.2.2.1 q.2.2.2.2 e
  self := fun A n s Q E st h => wpAny_pyIter_zip st.1 h
def iMix (K : PySem.W.Frag) (ta : TA) : TI := fun σ H R => ta σ H fun vs H1 => ∃ t u a b xs ys, vs = [.ref a, .ref b] ∧ SqA t K H1 a xs ∧ SqA u K H1 b ys ∧ R (ItM t u K a b) H1
theorem pi_mix {X : Cx} {e e2 : Expr} {ta : TA} {p pos tpos : Pos} {elts : List Expr} {kk : Nat} (hg : Gl X "zip") (hm : X.mg "zip" = none) (ha : PA X [e, e2] ta)
    (hs : starEach [e, e2] X.env = (false, eval e X.env) :: starEach [e2] X.env := by rfl) (hl : (backTo pos (starEach [e2] X.env)).any (·.1) = false := by rfl) : PI X (.Tuple elts kk tpos) (.Call (.Name "zip" p) [e, e2] [] pos) (iMix X.K ta) := by
  refine ⟨fun pins s σ H R Iv h => Call_ (ld_blt Iv hg hm PyProof.Rows.boot_zip (PyProof.Rows.callWith_type1 (thn (ha.run pos pins s σ H _ Iv h) fun us s1 ⟨vs, H1, I1, r1, q1⟩ => ?_) hs hl))⟩
  obtain ⟨t, u, a, b, xs, ys, rfl, qx, qy, q⟩ := q1
  cases r1 with
  | cons r rr =>
    cases rr with
    | cons r' rr =>
      cases rr; cases r; cases r'
      obtain ⟨_, _, sx, la⟩ := seqI I1 qx
      obtain ⟨_, _, sy, lb⟩ := seqI I1 qy
      refine zip_new sx sy fun g N eN gz gI gO g1 g2 kp => wpAny_pyIter_zip gz ?_
      have fr : ∀ c, c ∈ [N + 4, N + 2, N + 3, N, N + 1] → FpOk X pins H1 c := fun c hc => by
        have le : s1.heap.objs.size ≤ c := by
          simp only [List.mem_cons, List.not_mem_nil, or_false] at hc
          rw [← eN]
          rcases hc with rfl | rfl | rfl | rfl | rfl <;> first | exact Nat.le_add_right _ _ | exact Nat.le_refl _
        exact I1.fpOk le (I1.hok.fresh le)
      exact ⟨N + 4, [N + 4, N + 2, N + 3, N, N + 1], _, _, H1, rfl, I1.kept (t' := s1.toks) kp, turnM (by rw [eN]; exact PySem.W.ktu_apart s1.heap.objs.size a b la lb), ⟨gz, gI, ⟨_, _, gO⟩, g1, g2⟩, fr, q⟩
end Zm
/-! ### as functions of data -/
namespace Dn
open PySem PySem.Spec PyProof.Rows L2 GxR Gx Zm
def seqK (x : Val) (S : Sto) : Option (Bool × List D) := match seqT x with
  | some ds => some (true, ds)
  | none => match seqL x S with
    | some ds => some (false, ds)
    | none => none
def iMx (xs : List Val) (S : Sto) : Out Itm := match xs with
  | [x, y] => (match seqK x S, seqK y S with
    | some ds, some es => .ok ⟨(ds.2.zip es.2).map fun p => .tup [p.1, p.2], wtV x S ++ wtV y S⟩ S
    | _, _ => .bad)
  | _ => .bad
def diMx (As : DAf) : DIf := fun env S => (As env S).bind fun xs S1 => iMx xs S1
section
variable {W : Wd} {E : XK} {X : Cx} {H : Hp} {μ : Mu} {S : Sto} {tg : Expr} {pos : Pos}
theorem staysK {x : Val} {ds : Bool × List D} {v : V} (s : RelS W H μ S) (h : RelV' W H μ x v) (e : seqK x S = some ds) : ∃ a, v = .ref a ∧ ∀ H' μ' S', Le H μ H' μ' → RelS W H' μ' S' → wtOk (wtV x S) S' → ∃ vs, SqA ds.1 W.K H' a vs ∧ RelDs W H' μ' ds.2 vs := by
  unfold seqK at e
  split at e
  · rename_i es e1
    cases e
    obtain ⟨a, rfl, q⟩ := staysT s h e1
    exact ⟨a, rfl, fun H' μ' S' l _ _ => q H' μ' l⟩
  · split at e
    · rename_i es e1
      cases e
      exact stays s h e1
    · cases e
theorem di_mx {a b : Expr} {As : DAf} {p tpos : Pos} {elts : List Expr} {kk : Nat} (hK : X.K = W.K) (hg : Gl X "zip") (hm : X.mg "zip" = none) (ha : DA W E X [a, b] As)
    (hs : starEach [a, b] X.env = (false, eval a X.env) :: starEach [b] X.env := by rfl) (hl : (backTo pos (starEach [b] X.env)).any (·.1) = false := by rfl) : DI W E X (.Tuple elts kk tpos) (.Call (.Name "zip" p) [a, b] [] pos) (diMx As) :=
  (pi_mix hg hm ha hs hl).imp fun σ H R ⟨env, S, μ, hE, hS, hp⟩ => ⟨env, S, μ, hE, hS, hp.bind.imp fun xs S1 H1 μ1 l1 s1 p1 vs rvs => by
    unfold iMx at p1
    rw [hK]
    split at p1
    · rename_i x y
      obtain ⟨v, w, rfl, rv, rw'⟩ := rel_two rvs
      split at p1
      · rename_i ds es e1 e2
        obtain ⟨a, rfl, h1⟩ := staysK s1 rv e1
        obtain ⟨b, rfl, h2⟩ := staysK s1 rw' e2
        obtain ⟨us, q1, _⟩ := h1 H1 μ1 S1 .refl s1 wtV_ok
        obtain ⟨ws, q2, _⟩ := h2 H1 μ1 S1 .refl s1 wtV_ok
        refine ⟨ds.1, es.1, a, b, us, ws, rfl, q1, q2, p1.at_ s1 _ (pairs_ok rfl (fun i H' μ' S' l s w hi => ?_) (fun H' μ' S' l s w => ?_) fun i H' μ' S' v H2 l s w hi yy => ?_)⟩
        · rw [wtOk_app] at w
          obtain ⟨us, q1, r1⟩ := h1 H' μ' S' l s w.1
          obtain ⟨ws, q2, r2⟩ := h2 H' μ' S' l s w.2
          obtain ⟨u, e3, _⟩ := r1.get (List.getElem?_eq_getElem (Nat.lt_of_lt_of_le hi (Nat.min_le_left _ _)))
          obtain ⟨w, e4, _⟩ := r2.get (List.getElem?_eq_getElem (Nat.lt_of_lt_of_le hi (Nat.min_le_right _ _)))
          exact ⟨us, ws, u, w, q1, q2, e3, e4⟩
        · rw [wtOk_app] at w
          obtain ⟨us, q1, r1⟩ := h1 H' μ' S' l s w.1
          obtain ⟨ws, q2, r2⟩ := h2 H' μ' S' l s w.2
          exact ⟨us, ws, q1, q2, by rw [← r1.length, ← r2.length]; omega⟩
        · rw [wtOk_app] at w
          obtain ⟨us, q1, r1⟩ := h1 H' μ' S' l s w.1
          obtain ⟨ws, q2, r2⟩ := h2 H' μ' S' l s w.2
          have hd := List.getElem?_eq_getElem (Nat.lt_of_lt_of_le hi (Nat.min_le_left _ _))
          have he := List.getElem?_eq_getElem (Nat.lt_of_lt_of_le hi (Nat.min_le_right _ _))
          obtain ⟨u, e3, r3⟩ := r1.get hd
          obtain ⟨w, e4, r4⟩ := r2.get he
          obtain ⟨T, x, y, rfl, hT, rfl, f1, f2⟩ := yy
          have g1 := f1 us q1
          have g2 := f2 ws q2
          rw [e3] at g1; cases g1
          rw [e4] at g2; cases g2
          exact ⟨T, _, _, _, _, rfl, hT, rfl, hd, he, r3, r4⟩
      · exact p1.elim
    · exact p1.elim⟩
end
end Dn
set_option Elab.async false
set_option linter.all false
set_option maxRecDepth 100000
set_option maxHeartbeats 4000000
/-! ### a pair put together and taken apart: a new list may be in it -/
namespace Dn
open PySem PySem.Spec PyProof.Rows L2 GxR Gx
section
variable {W : Wd} {E : XK} {X : Cx} {pos : Pos}
theorem ds_pair {i j : Nat} {x y : Str} {a b : Expr} {As : DAf} {px py pt : Pos} {kt k2 pt2} (hK : X.K = W.K) (hc : X.calm = true) (hN : X.N.Nodup) (hi : X.N[i]? = some x) (hj : X.N[j]? = some y) (ha : DA W E X [a, b] As)
    (hx : Loc X.env.scope x := by first | exact Or.inl rfl | exact Or.inr rfl) (hy : Loc X.env.scope y := by first | exact Or.inl rfl | exact Or.inr rfl)
    (hfx : X.fn x = true ∨ X.env.scope.names.lookup x = some .local := by first | exact .inl rfl | exact .inr rfl) (hfy : X.fn y = true ∨ X.env.scope.names.lookup y = some .local := by first | exact .inl rfl | exact .inr rfl)
    (hs : swapsWithSole [.Tuple [.Name x px, .Name y py] kt pt] (.Tuple [a, b] k2 pt2) pos.line X.env = pure false := by rfl) (hw : swappedStores [.Tuple [.Name x px, .Name y py] kt pt] (.Tuple [a, b] k2 pt2) X.env = pure none := by rfl)
    (h1 : (assignEach [.Tuple [.Name x px, .Name y py] kt pt] X.env).map (·.2) = [assign (.Tuple [.Name x px, .Name y py] kt pt) X.env] := by rfl)
    (hs1 : (assignEach [.Name x px, .Name y py] X.env).map (·.2) = assign (.Name x px) X.env :: (assignEach [.Name y py] X.env).map (·.2) := by rfl) (hs2 : (assignEach [.Name y py] X.env).map (·.2) = assign (.Name y py) X.env :: (assignEach [] X.env).map (·.2) := by rfl)
    (hn : (assignEach [.Name x px, .Name y py] X.env).length = 2 := by rfl) (hst : (assignEach [.Name x px, .Name y py] X.env).findIdx? (·.1) = none := by rfl) :
    DS W E X (.Assign [.Tuple [.Name x px, .Name y py] kt pt] (.Tuple [a, b] k2 pt2) pos) (dPar i j As) :=
  (ps_asg (pe_tup ha) (pg_tup hc (pgs_cons (pg_name hN hi hx hfx) (pgs_cons (pg_name hN hj hy hfy) pgs_nil hs2) hs1) hn hst) hs hw h1).imp fun D σ H ⟨env, S, μ, hE, hS, hp⟩ =>
  ⟨env, S, μ, hE, hS, hp.bind.imp fun xs S1 H1 μ1 l1 s1 p1 vs rvs => by
    split at p1
    · obtain ⟨v, w, rfl, rv, rw'⟩ := rel_two rvs
      refine ⟨by show 2 ≤ sizeLine; decide, fun c hc0 => ⟨c, [v, w], rfl, .inl (.inl upd_same), rfl, v, [w], rfl, w, [], rfl, rfl, ?_⟩⟩
      have e1 := (hE.mono l1 hS.is).set (i := i) rv
      have e2 := e1.set (i := j) rw'
      exact p1 _ _ (Le.new hc0) (s1.new hc0) _ (e2.mono (Le.new hc0) s1.is)
    · exact p1.elim⟩
end
end Dn
set_option Elab.async false
set_option linter.all false
set_option maxRecDepth 100000
set_option maxHeartbeats 4000000
/-! ### four put together and taken apart: new lists may be among them -/
namespace Dn
open PySem PySem.Spec PyProof.Rows L2 GxR Gx
def dPar4 (i j l m : Nat) (As : DAf) : DSf := fun env S => (As env S).bind fun xs S1 => match xs with
  | [x, y, z, w] => .ok (.nx ((((env.set i (some x)).set j (some y)).set l (some z)).set m (some w))) S1
  | _ => .bad
section
variable {W : Wd} {E : XK} {X : Cx} {pos : Pos}
theorem ds_quad {i j l m : Nat} {x y z w : Str} {a b c d : Expr} {As : DAf} {px py pz pw pt : Pos} {kt k2 pt2} (hK : X.K = W.K) (hc : X.calm = true) (hN : X.N.Nodup) (hi : X.N[i]? = some x) (hj : X.N[j]? = some y) (hl : X.N[l]? = some z) (hm : X.N[m]? = some w) (ha : DA W E X [a, b, c, d] As)
    (hx : Loc X.env.scope x := by first | exact Or.inl rfl | exact Or.inr rfl) (hy : Loc X.env.scope y := by first | exact Or.inl rfl | exact Or.inr rfl) (hz : Loc X.env.scope z := by first | exact Or.inl rfl | exact Or.inr rfl) (hw : Loc X.env.scope w := by first | exact Or.inl rfl | exact Or.inr rfl)
    (hfx : X.fn x = true ∨ X.env.scope.names.lookup x = some .local := by first | exact .inl rfl | exact .inr rfl) (hfy : X.fn y = true ∨ X.env.scope.names.lookup y = some .local := by first | exact .inl rfl | exact .inr rfl)
    (hfz : X.fn z = true ∨ X.env.scope.names.lookup z = some .local := by first | exact .inl rfl | exact .inr rfl) (hfw : X.fn w = true ∨ X.env.scope.names.lookup w = some .local := by first | exact .inl rfl | exact .inr rfl)
    (hs : swapsWithSole [.Tuple [.Name x px, .Name y py, .Name z pz, .Name w pw] kt pt] (.Tuple [a, b, c, d] k2 pt2) pos.line X.env = pure false := by rfl) (hsw : swappedStores [.Tuple [.Name x px, .Name y py, .Name z pz, .Name w pw] kt pt] (.Tuple [a, b, c, d] k2 pt2) X.env = pure none := by rfl)
    (h1 : (assignEach [.Tuple [.Name x px, .Name y py, .Name z pz, .Name w pw] kt pt] X.env).map (·.2) = [assign (.Tuple [.Name x px, .Name y py, .Name z pz, .Name w pw] kt pt) X.env] := by rfl)
    (hs1 : (assignEach [.Name x px, .Name y py, .Name z pz, .Name w pw] X.env).map (·.2) = assign (.Name x px) X.env :: (assignEach [.Name y py, .Name z pz, .Name w pw] X.env).map (·.2) := by rfl) (hs2 : (assignEach [.Name y py, .Name z pz, .Name w pw] X.env).map (·.2) = assign (.Name y py) X.env :: (assignEach [.Name z pz, .Name w pw] X.env).map (·.2) := by rfl)
    (hs3 : (assignEach [.Name z pz, .Name w pw] X.env).map (·.2) = assign (.Name z pz) X.env :: (assignEach [.Name w pw] X.env).map (·.2) := by rfl) (hs4 : (assignEach [.Name w pw] X.env).map (·.2) = assign (.Name w pw) X.env :: (assignEach [] X.env).map (·.2) := by rfl)
    (hn : (assignEach [.Name x px, .Name y py, .Name z pz, .Name w pw] X.env).length = 4 := by rfl) (hst : (assignEach [.Name x px, .Name y py, .Name z pz, .Name w pw] X.env).findIdx? (·.1) = none := by rfl) :
    DS W E X (.Assign [.Tuple [.Name x px, .Name y py, .Name z pz, .Name w pw] kt pt] (.Tuple [a, b, c, d] k2 pt2) pos) (dPar4 i j l m As) :=
  (ps_asg (pe_tup ha) (pg_tup hc (pgs_cons (pg_name hN hi hx hfx) (pgs_cons (pg_name hN hj hy hfy) (pgs_cons (pg_name hN hl hz hfz) (pgs_cons (pg_name hN hm hw hfw) pgs_nil hs4) hs3) hs2) hs1) hn hst) hs hsw h1).imp fun D σ H ⟨env, S, μ, hE, hS, hp⟩ =>
  ⟨env, S, μ, hE, hS, hp.bind.imp fun xs S1 H1 μ1 l1 s1 p1 vs rvs => by
    split at p1
    · simp only [RelVs] at rvs
      obtain ⟨v1, _, rfl, r1, v2, _, rfl, r2, v3, _, rfl, r3, v4, _, rfl, r4, rfl⟩ := rvs
      refine ⟨by show 4 ≤ sizeLine; decide, fun c hc0 => ⟨c, [v1, v2, v3, v4], rfl, .inl (.inl upd_same), rfl, v1, _, rfl, v2, _, rfl, v3, _, rfl, v4, [], rfl, rfl, ?_⟩⟩
      have e1 := (hE.mono l1 hS.is).set (i := i) r1
      have e2 := e1.set (i := j) r2
      have e3 := e2.set (i := l) r3
      have e4 := e3.set (i := m) r4
      exact p1 _ _ (Le.new hc0) (s1.new hc0) _ (e4.mono (Le.new hc0) s1.is)
    · exact p1.elim⟩
end
def par4 (i j l m : Nat) (env : Env) (xs : List Val) (S : Sto) : Out Fl := match xs with
  | [x, y, z, w] => .ok (.nx ((((env.set i (some x)).set j (some y)).set l (some z)).set m (some w))) S
  | _ => .bad
@[simp] theorem par4_eq (i j l m : Nat) (env : Env) (x y z w : Val) (S : Sto) : par4 i j l m env [x, y, z, w] S = .ok (.nx ((((env.set i (some x)).set j (some y)).set l (some z)).set m (some w))) S := (rfl)
@[simp] theorem dPar4_eq (i j l m : Nat) (As : DAf) (env : Env) (S : Sto) : dPar4 i j l m As env S = (As env S).bind (par4 i j l m env) := (rfl)
end Dn
set_option Elab.async false
set_option linter.all false
set_option maxRecDepth 100000
set_option maxHeartbeats 0
namespace Law
open PySem PySem.Spec PyProof.Rows L2 GxR Gx Dn
def top (i : Nat) : Stmt := PySem.Challenge.pw_safehelms_k17_whole_table_papers_judged.main.body.getD i (.Pass ⟨0, 0, 0, 0⟩)
def tf : List He.Defn := [("is_row_of", none), ("is_lot", none), ("is_map", none), ("is_chart", none), ("has_lots", none), ("are_weights", none), ("takes", none)]
abbrev WK (K : PySem.W.Frag) : Wd := ⟨K, tf.map fun p => (He.cT K p).2, fun _ => 0⟩
abbrev s__law_box : Stmt := top 56
abbrev s__law_own_table : Stmt := top 70
abbrev s__law_sign_weights : Stmt := top 71
abbrev s__law_frac : Stmt := top 45
abbrev s__law_plus : Stmt := top 46
abbrev s__law_times : Stmt := top 47
abbrev s__law_dot : Stmt := top 49
abbrev s__law_own_papers : Stmt := top 72
abbrev s__law_draw : Stmt := top 43
abbrev s__law_of : Stmt := top 44
abbrev s__law_span : Stmt := top 63
abbrev s__law_spread : Stmt := top 64
abbrev s__law_kept : Stmt := top 65
abbrev s__law_number : Stmt := top 50
abbrev s__law_row : Stmt := top 51
abbrev s__law_unit : Stmt := top 66
abbrev s__law_sides : Stmt := top 67
abbrev s__law_case : Stmt := top 68
abbrev s__law_planned : Stmt := top 69
abbrev s__law_odd : Stmt := top 73
abbrev s__law_bent : Stmt := top 74
abbrev s__law_wishes : Stmt := top 60
abbrev s__law_is_whole : Stmt := top 52
abbrev s__law_is_frac : Stmt := top 53
abbrev s__law_is_row : Stmt := top 54
abbrev s__law_is_lot : Stmt := top 55
abbrev s__law_is_table : Stmt := top 61
abbrev s__law_mixed : Stmt := top 57
abbrev s__law_are_weights : Stmt := top 58
abbrev s__law_up_to : Stmt := top 48
abbrev s__law_is_paper : Stmt := top 59
abbrev s__law_takes : Stmt := top 62
abbrev s_is_tuple_of : Stmt := top 8
abbrev s_is_whole : Stmt := top 5
abbrev s_is_whole_from : Stmt := top 6
abbrev s_is_index : Stmt := top 7
abbrev s_is_fraction : Stmt := top 9
abbrev s_is_row_of : Stmt := top 20
abbrev s_is_wish : Stmt := top 23
abbrev s_is_lot : Stmt := top 22
abbrev s_is_small_lot : Stmt := top 26
abbrev s_is_start : Stmt := top 27
abbrev s_is_move : Stmt := top 30
abbrev s_is_map : Stmt := top 29
abbrev s_is_case : Stmt := top 28
abbrev s_is_chart : Stmt := top 25
abbrev s_check_chart : Stmt := top 31
abbrev s_fraction : Stmt := top 10
abbrev s_product_of : Stmt := top 14
abbrev s_led_back : Stmt := top 37
abbrev s_total : Stmt := top 12
abbrev s_opposite : Stmt := top 11
abbrev s_brought_by_moves : Stmt := top 39
abbrev s_bound_back : Stmt := top 38
abbrev s_case_wishes : Stmt := top 36
abbrev s_all_wishes : Stmt := top 35
abbrev s_has_lots : Stmt := top 34
abbrev s_weighed : Stmt := top 18
abbrev s_are_weights : Stmt := top 17
abbrev s_is_up_to : Stmt := top 13
abbrev s_shows : Stmt := top 16
abbrev s_takes : Stmt := top 40
abbrev s__law_moved_weight : Stmt := top 75
abbrev s_is_table : Stmt := top 33
abbrev s__law_right : Stmt := top 76
abbrev s__law_well : Stmt := top 42
abbrev s_law : Stmt := top 77
/-- what the head tells -/
structure Gf (K : PySem.W.Frag) (mg : Str → Option Value) (base : Heap) : Prop where
  b_abs : mg "abs" = none
  b_all : mg "all" = none
  b_bool : mg "bool" = none
  b_divmod : mg "divmod" = none
  b_int : mg "int" = none
  b_isinstance : mg "isinstance" = none
  b_len : mg "len" = none
  b_list : mg "list" = none
  b_max : mg "max" = none
  b_min : mg "min" = none
  b_range : mg "range" = none
  b_repr : mg "repr" = none
  b_str : mg "str" = none
  b_sum : mg "sum" = none
  b_tuple : mg "tuple" = none
  b_zip : mg "zip" = none
  gcd : mg "gcd" = some (.builtin "math.gcd")
  t_is_row_of : TabB base mg (He.codeOf K ("is_row_of", none)) (He.tabOf K (He.codeOf K ("is_row_of", none)))
  t_is_lot : TabB base mg (He.codeOf K ("is_lot", none)) (He.tabOf K (He.codeOf K ("is_lot", none)))
  t_is_map : TabB base mg (He.codeOf K ("is_map", none)) (He.tabOf K (He.codeOf K ("is_map", none)))
  t_is_chart : TabB base mg (He.codeOf K ("is_chart", none)) (He.tabOf K (He.codeOf K ("is_chart", none)))
  t_has_lots : TabB base mg (He.codeOf K ("has_lots", none)) (He.tabOf K (He.codeOf K ("has_lots", none)))
  t_are_weights : TabB base mg (He.codeOf K ("are_weights", none)) (He.tabOf K (He.codeOf K ("are_weights", none)))
  t_takes : TabB base mg (He.codeOf K ("takes", none)) (He.tabOf K (He.codeOf K ("takes", none)))
  f__law_box : ∃ fd, FunD K "_law_box" "_law_box" (defArgs s__law_box) (defBody s__law_box) (defScope s__law_box) [] [] (He.fAd K ("_law_box", none)) fd
  f__law_own_table : ∃ fd, FunD K "_law_own_table" "_law_own_table" (defArgs s__law_own_table) (defBody s__law_own_table) (defScope s__law_own_table) [] [] (He.fAd K ("_law_own_table", none)) fd
  f__law_sign_weights : ∃ fd, FunD K "_law_sign_weights" "_law_sign_weights" (defArgs s__law_sign_weights) (defBody s__law_sign_weights) (defScope s__law_sign_weights) [] [] (He.fAd K ("_law_sign_weights", none)) fd
  f__law_frac : ∃ fd, FunD K "_law_frac" "_law_frac" (defArgs s__law_frac) (defBody s__law_frac) (defScope s__law_frac) [] [] (He.fAd K ("_law_frac", none)) fd
  f__law_plus : ∃ fd, FunD K "_law_plus" "_law_plus" (defArgs s__law_plus) (defBody s__law_plus) (defScope s__law_plus) [] [] (He.fAd K ("_law_plus", none)) fd
  f__law_times : ∃ fd, FunD K "_law_times" "_law_times" (defArgs s__law_times) (defBody s__law_times) (defScope s__law_times) [] [] (He.fAd K ("_law_times", none)) fd
  f__law_dot : ∃ fd, FunD K "_law_dot" "_law_dot" (defArgs s__law_dot) (defBody s__law_dot) (defScope s__law_dot) [] [] (He.fAd K ("_law_dot", none)) fd
  f__law_own_papers : ∃ fd, FunD K "_law_own_papers" "_law_own_papers" (defArgs s__law_own_papers) (defBody s__law_own_papers) (defScope s__law_own_papers) [] [] (He.fAd K ("_law_own_papers", none)) fd
  f__law_draw : ∃ fd, FunD K "_law_draw" "_law_draw" (defArgs s__law_draw) (defBody s__law_draw) (defScope s__law_draw) [] [] (He.fAd K ("_law_draw", none)) fd
  f__law_of : ∃ fd, FunD K "_law_of" "_law_of" (defArgs s__law_of) (defBody s__law_of) (defScope s__law_of) [] [] (He.fAd K ("_law_of", none)) fd
  f__law_span : ∃ fd, FunD K "_law_span" "_law_span" (defArgs s__law_span) (defBody s__law_span) (defScope s__law_span) [] [] (He.fAd K ("_law_span", none)) fd
  f__law_spread : ∃ fd, FunD K "_law_spread" "_law_spread" (defArgs s__law_spread) (defBody s__law_spread) (defScope s__law_spread) [] [] (He.fAd K ("_law_spread", none)) fd
  f__law_kept : ∃ fd, FunD K "_law_kept" "_law_kept" (defArgs s__law_kept) (defBody s__law_kept) (defScope s__law_kept) [] [] (He.fAd K ("_law_kept", none)) fd
  f__law_number : ∃ fd, FunD K "_law_number" "_law_number" (defArgs s__law_number) (defBody s__law_number) (defScope s__law_number) [] [] (He.fAd K ("_law_number", none)) fd
  f__law_row : ∃ fd, FunD K "_law_row" "_law_row" (defArgs s__law_row) (defBody s__law_row) (defScope s__law_row) [] [] (He.fAd K ("_law_row", none)) fd
  f__law_unit : ∃ fd, FunD K "_law_unit" "_law_unit" (defArgs s__law_unit) (defBody s__law_unit) (defScope s__law_unit) [] [] (He.fAd K ("_law_unit", none)) fd
  f__law_sides : ∃ fd, FunD K "_law_sides" "_law_sides" (defArgs s__law_sides) (defBody s__law_sides) (defScope s__law_sides) [] [] (He.fAd K ("_law_sides", none)) fd
  f__law_case : ∃ fd, FunD K "_law_case" "_law_case" (defArgs s__law_case) (defBody s__law_case) (defScope s__law_case) [] [] (He.fAd K ("_law_case", none)) fd
  f__law_planned : ∃ fd, FunD K "_law_planned" "_law_planned" (defArgs s__law_planned) (defBody s__law_planned) (defScope s__law_planned) [] [] (He.fAd K ("_law_planned", none)) fd
  f__law_odd : ∃ fd, FunD K "_law_odd" "_law_odd" (defArgs s__law_odd) (defBody s__law_odd) (defScope s__law_odd) [] [] (He.fAd K ("_law_odd", none)) fd
  f__law_bent : ∃ fd, FunD K "_law_bent" "_law_bent" (defArgs s__law_bent) (defBody s__law_bent) (defScope s__law_bent) [] [] (He.fAd K ("_law_bent", none)) fd
  f__law_wishes : ∃ fd, FunD K "_law_wishes" "_law_wishes" (defArgs s__law_wishes) (defBody s__law_wishes) (defScope s__law_wishes) [] [] (He.fAd K ("_law_wishes", none)) fd
  f__law_is_whole : ∃ fd, FunD K "_law_is_whole" "_law_is_whole" (defArgs s__law_is_whole) (defBody s__law_is_whole) (defScope s__law_is_whole) [] [] (He.fAd K ("_law_is_whole", none)) fd
  f__law_is_frac : ∃ fd, FunD K "_law_is_frac" "_law_is_frac" (defArgs s__law_is_frac) (defBody s__law_is_frac) (defScope s__law_is_frac) [] [] (He.fAd K ("_law_is_frac", none)) fd
  f__law_is_row : ∃ fd, FunD K "_law_is_row" "_law_is_row" (defArgs s__law_is_row) (defBody s__law_is_row) (defScope s__law_is_row) [] [] (He.fAd K ("_law_is_row", none)) fd
  f__law_is_lot : ∃ fd, FunD K "_law_is_lot" "_law_is_lot" (defArgs s__law_is_lot) (defBody s__law_is_lot) (defScope s__law_is_lot) [] [] (He.fAd K ("_law_is_lot", none)) fd
  f__law_is_table : ∃ fd, FunD K "_law_is_table" "_law_is_table" (defArgs s__law_is_table) (defBody s__law_is_table) (defScope s__law_is_table) [] [] (He.fAd K ("_law_is_table", none)) fd
  f__law_mixed : ∃ fd, FunD K "_law_mixed" "_law_mixed" (defArgs s__law_mixed) (defBody s__law_mixed) (defScope s__law_mixed) [] [] (He.fAd K ("_law_mixed", none)) fd
  f__law_are_weights : ∃ fd, FunD K "_law_are_weights" "_law_are_weights" (defArgs s__law_are_weights) (defBody s__law_are_weights) (defScope s__law_are_weights) [] [] (He.fAd K ("_law_are_weights", none)) fd
  f__law_up_to : ∃ fd, FunD K "_law_up_to" "_law_up_to" (defArgs s__law_up_to) (defBody s__law_up_to) (defScope s__law_up_to) [] [] (He.fAd K ("_law_up_to", none)) fd
  f__law_is_paper : ∃ fd, FunD K "_law_is_paper" "_law_is_paper" (defArgs s__law_is_paper) (defBody s__law_is_paper) (defScope s__law_is_paper) [] [] (He.fAd K ("_law_is_paper", none)) fd
  f__law_takes : ∃ fd, FunD K "_law_takes" "_law_takes" (defArgs s__law_takes) (defBody s__law_takes) (defScope s__law_takes) [] [] (He.fAd K ("_law_takes", none)) fd
  f_is_tuple_of : ∃ fd, FunD K "is_tuple_of" "is_tuple_of" (defArgs s_is_tuple_of) (defBody s_is_tuple_of) (defScope s_is_tuple_of) [] [] (He.fAd K ("is_tuple_of", none)) fd
  f_is_whole : ∃ fd, FunD K "is_whole" "is_whole" (defArgs s_is_whole) (defBody s_is_whole) (defScope s_is_whole) [] [] (He.fAd K ("is_whole", none)) fd
  f_is_whole_from : ∃ fd, FunD K "is_whole_from" "is_whole_from" (defArgs s_is_whole_from) (defBody s_is_whole_from) (defScope s_is_whole_from) [] [] (He.fAd K ("is_whole_from", none)) fd
  f_is_index : ∃ fd, FunD K "is_index" "is_index" (defArgs s_is_index) (defBody s_is_index) (defScope s_is_index) [] [] (He.fAd K ("is_index", none)) fd
  f_is_fraction : ∃ fd, FunD K "is_fraction" "is_fraction" (defArgs s_is_fraction) (defBody s_is_fraction) (defScope s_is_fraction) [] [] (He.fAd K ("is_fraction", none)) fd
  f_is_row_of : ∃ fd, FunD K "is_row_of" "is_row_of" (defArgs s_is_row_of) (defBody s_is_row_of) (defScope s_is_row_of) [] [] (He.fAd K ("is_row_of", none)) fd
  f_is_wish : ∃ fd, FunD K "is_wish" "is_wish" (defArgs s_is_wish) (defBody s_is_wish) (defScope s_is_wish) [] [] (He.fAd K ("is_wish", none)) fd
  f_is_lot : ∃ fd, FunD K "is_lot" "is_lot" (defArgs s_is_lot) (defBody s_is_lot) (defScope s_is_lot) [] [] (He.fAd K ("is_lot", none)) fd
  f_is_small_lot : ∃ fd, FunD K "is_small_lot" "is_small_lot" (defArgs s_is_small_lot) (defBody s_is_small_lot) (defScope s_is_small_lot) [] [] (He.fAd K ("is_small_lot", none)) fd
  f_is_start : ∃ fd, FunD K "is_start" "is_start" (defArgs s_is_start) (defBody s_is_start) (defScope s_is_start) [] [] (He.fAd K ("is_start", none)) fd
  f_is_move : ∃ fd, FunD K "is_move" "is_move" (defArgs s_is_move) (defBody s_is_move) (defScope s_is_move) [] [] (He.fAd K ("is_move", none)) fd
  f_is_map : ∃ fd, FunD K "is_map" "is_map" (defArgs s_is_map) (defBody s_is_map) (defScope s_is_map) [] [] (He.fAd K ("is_map", none)) fd
  f_is_case : ∃ fd, FunD K "is_case" "is_case" (defArgs s_is_case) (defBody s_is_case) (defScope s_is_case) [] [] (He.fAd K ("is_case", none)) fd
  f_is_chart : ∃ fd, FunD K "is_chart" "is_chart" (defArgs s_is_chart) (defBody s_is_chart) (defScope s_is_chart) [] [] (He.fAd K ("is_chart", none)) fd
  f_check_chart : ∃ fd, FunD K "check_chart" "check_chart" (defArgs s_check_chart) (defBody s_check_chart) (defScope s_check_chart) [] [] (He.fAd K ("check_chart", none)) fd
  f_fraction : ∃ fd, FunD K "fraction" "fraction" (defArgs s_fraction) (defBody s_fraction) (defScope s_fraction) [] [] (He.fAd K ("fraction", none)) fd
  f_product_of : ∃ fd, FunD K "product_of" "product_of" (defArgs s_product_of) (defBody s_product_of) (defScope s_product_of) [] [] (He.fAd K ("product_of", none)) fd
  f_led_back : ∃ fd, FunD K "led_back" "led_back" (defArgs s_led_back) (defBody s_led_back) (defScope s_led_back) [] [] (He.fAd K ("led_back", none)) fd
  f_total : ∃ fd, FunD K "total" "total" (defArgs s_total) (defBody s_total) (defScope s_total) [] [] (He.fAd K ("total", none)) fd
  f_opposite : ∃ fd, FunD K "opposite" "opposite" (defArgs s_opposite) (defBody s_opposite) (defScope s_opposite) [] [] (He.fAd K ("opposite", none)) fd
  f_brought_by_moves : ∃ fd, FunD K "brought_by_moves" "brought_by_moves" (defArgs s_brought_by_moves) (defBody s_brought_by_moves) (defScope s_brought_by_moves) [] [] (He.fAd K ("brought_by_moves", none)) fd
  f_bound_back : ∃ fd, FunD K "bound_back" "bound_back" (defArgs s_bound_back) (defBody s_bound_back) (defScope s_bound_back) [] [] (He.fAd K ("bound_back", none)) fd
  f_case_wishes : ∃ fd, FunD K "case_wishes" "case_wishes" (defArgs s_case_wishes) (defBody s_case_wishes) (defScope s_case_wishes) [] [] (He.fAd K ("case_wishes", none)) fd
  f_all_wishes : ∃ fd, FunD K "all_wishes" "all_wishes" (defArgs s_all_wishes) (defBody s_all_wishes) (defScope s_all_wishes) [] [] (He.fAd K ("all_wishes", none)) fd
  f_has_lots : ∃ fd, FunD K "has_lots" "has_lots" (defArgs s_has_lots) (defBody s_has_lots) (defScope s_has_lots) [] [] (He.fAd K ("has_lots", none)) fd
  f_weighed : ∃ fd, FunD K "weighed" "weighed" (defArgs s_weighed) (defBody s_weighed) (defScope s_weighed) [] [] (He.fAd K ("weighed", none)) fd
  f_are_weights : ∃ fd, FunD K "are_weights" "are_weights" (defArgs s_are_weights) (defBody s_are_weights) (defScope s_are_weights) [] [] (He.fAd K ("are_weights", none)) fd
  f_is_up_to : ∃ fd, FunD K "is_up_to" "is_up_to" (defArgs s_is_up_to) (defBody s_is_up_to) (defScope s_is_up_to) [] [] (He.fAd K ("is_up_to", none)) fd
  f_shows : ∃ fd, FunD K "shows" "shows" (defArgs s_shows) (defBody s_shows) (defScope s_shows) [] [] (He.fAd K ("shows", none)) fd
  f_takes : ∃ fd, FunD K "takes" "takes" (defArgs s_takes) (defBody s_takes) (defScope s_takes) [] [] (He.fAd K ("takes", none)) fd
  f__law_moved_weight : ∃ fd, FunD K "_law_moved_weight" "_law_moved_weight" (defArgs s__law_moved_weight) (defBody s__law_moved_weight) (defScope s__law_moved_weight) [] [] (He.fAd K ("_law_moved_weight", none)) fd
  f_is_table : ∃ fd, FunD K "is_table" "is_table" (defArgs s_is_table) (defBody s_is_table) (defScope s_is_table) [] [] (He.fAd K ("is_table", none)) fd
  f__law_right : ∃ fd, FunD K "_law_right" "_law_right" (defArgs s__law_right) (defBody s__law_right) (defScope s__law_right) [] [] (He.fAd K ("_law_right", none)) fd
  f__law_well : ∃ fd, FunD K "_law_well" "_law_well" (defArgs s__law_well) (defBody s__law_well) (defScope s__law_well) [] [] (He.fAd K ("_law_well", none)) fd
  f_law : ∃ fd, FunD K "law" "law" (defArgs s_law) (defBody s_law) (defScope s_law) [] [] (He.fAd K ("law", none)) fd
  g__law_box : mg "_law_box" = some (.ref (He.fAd K ("_law_box", none)))
  g__law_own_table : mg "_law_own_table" = some (.ref (He.fAd K ("_law_own_table", none)))
  g__law_sign_weights : mg "_law_sign_weights" = some (.ref (He.fAd K ("_law_sign_weights", none)))
  g__law_frac : mg "_law_frac" = some (.ref (He.fAd K ("_law_frac", none)))
  g__law_plus : mg "_law_plus" = some (.ref (He.fAd K ("_law_plus", none)))
  g__law_times : mg "_law_times" = some (.ref (He.fAd K ("_law_times", none)))
  g__law_dot : mg "_law_dot" = some (.ref (He.fAd K ("_law_dot", none)))
  g__law_own_papers : mg "_law_own_papers" = some (.ref (He.fAd K ("_law_own_papers", none)))
  g__law_draw : mg "_law_draw" = some (.ref (He.fAd K ("_law_draw", none)))
  g__law_of : mg "_law_of" = some (.ref (He.fAd K ("_law_of", none)))
  g__law_span : mg "_law_span" = some (.ref (He.fAd K ("_law_span", none)))
  g__law_spread : mg "_law_spread" = some (.ref (He.fAd K ("_law_spread", none)))
  g__law_kept : mg "_law_kept" = some (.ref (He.fAd K ("_law_kept", none)))
  g__law_number : mg "_law_number" = some (.ref (He.fAd K ("_law_number", none)))
  g__law_row : mg "_law_row" = some (.ref (He.fAd K ("_law_row", none)))
  g__law_unit : mg "_law_unit" = some (.ref (He.fAd K ("_law_unit", none)))
  g__law_sides : mg "_law_sides" = some (.ref (He.fAd K ("_law_sides", none)))
  g__law_case : mg "_law_case" = some (.ref (He.fAd K ("_law_case", none)))
  g__law_planned : mg "_law_planned" = some (.ref (He.fAd K ("_law_planned", none)))
  g__law_odd : mg "_law_odd" = some (.ref (He.fAd K ("_law_odd", none)))
  g__law_bent : mg "_law_bent" = some (.ref (He.fAd K ("_law_bent", none)))
  g__law_wishes : mg "_law_wishes" = some (.ref (He.fAd K ("_law_wishes", none)))
  g__law_is_whole : mg "_law_is_whole" = some (.ref (He.fAd K ("_law_is_whole", none)))
  g__law_is_frac : mg "_law_is_frac" = some (.ref (He.fAd K ("_law_is_frac", none)))
  g__law_is_row : mg "_law_is_row" = some (.ref (He.fAd K ("_law_is_row", none)))
  g__law_is_lot : mg "_law_is_lot" = some (.ref (He.fAd K ("_law_is_lot", none)))
  g__law_is_table : mg "_law_is_table" = some (.ref (He.fAd K ("_law_is_table", none)))
  g__law_mixed : mg "_law_mixed" = some (.ref (He.fAd K ("_law_mixed", none)))
  g__law_are_weights : mg "_law_are_weights" = some (.ref (He.fAd K ("_law_are_weights", none)))
  g__law_up_to : mg "_law_up_to" = some (.ref (He.fAd K ("_law_up_to", none)))
  g__law_is_paper : mg "_law_is_paper" = some (.ref (He.fAd K ("_law_is_paper", none)))
  g__law_takes : mg "_law_takes" = some (.ref (He.fAd K ("_law_takes", none)))
  g_is_tuple_of : mg "is_tuple_of" = some (.ref (He.fAd K ("is_tuple_of", none)))
  g_is_whole : mg "is_whole" = some (.ref (He.fAd K ("is_whole", none)))
  g_is_whole_from : mg "is_whole_from" = some (.ref (He.fAd K ("is_whole_from", none)))
  g_is_index : mg "is_index" = some (.ref (He.fAd K ("is_index", none)))
  g_is_fraction : mg "is_fraction" = some (.ref (He.fAd K ("is_fraction", none)))
  g_is_row_of : mg "is_row_of" = some (.ref (He.fAd K ("is_row_of", none)))
  g_is_wish : mg "is_wish" = some (.ref (He.fAd K ("is_wish", none)))
  g_is_lot : mg "is_lot" = some (.ref (He.fAd K ("is_lot", none)))
  g_is_small_lot : mg "is_small_lot" = some (.ref (He.fAd K ("is_small_lot", none)))
  g_is_start : mg "is_start" = some (.ref (He.fAd K ("is_start", none)))
  g_is_move : mg "is_move" = some (.ref (He.fAd K ("is_move", none)))
  g_is_map : mg "is_map" = some (.ref (He.fAd K ("is_map", none)))
  g_is_case : mg "is_case" = some (.ref (He.fAd K ("is_case", none)))
  g_is_chart : mg "is_chart" = some (.ref (He.fAd K ("is_chart", none)))
  g_check_chart : mg "check_chart" = some (.ref (He.fAd K ("check_chart", none)))
  g_fraction : mg "fraction" = some (.ref (He.fAd K ("fraction", none)))
  g_product_of : mg "product_of" = some (.ref (He.fAd K ("product_of", none)))
  g_led_back : mg "led_back" = some (.ref (He.fAd K ("led_back", none)))
  g_total : mg "total" = some (.ref (He.fAd K ("total", none)))
  g_opposite : mg "opposite" = some (.ref (He.fAd K ("opposite", none)))
  g_brought_by_moves : mg "brought_by_moves" = some (.ref (He.fAd K ("brought_by_moves", none)))
  g_bound_back : mg "bound_back" = some (.ref (He.fAd K ("bound_back", none)))
  g_case_wishes : mg "case_wishes" = some (.ref (He.fAd K ("case_wishes", none)))
  g_all_wishes : mg "all_wishes" = some (.ref (He.fAd K ("all_wishes", none)))
  g_has_lots : mg "has_lots" = some (.ref (He.fAd K ("has_lots", none)))
  g_weighed : mg "weighed" = some (.ref (He.fAd K ("weighed", none)))
  g_are_weights : mg "are_weights" = some (.ref (He.fAd K ("are_weights", none)))
  g_is_up_to : mg "is_up_to" = some (.ref (He.fAd K ("is_up_to", none)))
  g_shows : mg "shows" = some (.ref (He.fAd K ("shows", none)))
  g_takes : mg "takes" = some (.ref (He.fAd K ("takes", none)))
  g__law_moved_weight : mg "_law_moved_weight" = some (.ref (He.fAd K ("_law_moved_weight", none)))
  g_is_table : mg "is_table" = some (.ref (He.fAd K ("is_table", none)))
  g__law_right : mg "_law_right" = some (.ref (He.fAd K ("_law_right", none)))
  g__law_well : mg "_law_well" = some (.ref (He.fAd K ("_law_well", none)))
  g_law : mg "law" = some (.ref (He.fAd K ("law", none)))
noncomputable def b__law_box : DSf := (dSeq (dPar 2 3 (dCons (dCall (o1 bLen) (dCons (dVar 0) dNil)) (dCons (dCall oCell dNil) dNil)))
  (dSeq (dFor (diRng1 (dCons (dVar 2) dNil)) (dgName 1)
  (dFor (diSeq (dCall oTup (dCons (dCall oTup (dCons (dC (.int 1)) (dCons (dOp oIx (dOp oIx (dVar 0) (dVar 1)) (dC (.int 1))) dNil))) (dCons (dCall oTup (dCons (dUn oNeg (dC (.int 1))) (dCons (dCall oTup (dCons (dOp oSub (dC (.int 0)) (dOp oIx (dOp oIx (dOp oIx (dVar 0) (dVar 1)) (dC (.int 0))) (dC (.int 0)))) (dCons (dOp oIx (dOp oIx (dOp oIx (dVar 0) (dVar 1)) (dC (.int 0))) (dC (.int 1))) dNil))) dNil))) dNil)))) (dgTup 2 (dgCons (dgName 4) (dgCons (dgName 5) dgNil)))
  (dDrop (dMeth mAppend (dVar 3) (dCons (dCall oTup (dCons (dCall (o1 bTuple) (dCons (dLc (diRng1 (dCons (dVar 2) dNil)) (dgName 6) dYes (dIf (dB (dOp oEq (dVar 6) (dVar 1))) (dCall oTup (dCons (dVar 4) (dCons (dC (.int 1)) dNil))) (dCall oTup (dCons (dC (.int 0)) (dCons (dC (.int 1)) dNil)))) [6]) dNil)) (dCons (dVar 5) dNil))) dNil)))))
  (dRet (dCall oTup (dCons (dVar 2) (dCons (dCall (o1 bTuple) (dCons (dVar 3) dNil)) dNil))))))
noncomputable def m__law_box : Opn := dFn 7 b__law_box
noncomputable def b__law_own_table : DSf := (dRet (dOp oMul (dCall oTup (dCons (dCallN 1 m__law_box (dCons (dOp oMul (dCall oTup (dCons (dCall oTup (dCons (dCall oTup (dCons (dOp oSub (dC (.int 0)) (dVar 1)) (dCons (dC (.int 1)) dNil))) (dCons (dCall oTup (dCons (dVar 1) (dCons (dC (.int 1)) dNil))) dNil))) dNil)) (dOp oIx (dVar 0) (dC (.int 0)))) dNil)) dNil)) (dCall (o1 bLen) (dCons (dOp oIx (dVar 0) (dC (.int 4))) dNil))))
noncomputable def m__law_own_table : Opn := dFn 2 b__law_own_table
noncomputable def b__law_sign_weights : DSf := (dSeq (dAsg (dCall oCell dNil) (dgName 1))
  (dSeq (dFor (diSeq (dVar 0)) (dgName 2)
  (dSeq (dDrop (dMeth mAppend (dVar 1) (dCons (dIf (dB (dOp oGt (dOp oIx (dVar 2) (dC (.int 0))) (dC (.int 0)))) (dVar 2) (dCall oTup (dCons (dC (.int 0)) (dCons (dC (.int 1)) dNil)))) dNil)))
  (dDrop (dMeth mAppend (dVar 1) (dCons (dIf (dB (dOp oLt (dOp oIx (dVar 2) (dC (.int 0))) (dC (.int 0)))) (dCall oTup (dCons (dOp oSub (dC (.int 0)) (dOp oIx (dVar 2) (dC (.int 0)))) (dCons (dOp oIx (dVar 2) (dC (.int 1))) dNil))) (dCall oTup (dCons (dC (.int 0)) (dCons (dC (.int 1)) dNil)))) dNil)))))
  (dRet (dCall (o1 bTuple) (dCons (dVar 1) dNil)))))
noncomputable def m__law_sign_weights : Opn := dFn 3 b__law_sign_weights
noncomputable def b__law_frac : DSf := (dSeq (dPar 2 3 (dCons (dCall (o1 bAbs) (dCons (dVar 0) dNil)) (dCons (dCall (o1 bAbs) (dCons (dVar 1) dNil)) dNil)))
  (dSeq (dWhile (dB (dOp oGt (dVar 3) (dC (.int 0))))
  (dPar 2 3 (dCons (dVar 3) (dCons (dOp oMod (dCall (o1 bInt) (dCons (dVar 2) dNil)) (dVar 3)) dNil))))
  (dSeq (dAsg (dIf (dB (dOp oGt (dVar 1) (dC (.int 0)))) (dVar 2) (dOp oSub (dC (.int 0)) (dVar 2))) (dgName 2))
  (dRet (dCall oTup (dCons (dOp oDiv (dVar 0) (dVar 2)) (dCons (dOp oDiv (dVar 1) (dVar 2)) dNil)))))))
noncomputable def m__law_frac : Opn := dFn 4 b__law_frac
noncomputable def b__law_plus : DSf := (dRet (dCallN 2 m__law_frac (dCons (dOp oAdd (dOp oMul (dOp oIx (dVar 0) (dC (.int 0))) (dOp oIx (dVar 1) (dC (.int 1)))) (dOp oMul (dOp oIx (dVar 1) (dC (.int 0))) (dOp oIx (dVar 0) (dC (.int 1))))) (dCons (dOp oMul (dOp oIx (dVar 0) (dC (.int 1))) (dOp oIx (dVar 1) (dC (.int 1)))) dNil))))
noncomputable def m__law_plus : Opn := dFn 2 b__law_plus
noncomputable def b__law_times : DSf := (dRet (dCallN 2 m__law_frac (dCons (dOp oMul (dOp oIx (dVar 0) (dC (.int 0))) (dOp oIx (dVar 1) (dC (.int 0)))) (dCons (dOp oMul (dOp oIx (dVar 0) (dC (.int 1))) (dOp oIx (dVar 1) (dC (.int 1)))) dNil))))
noncomputable def m__law_times : Opn := dFn 2 b__law_times
noncomputable def b__law_dot : DSf := (dSeq (dAsg (dCall oTup (dCons (dC (.int 0)) (dCons (dC (.int 1)) dNil))) (dgName 2))
  (dSeq (dFor (diMx (dCons (dVar 0) (dCons (dVar 1) dNil))) (dgTup 2 (dgCons (dgName 3) (dgCons (dgName 4) dgNil)))
  (dAsg (dCallN 2 m__law_plus (dCons (dVar 2) (dCons (dCallN 2 m__law_times (dCons (dVar 3) (dCons (dVar 4) dNil))) dNil))) (dgName 2)))
  (dRet (dVar 2))))
noncomputable def m__law_dot : Opn := dFn 5 b__law_dot
noncomputable def b__law_own_papers : DSf := (dSeq (dAsg (dVar 0) (dgTup 5 (dgCons (dgName 4) (dgCons (dgName 5) (dgCons (dgName 6) (dgCons (dgName 7) (dgCons (dgName 8) dgNil)))))))
  (dSeq (dAsg (dCall oCell dNil) (dgName 2))
  (dSeq (dFor (diSeq (dVar 6)) (dgTup 2 (dgCons (dgName 9) (dgCons (dgName 10) dgNil)))
  (dAsg (dOp oAddC (dVar 2) (dLc (diSeq (dOp oIx (dOp oIx (dVar 1) (dVar 9)) (dC (.int 1)))) (dgTup 2 (dgCons (dgName 16) (dgCons (dgName 17) dgNil))) dYes (dCall oTup (dCons (dC (.str "bound")) (dCons (dCallN 1 m__law_sign_weights (dCons (dVar 16) dNil)) dNil))) [16, 17])) (dgName 2)))
  (dSeq (dFor (diSeq (dVar 7)) (dgTup 4 (dgCons (dgName 11) (dgCons (dgName 12) (dgCons (dgName 13) (dgCons (dgName 14) dgNil)))))
  (dSeq (dAsg (dOp oMul (dCall oTup (dCons (dCall oTup (dCons (dC (.int 0)) (dCons (dC (.int 1)) dNil))) dNil)) (dOp oSub (dCall (o1 bLen) (dCons (dOp oIx (dVar 12) (dC (.int 1))) dNil)) (dOp oMul (dC (.int 2)) (dVar 5)))) (dgName 15))
  (dFor (diSeq (dOp oIx (dOp oIx (dVar 1) (dVar 14)) (dC (.int 1)))) (dgTup 2 (dgCons (dgName 16) (dgCons (dgName 17) dgNil)))
  (dSeq (dAsg (dCall (o1 bTuple) (dCons (dLc (diRng1 (dCons (dOp oAdd (dVar 4) (dVar 5)) dNil)) (dgName 19) dYes (dCallN 2 m__law_dot (dCons (dVar 16) (dCons (dLc (diSeq (dVar 13)) (dgName 20) dYes (dOp oIx (dOp oIx (dVar 20) (dC (.int 0))) (dVar 19)) [20]) dNil))) [19]) dNil)) (dgName 18))
  (dDrop (dMeth mAppend (dVar 2) (dCons (dCall oTup (dCons (dC (.str "bound")) (dCons (dOp oAdd (dCallN 1 m__law_sign_weights (dCons (dVar 18) dNil)) (dVar 15)) dNil))) dNil)))))))
  (dSeq (dFor (diSeq (dVar 8)) (dgName 3)
  (dAsg (dOp oAddC (dVar 2) (dLc (diSeq (dOp oIx (dVar 3) (dC (.int 1)))) (dgTup 2 (dgCons (dgName 16) (dgCons (dgName 17) dgNil))) dYes (dCall oTup (dCons (dC (.str "bound")) (dCons (dCallN 1 m__law_sign_weights (dCons (dVar 16) dNil)) dNil))) [16, 17])) (dgName 2)))
  (dRet (dCall (o1 bTuple) (dCons (dVar 2) dNil))))))))
noncomputable def m__law_own_papers : Opn := dFn 21 b__law_own_papers
noncomputable def b__law_draw : DSf := (dSeq (dIfS (dB (dOp oGt (dOp oIx (dVar 0) (dC (.int 0))) (dC (.int 0))))
  (dSeq (dAsg (dCall (o2 bDivmod) (dCons (dOp oIx (dVar 0) (dC (.int 0))) (dCons (dVar 1) dNil))) (dgTup 2 (dgCons (dgSub (dVar 0) (dC (.int 0))) (dgCons (dgName 3) dgNil))))
  (dRet (dVar 3))) dNext)
  (dSeq (dAsg (dOp oAdd (dOp oIx (dVar 0) (dC (.int 2))) (dC (.int 1))) (dgSub (dVar 0) (dC (.int 2))))
  (dSeq (dAsg (dOp oMod (dCall (o1 bInt) (dCons (dOp oAdd (dOp oAdd (dOp oMul (dOp oIx (dVar 0) (dC (.int 1))) (dC (.int 40014))) (dOp oMul (dOp oIx (dVar 0) (dC (.int 2))) (dC (.int 52387)))) (dC (.int 5))) dNil)) (dC (.int 2147483587))) (dgName 2))
  (dSeq (dAsg (dVar 2) (dgSub (dVar 0) (dC (.int 1))))
  (dRet (dOp oMod (dCall (o1 bInt) (dCons (dOp oDiv (dOp oMod (dCall (o1 bInt) (dCons (dOp oMul (dVar 2) (dOp oAdd (dOp oMod (dCall (o1 bInt) (dCons (dVar 2) dNil)) (dC (.int 6007))) (dC (.int 30029)))) dNil)) (dC (.int 2147483563))) (dC (.int 127))) dNil)) (dVar 1)))))))
noncomputable def m__law_draw : Opn := dFn 4 b__law_draw
noncomputable def b__law_of : DSf := (dRet (dOp oIx (dVar 1) (dCallN 2 m__law_draw (dCons (dVar 0) (dCons (dCall (o1 bLen) (dCons (dVar 1) dNil)) dNil)))))
noncomputable def m__law_of : Opn := dFn 2 b__law_of
noncomputable def b__law_span : DSf := (dSeq (dAsg (dCallN 2 m__law_of (dCons (dVar 0) (dCons (dCall oTup (dCons (dCall oTup (dCons (dC (.int 0)) (dCons (dC (.int 1)) dNil))) (dCons (dCall oTup (dCons (dUn oNeg (dC (.int 1))) (dCons (dC (.int 1)) dNil))) (dCons (dCall oTup (dCons (dC (.int 1)) (dCons (dC (.int 1)) dNil))) (dCons (dCall oTup (dCons (dUn oNeg (dC (.int 2))) (dCons (dC (.int 1)) dNil))) (dCons (dCall oTup (dCons (dC (.int 1)) (dCons (dC (.int 2)) dNil))) (dCons (dCall oTup (dCons (dUn oNeg (dC (.int 1))) (dCons (dC (.int 2)) dNil))) dNil))))))) dNil))) (dgName 1))
  (dRet (dCall oTup (dCons (dVar 1) (dCons (dCallN 2 m__law_plus (dCons (dVar 1) (dCons (dCallN 2 m__law_of (dCons (dVar 0) (dCons (dCall oTup (dCons (dCall oTup (dCons (dC (.int 0)) (dCons (dC (.int 1)) dNil))) (dCons (dCall oTup (dCons (dC (.int 1)) (dCons (dC (.int 1)) dNil))) (dCons (dCall oTup (dCons (dC (.int 2)) (dCons (dC (.int 1)) dNil))) (dCons (dCall oTup (dCons (dC (.int 1)) (dCons (dC (.int 2)) dNil))) (dCons (dCall oTup (dCons (dC (.int 4)) (dCons (dC (.int 1)) dNil))) dNil)))))) dNil))) dNil))) dNil)))))
noncomputable def m__law_span : Opn := dFn 2 b__law_span
noncomputable def b__law_spread : DSf := (dSeq (dAsg (dCall oCell dNil) (dgName 2))
  (dSeq (dFor (diRng1 (dCons (dVar 1) dNil)) (dgName 3)
  (dDrop (dMeth mAppend (dVar 2) (dCons (dCallN 1 m__law_span (dCons (dVar 0) dNil)) dNil))))
  (dRet (dCall (o1 bTuple) (dCons (dVar 2) dNil)))))
noncomputable def m__law_spread : Opn := dFn 4 b__law_spread
noncomputable def b__law_kept : DSf := (dSeq (dAsg (dCall oCell dNil) (dgName 4))
  (dSeq (dFor (diRng1 (dCons (dVar 1) dNil)) (dgName 5)
  (dSeq (dAsg (dCallN 2 m__law_of (dCons (dVar 0) (dCons (dVar 3) dNil))) (dgName 7))
  (dSeq (dAsg (dIf (dB (dOp oGt (dVar 2) (dC (.int 0)))) (dCallN 2 m__law_of (dCons (dVar 0) (dCons (dCall oTup (dCons (dCall oTup (dCons (dC (.int 1)) (dCons (dC (.int 1)) dNil))) (dCons (dCall oTup (dCons (dC (.int 0)) (dCons (dC (.int 1)) dNil))) (dCons (dCall oTup (dCons (dUn oNeg (dC (.int 1))) (dCons (dC (.int 1)) dNil))) (dCons (dCall oTup (dCons (dC (.int 1)) (dCons (dC (.int 2)) dNil))) dNil))))) dNil))) (dCall oTup (dCons (dC (.int 0)) (dCons (dC (.int 1)) dNil)))) (dgName 8))
  (dDrop (dMeth mAppend (dVar 4) (dCons (dCall oTup (dCons (dVar 7) (dCons (dVar 8) (dCons (dCallN 2 m__law_of (dCons (dVar 0) (dCons (dCall oTup (dCons (dCall oTup (dCons (dC (.int 0)) (dCons (dC (.int 1)) dNil))) (dCons (dCall oTup (dCons (dC (.int 1)) (dCons (dC (.int 1)) dNil))) (dCons (dCall oTup (dCons (dUn oNeg (dC (.int 1))) (dCons (dC (.int 1)) dNil))) (dCons (dCall oTup (dCons (dC (.int 1)) (dCons (dC (.int 2)) dNil))) (dCons (dCall oTup (dCons (dC (.int 0)) (dCons (dC (.int 1)) dNil))) (dCons (dCall oTup (dCons (dC (.int 3)) (dCons (dC (.int 1)) dNil))) dNil))))))) dNil))) dNil)))) dNil))))))
  (dSeq (dAsg (dCall oCell dNil) (dgName 6))
  (dSeq (dFor (diRng1 (dCons (dVar 1) dNil)) (dgName 5)
  (dDrop (dMeth mAppend (dVar 6) (dCons (dIf (dB (dOp oEq (dCallN 2 m__law_draw (dCons (dVar 0) (dCons (dC (.int 5)) dNil))) (dC (.int 0)))) (dCallN 1 m__law_span (dCons (dVar 0) dNil)) (dC .non)) dNil))))
  (dRet (dCall oTup (dCons (dCall (o1 bTuple) (dCons (dVar 4) dNil)) (dCons (dCallN 2 m__law_spread (dCons (dVar 0) (dCons (dVar 2) dNil))) (dCons (dCall (o1 bTuple) (dCons (dVar 6) dNil)) dNil)))))))))
noncomputable def m__law_kept : Opn := dFn 9 b__law_kept
noncomputable def b__law_number : DSf := (dSeq (dIfS (dB (dOp oGt (dCallN 2 m__law_draw (dCons (dVar 0) (dCons (dC (.int 4)) dNil))) (dC (.int 0))))
  (dRet (dOp oIx (dCall oTup (dCons (dCall oTup (dCons (dC (.int 0)) (dCons (dC (.int 1)) dNil))) (dCons (dCall oTup (dCons (dC (.int 1)) (dCons (dC (.int 1)) dNil))) (dCons (dCall oTup (dCons (dUn oNeg (dC (.int 1))) (dCons (dC (.int 1)) dNil))) (dCons (dCall oTup (dCons (dC (.int 2)) (dCons (dC (.int 1)) dNil))) (dCons (dCall oTup (dCons (dC (.int 0)) (dCons (dC (.int 1)) dNil))) (dCons (dCall oTup (dCons (dUn oNeg (dC (.int 2))) (dCons (dC (.int 1)) dNil))) (dCons (dCall oTup (dCons (dC (.int 3)) (dCons (dC (.int 1)) dNil))) (dCons (dCall oTup (dCons (dC (.int 1)) (dCons (dC (.int 1)) dNil))) dNil))))))))) (dCallN 2 m__law_draw (dCons (dVar 0) (dCons (dC (.int 8)) dNil))))) dNext)
  (dRet (dCallN 2 m__law_frac (dCons (dOp oSub (dCallN 2 m__law_draw (dCons (dVar 0) (dCons (dC (.int 13)) dNil))) (dC (.int 6))) (dCons (dOp oAdd (dC (.int 2)) (dCallN 2 m__law_draw (dCons (dVar 0) (dCons (dC (.int 3)) dNil)))) dNil)))))
noncomputable def m__law_number : Opn := dFn 1 b__law_number
noncomputable def b__law_row : DSf := (dSeq (dAsg (dCall oCell dNil) (dgName 2))
  (dSeq (dFor (diRng1 (dCons (dVar 1) dNil)) (dgName 3)
  (dDrop (dMeth mAppend (dVar 2) (dCons (dCallN 1 m__law_number (dCons (dVar 0) dNil)) dNil))))
  (dRet (dCall (o1 bTuple) (dCons (dVar 2) dNil)))))
noncomputable def m__law_row : Opn := dFn 4 b__law_row
noncomputable def b__law_unit : DSf := (dRet (dCall (o1 bTuple) (dCons (dLc (diRng1 (dCons (dVar 0) dNil)) (dgName 3) dYes (dIf (dB (dOp oEq (dVar 3) (dVar 1))) (dVar 2) (dCall oTup (dCons (dC (.int 0)) (dCons (dC (.int 1)) dNil)))) [3]) dNil)))
noncomputable def m__law_unit : Opn := dFn 4 b__law_unit
noncomputable def b__law_sides : DSf := (dSeq (dAsg (dCall oTup (dCons (dOp oSub (dC (.int 0)) (dOp oIx (dOp oIx (dVar 2) (dC (.int 0))) (dC (.int 0)))) (dCons (dOp oIx (dOp oIx (dVar 2) (dC (.int 0))) (dC (.int 1))) dNil))) (dgName 3))
  (dRet (dCall oTup (dCons (dCall oTup (dCons (dCallN 3 m__law_unit (dCons (dVar 0) (dCons (dVar 1) (dCons (dCall oTup (dCons (dC (.int 1)) (dCons (dC (.int 1)) dNil))) dNil)))) (dCons (dOp oIx (dVar 2) (dC (.int 1))) dNil))) (dCons (dCall oTup (dCons (dCallN 3 m__law_unit (dCons (dVar 0) (dCons (dVar 1) (dCons (dCall oTup (dCons (dUn oNeg (dC (.int 1))) (dCons (dC (.int 1)) dNil))) dNil)))) (dCons (dVar 3) dNil))) dNil)))))
noncomputable def m__law_sides : Opn := dFn 4 b__law_sides
noncomputable def b__law_case : DSf := (dSeq (dAsg (dVar 0) (dgTup 3 (dgCons (dgName 6) (dgCons (dgName 7) (dgCons (dgName 8) dgNil)))))
  (dSeq (dPar 9 10 (dCons (dCall oTup dNil) (dCons (dCall oCell dNil) dNil)))
  (dSeq (dFor (diRng1 (dCons (dVar 2) dNil)) (dgName 5)
  (dAsg (dOp oAdd (dVar 9) (dCallN 3 m__law_sides (dCons (dOp oAdd (dVar 1) (dVar 2)) (dCons (dOp oAdd (dVar 1) (dVar 5)) (dCons (dOp oIx (dVar 7) (dVar 5)) dNil))))) (dgName 9)))
  (dSeq (dFor (diRng1 (dCons (dVar 1) dNil)) (dgName 5)
  (dSeq (dIfS (dB (dOp oIsNot (dOp oIx (dVar 8) (dVar 5)) (dC .non)))
  (dAsg (dOp oAdd (dVar 9) (dCallN 3 m__law_sides (dCons (dOp oAdd (dVar 1) (dVar 2)) (dCons (dVar 5) (dCons (dOp oIx (dVar 8) (dVar 5)) dNil))))) (dgName 9)) dNext)
  (dSeq (dAsg (dCall (o1 bListC) (dCons (dCallN 3 m__law_unit (dCons (dOp oAdd (dVar 1) (dVar 2)) (dCons (dVar 5) (dCons (dOp oIx (dOp oIx (dVar 6) (dVar 5)) (dC (.int 0))) dNil)))) dNil)) (dgName 11))
  (dSeq (dIfS (dB (dOp oGt (dVar 2) (dC (.int 0))))
  (dAsg (dOp oIx (dOp oIx (dVar 6) (dVar 5)) (dC (.int 1))) (dgSub (dVar 11) (dOp oAdd (dVar 1) (dVar 5)))) dNext)
  (dDrop (dMeth mAppend (dVar 10) (dCons (dCall oTup (dCons (dCall (o1 bTuple) (dCons (dVar 11) dNil)) (dCons (dOp oIx (dOp oIx (dVar 6) (dVar 5)) (dC (.int 2))) dNil))) dNil)))))))
  (dRet (dCall oTup (dCons (dVar 3) (dCons (dCall oTup (dCons (dOp oAdd (dVar 1) (dVar 2)) (dCons (dVar 9) dNil))) (dCons (dCall (o1 bTuple) (dCons (dVar 10) dNil)) (dCons (dVar 4) dNil))))))))))
noncomputable def m__law_case : Opn := dFn 12 b__law_case
noncomputable def b__law_planned : DSf := (dSeq (dAsg (dOp oAdd (dC (.int 1)) (dCallN 2 m__law_draw (dCons (dVar 0) (dCons (dC (.int 2)) dNil)))) (dgName 4))
  (dSeq (dPar4 8 9 10 11 (dCons (dOp oMul (dVar 4) (dCallN 2 m__law_draw (dCons (dVar 0) (dCons (dC (.int 2)) dNil)))) (dCons (dCall oCell dNil) (dCons (dCall oCell dNil) (dCons (dCall oCell dNil) dNil)))))
  (dSeq (dFor (diRng1 (dCons (dOp oAdd (dC (.int 1)) (dCallN 2 m__law_draw (dCons (dVar 0) (dCons (dC (.int 2)) dNil)))) dNil)) (dgName 5)
  (dDrop (dMeth mAppend (dVar 9) (dCons (dCall oTup (dCons (dCallN 2 m__law_draw (dCons (dVar 0) (dCons (dVar 2) dNil))) (dCons (dCallN 2 m__law_spread (dCons (dVar 0) (dCons (dVar 4) dNil))) dNil))) dNil))))
  (dSeq (dFor (diRng1 (dCons (dOp oAdd (dC (.int 1)) (dCallN 2 m__law_draw (dCons (dVar 0) (dCons (dC (.int 3)) dNil)))) dNil)) (dgName 5)
  (dSeq (dAsg (dCallN 4 m__law_kept (dCons (dVar 0) (dCons (dVar 4) (dCons (dVar 8) (dCons (dVar 1) dNil))))) (dgName 12))
  (dDrop (dMeth mAppend (dVar 10) (dCons (dCall oTup (dCons (dCallN 2 m__law_draw (dCons (dVar 0) (dCons (dVar 2) dNil))) (dCons (dVar 12) (dCons (dCallN 2 m__law_draw (dCons (dVar 0) (dCons (dVar 2) dNil))) dNil)))) dNil)))))
  (dSeq (dFor (diRng1 (dCons (dVar 2) dNil)) (dgName 5)
  (dSeq (dAsg (dCall oCell dNil) (dgName 13))
  (dSeq (dFor (diRng1 (dCons (dOp oAdd (dC (.int 1)) (dCallN 2 m__law_draw (dCons (dVar 0) (dCons (dC (.int 3)) dNil)))) dNil)) (dgName 14)
  (dSeq (dAsg (dCallN 2 m__law_row (dCons (dVar 0) (dCons (dVar 4) dNil))) (dgName 15))
  (dSeq (dAsg (dCall (o1 bSum) (dCons (dLc (diSeq (dVar 15)) (dgName 21) dYes (dOp oAdd (dOp oDiv (dOp oMul (dCall (o1 bAbs) (dCons (dOp oIx (dVar 21) (dC (.int 0))) dNil)) (dC (.int 12))) (dOp oIx (dVar 21) (dC (.int 1)))) (dC (.int 1))) [21]) dNil)) (dgName 16))
  (dDrop (dMeth mAppend (dVar 13) (dCons (dCall oTup (dCons (dVar 15) (dCons (dCall oTup (dCons (dOp oAdd (dOp oDiv (dOp oMul (dVar 16) (dVar 3)) (dC (.int 12))) (dCallN 2 m__law_draw (dCons (dVar 0) (dCons (dC (.int 3)) dNil)))) (dCons (dC (.int 1)) dNil))) dNil))) dNil))))))
  (dDrop (dMeth mAppend (dVar 11) (dCons (dCall oTup (dCons (dVar 4) (dCons (dCall (o1 bTuple) (dCons (dVar 13) dNil)) dNil))) dNil))))))
  (dSeq (dAsg (dCall (o1 bTuple) (dCons (dLc (diSeq (dVar 9)) (dgTup 2 (dgCons (dgName 17) (dgCons (dgName 18) dgNil))) dYes (dCall oTup (dCons (dVar 17) (dCons (dCallN 1 m__law_box (dCons (dVar 18) dNil)) dNil))) [17, 18]) dNil)) (dgName 6))
  (dSeq (dAsg (dCall (o1 bTuple) (dCons (dLc (diSeq (dVar 10)) (dgTup 3 (dgCons (dgName 19) (dgCons (dgName 12) (dgCons (dgName 20) dgNil)))) dYes (dCallN 5 m__law_case (dCons (dVar 12) (dCons (dVar 4) (dCons (dVar 8) (dCons (dVar 19) (dCons (dVar 20) dNil)))))) [19, 12, 20]) dNil)) (dgName 7))
  (dRet (dCall oTup (dCons (dCall oTup (dCons (dVar 4) (dCons (dVar 8) (dCons (dVar 6) (dCons (dVar 7) (dCons (dCall (o1 bTuple) (dCons (dVar 11) dNil)) dNil)))))) (dCons (dUn oFrz (dVar 9)) (dCons (dUn oFrz (dVar 10)) dNil))))))))))))
noncomputable def m__law_planned : Opn := dFn 22 b__law_planned
noncomputable def b__law_odd : DSf := (dSeq (dAsg (dCall oTup (dCons (dC .non) (dCons (dC (.bl true)) (dCons (dC (.bl false)) (dCons (dC (.int 0)) (dCons (dC (.int 1)) (dCons (dUn oNeg (dC (.int 1))) (dCons (dC (.int 13)) (dCons (dOp oPow (dC (.int 10)) (dC (.int 25))) (dCons (dC (.str "")) (dCons (dC (.str "1")) (dCons (dCall oTup dNil) (dCons (dCall oTup (dCons (dC (.int 1)) dNil)) (dCons (dCall oTup (dCons (dC (.int 0)) (dCons (dC (.int 1)) dNil))) (dCons (dCall oTup (dCons (dC (.int 1)) (dCons (dC (.int 1)) dNil))) (dCons (dCall oTup (dCons (dC (.int 2)) (dCons (dC (.int 2)) dNil))) (dCons (dCall oTup (dCons (dC (.int 0)) (dCons (dC (.int 2)) dNil))) (dCons (dCall oTup (dCons (dC (.int 1)) (dCons (dC (.int 0)) dNil))) dNil)))))))))))))))))) (dgName 1))
  (dSeq (dAsg (dOp oAdd (dVar 1) (dCall oTup (dCons (dCall oTup (dCons (dC (.int 1)) (dCons (dUn oNeg (dC (.int 1))) dNil))) (dCons (dCall oTup (dCons (dC (.bl true)) (dCons (dC (.int 1)) dNil))) (dCons (dCall oTup (dCons (dC (.int 1)) (dCons (dC (.bl true)) dNil))) (dCons (dCall oTup (dCons (dC (.int 1)) (dCons (dC (.int 1)) (dCons (dC (.int 1)) dNil)))) (dCons (dCall oTup (dCons (dCall oTup (dCons (dC (.int 1)) (dCons (dC (.int 1)) dNil))) dNil)) (dCons (dCall oLst dNil) (dCons (dCall oLst (dCons (dC (.int 1)) (dCons (dC (.int 1)) dNil))) (dCons (dC .dic) (dCons (dCall oTup (dCons (dC .non) (dCons (dC (.int 1)) dNil))) (dCons (dCall oTup (dCons (dC (.str "1")) (dCons (dC (.int 1)) dNil))) (dCons (dCall oTup (dCons (dC (.int 1)) (dCons (dCall oTup dNil) dNil))) dNil))))))))))))) (dgName 1))
  (dRet (dCallN 2 m__law_of (dCons (dVar 0) (dCons (dVar 1) dNil))))))
noncomputable def m__law_odd : Opn := dFn 2 b__law_odd
noncomputable def b__law_bent (m__law_bent : Nat → Opn) (n : Nat) : DSf := (dSeq (dIfS (dtAnd (dB (dUn (oIsi .tup) (dVar 1))) (dtAnd (dB (dOp oNe (dVar 1) (dCall oTup dNil))) (dB (dOp oGt (dCallN 2 m__law_draw (dCons (dVar 0) (dCons (dC (.int 4)) dNil))) (dC (.int 0))))))
  (dSeq (dAsg (dCallN 2 m__law_draw (dCons (dVar 0) (dCons (dCall (o1 bLen) (dCons (dVar 1) dNil)) dNil))) (dgName 3))
  (dRet (dOp oAdd (dOp oAdd (dSl (dVar 1) dO0 (dO1 (dVar 3))) (dCall oTup (dCons (dCallN 2 (m__law_bent n) (dCons (dVar 0) (dCons (dOp oIx (dVar 1) (dVar 3)) dNil))) dNil))) (dSl (dVar 1) (dO1 (dOp oAdd (dVar 3) (dC (.int 1)))) dO0)))) dNext)
  (dSeq (dAsg (dCallN 2 m__law_draw (dCons (dVar 0) (dCons (dC (.int 8)) dNil))) (dgName 2))
  (dSeq (dIfS (dtAnd (dB (dUn (oIsi .tup) (dVar 1))) (dB (dOp oLt (dVar 2) (dC (.int 5)))))
  (dRet (dOp oIx (dCall oTup (dCons (dCall (o1 bList) (dCons (dVar 1) dNil)) (dCons (dSl (dVar 1) dO0 (dO1 (dUn oNeg (dC (.int 1))))) (dCons (dOp oAdd (dVar 1) (dSl (dVar 1) dO0 (dO1 (dC (.int 1))))) (dCons (dUn oBack (dVar 1)) (dCons (dSl (dVar 1) (dO1 (dC (.int 1))) dO0) dNil)))))) (dVar 2))) dNext)
  (dSeq (dIfS (dtAnd (dB (dUn (oIsi .int) (dVar 1))) (dB (dOp oLt (dVar 2) (dC (.int 4)))))
  (dRet (dOp oIx (dCall oTup (dCons (dOp oAdd (dVar 1) (dC (.int 1))) (dCons (dOp oSub (dC (.int 0)) (dVar 1)) (dCons (dOp oMul (dC (.int 2)) (dVar 1)) (dCons (dOp oEq (dVar 1) (dC (.int 1))) dNil))))) (dVar 2))) dNext)
  (dRet (dCallN 1 m__law_odd (dCons (dVar 0) dNil)))))))
noncomputable def m__law_bent : Nat → Opn
  | 0 => fun _ _ => .bad
  | n + 1 => dFn 4 (b__law_bent (fun _ => m__law_bent n) n)
noncomputable def b__law_wishes : DSf := (dSeq (dAsg (dVar 0) (dgTup 5 (dgCons (dgName 4) (dgCons (dgName 5) (dgCons (dgName 6) (dgCons (dgName 7) (dgCons (dgName 8) dgNil)))))))
  (dSeq (dAsg (dCall oCell dNil) (dgName 2))
  (dSeq (dFor (diSeq (dVar 6)) (dgTup 2 (dgCons (dgName 3) (dgCons (dgName 9) dgNil)))
  (dAsg (dOp oAddC (dVar 2) (dLc (diSeq (dOp oIx (dOp oIx (dVar 1) (dVar 3)) (dC (.int 1)))) (dgTup 2 (dgCons (dgName 16) (dgCons (dgName 17) dgNil))) dYes (dCall oTup (dCons (dVar 9) (dCons (dVar 16) (dCons (dVar 17) dNil)))) [16, 17])) (dgName 2)))
  (dSeq (dFor (diSeq (dVar 7)) (dgTup 4 (dgCons (dgName 10) (dgCons (dgName 11) (dgCons (dgName 12) (dgCons (dgName 13) dgNil)))))
  (dSeq (dAsg (dCall (o1 bTuple) (dCons (dLc (diSeq (dOp oIx (dOp oIx (dVar 1) (dVar 10)) (dC (.int 1)))) (dgTup 2 (dgCons (dgName 16) (dgCons (dgName 17) dgNil))) dYes (dCall oTup (dCons (dOp oAdd (dVar 16) (dOp oMul (dCall oTup (dCons (dCall oTup (dCons (dC (.int 0)) (dCons (dC (.int 1)) dNil))) dNil)) (dVar 5))) (dCons (dVar 17) dNil))) [16, 17]) dNil)) (dgName 14))
  (dSeq (dAsg (dCall oTup (dCons (dCall oTup (dCons (dOp oAdd (dVar 4) (dVar 5)) (dCons (dOp oAdd (dVar 14) (dOp oIx (dVar 11) (dC (.int 1)))) dNil))) (dCons (dLc (diSeq (dVar 12)) (dgTup 2 (dgCons (dgName 16) (dgCons (dgName 20) dgNil))) dYes (dVar 20) [16, 20]) dNil))) (dgTup 2 (dgCons (dgName 9) (dgCons (dgName 15) dgNil))))
  (dFor (diSeq (dOp oIx (dOp oIx (dVar 1) (dVar 13)) (dC (.int 1)))) (dgTup 2 (dgCons (dgName 16) (dgCons (dgName 17) dgNil)))
  (dSeq (dAsg (dCall (o1 bTuple) (dCons (dLc (diRng1 (dCons (dOp oAdd (dVar 4) (dVar 5)) dNil)) (dgName 21) dYes (dCallN 2 m__law_dot (dCons (dVar 16) (dCons (dLc (diSeq (dVar 12)) (dgName 22) dYes (dOp oIx (dOp oIx (dVar 22) (dC (.int 0))) (dVar 21)) [22]) dNil))) [21]) dNil)) (dgName 18))
  (dSeq (dAsg (dCallN 2 m__law_dot (dCons (dVar 16) (dCons (dVar 15) dNil))) (dgName 19))
  (dDrop (dMeth mAppend (dVar 2) (dCons (dCall oTup (dCons (dVar 9) (dCons (dVar 18) (dCons (dCallN 2 m__law_plus (dCons (dVar 17) (dCons (dCall oTup (dCons (dOp oSub (dC (.int 0)) (dOp oIx (dVar 19) (dC (.int 0)))) (dCons (dOp oIx (dVar 19) (dC (.int 1))) dNil))) dNil))) dNil)))) dNil)))))))))
  (dSeq (dFor (diRng1 (dCons (dCall (o1 bLen) (dCons (dVar 8) dNil)) dNil)) (dgName 3)
  (dAsg (dOp oAddC (dVar 2) (dLc (diSeq (dOp oIx (dOp oIx (dVar 8) (dVar 3)) (dC (.int 1)))) (dgTup 2 (dgCons (dgName 16) (dgCons (dgName 17) dgNil))) dYes (dCall oTup (dCons (dOp oIx (dVar 1) (dVar 3)) (dCons (dVar 16) (dCons (dVar 17) dNil)))) [16, 17])) (dgName 2)))
  (dRet (dCall (o1 bTuple) (dCons (dVar 2) dNil))))))))
noncomputable def m__law_wishes : Opn := dFn 23 b__law_wishes
noncomputable def b__law_is_whole : DSf := (dRet (dAnd (dUn (oIsi .int) (dVar 0)) (dNot (dUn (oIsi .bool) (dVar 0)))))
noncomputable def m__law_is_whole : Opn := dFn 1 b__law_is_whole
noncomputable def b__law_is_frac : DSf := (dSeq (dIfS (dtOr (dtNot (dB (dUn (oIsi .tup) (dVar 0)))) (dtOr (dB (dOp oNe (dCall (o1 bLen) (dCons (dVar 0) dNil)) (dC (.int 2)))) (dtOr (dtNot (dB (dCallN 1 m__law_is_whole (dCons (dOp oIx (dVar 0) (dC (.int 0))) dNil)))) (dtNot (dB (dCallN 1 m__law_is_whole (dCons (dOp oIx (dVar 0) (dC (.int 1))) dNil)))))))
  (dRet (dC (.bl false))) dNext)
  (dRet (dAnd (dOp oGt (dOp oIx (dVar 0) (dC (.int 1))) (dC (.int 0))) (dOp oEq (dCallN 2 m__law_frac (dCons (dOp oIx (dVar 0) (dC (.int 0))) (dCons (dOp oIx (dVar 0) (dC (.int 1))) dNil))) (dVar 0)))))
noncomputable def m__law_is_frac : Opn := dFn 1 b__law_is_frac
noncomputable def b__law_is_row : DSf := (dRet (dAnd (dUn (oIsi .tup) (dVar 0)) (dAnd (dOp oEq (dCall (o1 bLen) (dCons (dVar 0) dNil)) (dVar 1)) (dCall (o1 bAll) (dCons (dLc (diSeq (dVar 0)) (dgName 2) dYes (dCallN 1 m__law_is_frac (dCons (dVar 2) dNil)) [2]) dNil)))))
noncomputable def m__law_is_row : Opn := dFn 3 b__law_is_row
noncomputable def b__law_is_lot : DSf := (dSeq (dIfS (dtOr (dtNot (dB (dUn (oIsi .tup) (dVar 0)))) (dtOr (dB (dOp oNe (dCall (o1 bLen) (dCons (dVar 0) dNil)) (dC (.int 2)))) (dtOr (dtNot (dB (dCallN 1 m__law_is_whole (dCons (dOp oIx (dVar 0) (dC (.int 0))) dNil)))) (dtNot (dB (dChain oLt oLt (dC (.int 0)) (dOp oIx (dVar 0) (dC (.int 0))) (dC (.int 13))))))))
  (dRet (dC (.bl false))) dNext)
  (dSeq (dIfS (dtOr (dtAnd (dB (dOp oIsNot (dVar 1) (dC .non))) (dB (dOp oNe (dOp oIx (dVar 0) (dC (.int 0))) (dVar 1)))) (dtOr (dtNot (dB (dUn (oIsi .tup) (dOp oIx (dVar 0) (dC (.int 1)))))) (dB (dOp oGt (dCall (o1 bLen) (dCons (dOp oIx (dVar 0) (dC (.int 1))) dNil)) (dVar 2)))))
  (dRet (dC (.bl false))) dNext)
  (dSeq (dFor (diSeq (dOp oIx (dVar 0) (dC (.int 1)))) (dgName 3)
  (dSeq (dIfS (dtOr (dtNot (dB (dUn (oIsi .tup) (dVar 3)))) (dB (dOp oNe (dCall (o1 bLen) (dCons (dVar 3) dNil)) (dC (.int 2)))))
  (dRet (dC (.bl false))) dNext)
  (dIfS (dtOr (dtNot (dB (dCallN 2 m__law_is_row (dCons (dOp oIx (dVar 3) (dC (.int 0))) (dCons (dOp oIx (dVar 0) (dC (.int 0))) dNil))))) (dtNot (dB (dCallN 1 m__law_is_frac (dCons (dOp oIx (dVar 3) (dC (.int 1))) dNil)))))
  (dRet (dC (.bl false))) dNext)))
  (dRet (dC (.bl true))))))
noncomputable def m__law_is_lot : Opn := dFn 4 b__law_is_lot
noncomputable def b__law_is_table : DSf := (dSeq (dIfS (dtOr (dtNot (dB (dUn (oIsi .tup) (dVar 1)))) (dB (dOp oNe (dCall (o1 bLen) (dCons (dVar 1) dNil)) (dCall (o1 bLen) (dCons (dOp oIx (dVar 0) (dC (.int 4))) dNil)))))
  (dRet (dC (.bl false))) dNext)
  (dRet (dCall (o1 bAll) (dCons (dLc (diSeq (dVar 1)) (dgName 2) dYes (dCallN 3 m__law_is_lot (dCons (dVar 2) (dCons (dOp oIx (dVar 0) (dC (.int 0))) (dCons (dC (.int 40)) dNil)))) [2]) dNil))))
noncomputable def m__law_is_table : Opn := dFn 3 b__law_is_table
noncomputable def b__law_mixed : DSf := (dSeq (dPar 2 3 (dCons (dOp oRepL (dCall oLst (dCons (dCall oTup (dCons (dC (.int 0)) (dCons (dC (.int 1)) dNil))) dNil)) (dOp oIx (dVar 0) (dC (.int 0)))) (dCons (dCall oTup (dCons (dC (.int 0)) (dCons (dC (.int 1)) dNil))) dNil)))
  (dSeq (dFor (diMx (dCons (dOp oIx (dVar 0) (dC (.int 1))) (dCons (dVar 1) dNil))) (dgTup 2 (dgCons (dgTup 2 (dgCons (dgName 5) (dgCons (dgName 6) dgNil))) (dgCons (dgName 4) dgNil)))
  (dSeq (dAsg (dLc (diMx (dCons (dVar 2) (dCons (dVar 5) dNil))) (dgTup 2 (dgCons (dgName 7) (dgCons (dgName 8) dgNil))) dYes (dCallN 2 m__law_plus (dCons (dVar 7) (dCons (dCallN 2 m__law_times (dCons (dVar 4) (dCons (dVar 8) dNil))) dNil))) [7, 8]) (dgName 2))
  (dAsg (dCallN 2 m__law_plus (dCons (dVar 3) (dCons (dCallN 2 m__law_times (dCons (dVar 4) (dCons (dVar 6) dNil))) dNil))) (dgName 3))))
  (dRet (dCall oTup (dCons (dCall (o1 bTuple) (dCons (dVar 2) dNil)) (dCons (dVar 3) dNil))))))
noncomputable def m__law_mixed : Opn := dFn 9 b__law_mixed
noncomputable def b__law_are_weights : DSf := (dRet (dAnd (dCallN 2 m__law_is_row (dCons (dVar 1) (dCons (dCall (o1 bLen) (dCons (dOp oIx (dVar 0) (dC (.int 1))) dNil)) dNil))) (dCall (o1 bAll) (dCons (dLc (diSeq (dVar 1)) (dgName 2) dYes (dOp oGe (dOp oIx (dVar 2) (dC (.int 0))) (dC (.int 0))) [2]) dNil))))
noncomputable def m__law_are_weights : Opn := dFn 3 b__law_are_weights
noncomputable def b__law_up_to : DSf := (dRet (dOp oLe (dOp oMul (dOp oIx (dVar 0) (dC (.int 0))) (dOp oIx (dVar 1) (dC (.int 1)))) (dOp oMul (dOp oIx (dVar 1) (dC (.int 0))) (dOp oIx (dVar 0) (dC (.int 1))))))
noncomputable def m__law_up_to : Opn := dFn 2 b__law_up_to
noncomputable def b__law_is_paper : DSf := (dSeq (dIfS (dtOr (dtNot (dB (dUn (oIsi .tup) (dVar 3)))) (dtOr (dB (dOp oNe (dCall (o1 bLen) (dCons (dVar 3) dNil)) (dC (.int 2)))) (dtNot (dB (dUn (oIsi .str) (dOp oIx (dVar 3) (dC (.int 0))))))))
  (dRet (dC (.bl false))) dNext)
  (dSeq (dIfS (dtOr (dB (dOp oNotIn (dOp oIx (dVar 3) (dC (.int 0))) (dCall oTup (dCons (dC (.str "bound")) (dCons (dC (.str "void")) dNil))))) (dtNot (dB (dCallN 2 m__law_are_weights (dCons (dVar 0) (dCons (dOp oIx (dVar 3) (dC (.int 1))) dNil))))))
  (dRet (dC (.bl false))) dNext)
  (dSeq (dAsg (dCallN 2 m__law_mixed (dCons (dVar 0) (dCons (dOp oIx (dVar 3) (dC (.int 1))) dNil))) (dgTup 2 (dgCons (dgName 4) (dgCons (dgName 5) dgNil))))
  (dSeq (dIfS (dB (dOp oEq (dOp oIx (dVar 3) (dC (.int 0))) (dC (.str "bound"))))
  (dRet (dAnd (dOp oEq (dVar 4) (dVar 1)) (dCallN 2 m__law_up_to (dCons (dVar 5) (dCons (dVar 2) dNil))))) dNext)
  (dRet (dAnd (dOp oEq (dVar 4) (dOp oMul (dCall oTup (dCons (dCall oTup (dCons (dC (.int 0)) (dCons (dC (.int 1)) dNil))) dNil)) (dOp oIx (dVar 0) (dC (.int 0))))) (dOp oLt (dOp oIx (dVar 5) (dC (.int 0))) (dC (.int 0)))))))))
noncomputable def m__law_is_paper : Opn := dFn 6 b__law_is_paper
noncomputable def b__law_takes : DSf := (dSeq (dIfS (dtOr (dtNot (dB (dUn (oIsi .tup) (dVar 1)))) (dtOr (dB (dOp oNe (dCall (o1 bLen) (dCons (dVar 1) dNil)) (dC (.int 2)))) (dtNot (dB (dCallN 2 m__law_is_table (dCons (dVar 0) (dCons (dOp oIx (dVar 1) (dC (.int 0))) dNil)))))))
  (dRet (dC (.bl false))) dNext)
  (dSeq (dAsg (dCallN 2 m__law_wishes (dCons (dVar 0) (dCons (dOp oIx (dVar 1) (dC (.int 0))) dNil))) (dgName 2))
  (dSeq (dIfS (dtOr (dtNot (dB (dUn (oIsi .tup) (dOp oIx (dVar 1) (dC (.int 1)))))) (dB (dOp oNe (dCall (o1 bLen) (dCons (dOp oIx (dVar 1) (dC (.int 1))) dNil)) (dCall (o1 bLen) (dCons (dVar 2) dNil)))))
  (dRet (dC (.bl false))) dNext)
  (dRet (dCall (o1 bAll) (dCons (dLc (diMx (dCons (dVar 2) (dCons (dOp oIx (dVar 1) (dC (.int 1))) dNil))) (dgTup 2 (dgCons (dgTup 3 (dgCons (dgName 4) (dgCons (dgName 5) (dgCons (dgName 6) dgNil)))) (dgCons (dgName 3) dgNil))) dYes (dCallN 4 m__law_is_paper (dCons (dVar 4) (dCons (dVar 5) (dCons (dVar 6) (dCons (dVar 3) dNil))))) [3, 4, 5, 6]) dNil))))))
noncomputable def m__law_takes : Opn := dFn 7 b__law_takes
noncomputable def b_is_tuple_of : DSf := (dRet (dAnd (dUn (oIsi .tup) (dVar 0)) (dChain oLe oLe (dVar 1) (dCall (o1 bLen) (dCons (dVar 0) dNil)) (dVar 2))))
noncomputable def m_is_tuple_of : Opn := dFn 3 b_is_tuple_of
noncomputable def b_is_whole : DSf := (dRet (dAnd (dUn (oIsi .int) (dVar 0)) (dNot (dUn (oIsi .bool) (dVar 0)))))
noncomputable def m_is_whole : Opn := dFn 1 b_is_whole
noncomputable def b_is_whole_from : DSf := (dRet (dAnd (dCallN 1 m_is_whole (dCons (dVar 0) dNil)) (dChain oLe oLe (dVar 1) (dVar 0) (dVar 2))))
noncomputable def m_is_whole_from : Opn := dFn 3 b_is_whole_from
noncomputable def b_is_index : DSf := (dRet (dAnd (dCallN 1 m_is_whole (dCons (dVar 0) dNil)) (dChain oLe oLt (dC (.int 0)) (dVar 0) (dVar 1))))
noncomputable def m_is_index : Opn := dFn 2 b_is_index
noncomputable def b_is_fraction : DSf := (dSeq (dIfS (dtOr (dtNot (dB (dCallN 3 m_is_tuple_of (dCons (dVar 0) (dCons (dC (.int 2)) (dCons (dC (.int 2)) dNil)))))) (dtOr (dtNot (dB (dCallN 1 m_is_whole (dCons (dOp oIx (dVar 0) (dC (.int 0))) dNil)))) (dtNot (dB (dCallN 1 m_is_whole (dCons (dOp oIx (dVar 0) (dC (.int 1))) dNil))))))
  (dRet (dC (.bl false))) dNext)
  (dRet (dAnd (dOp oGt (dOp oIx (dVar 0) (dC (.int 1))) (dC (.int 0))) (dOp oEq (dCall (o2 bGcd) (dCons (dOp oIx (dVar 0) (dC (.int 0))) (dCons (dOp oIx (dVar 0) (dC (.int 1))) dNil))) (dC (.int 1))))))
noncomputable def m_is_fraction : Opn := dFn 1 b_is_fraction
noncomputable def b_is_row_of : DSf := (dSeq (dIfS (dtOr (dtNot (dB (dUn (oIsi .tup) (dVar 1)))) (dB (dOp oNe (dCall (o1 bLen) (dCons (dVar 1) dNil)) (dVar 0))))
  (dRet (dC (.bl false))) dNext)
  (dRet (dAllG (diSeq (dVar 1)) (dgName 2) (dCallN 1 m_is_fraction (dCons (dVar 2) dNil)) [2])))
noncomputable def m_is_row_of : Opn := dFn 3 b_is_row_of
noncomputable def b_is_wish : DSf := (dRet (dAnd (dCallN 3 m_is_tuple_of (dCons (dVar 1) (dCons (dC (.int 2)) (dCons (dC (.int 2)) dNil)))) (dAnd (dCallN 2 m_is_row_of (dCons (dVar 0) (dCons (dOp oIx (dVar 1) (dC (.int 0))) dNil))) (dCallN 1 m_is_fraction (dCons (dOp oIx (dVar 1) (dC (.int 1))) dNil)))))
noncomputable def m_is_wish : Opn := dFn 2 b_is_wish
noncomputable def b_is_lot : DSf := (dSeq (dIfS (dtOr (dtNot (dB (dCallN 3 m_is_tuple_of (dCons (dVar 0) (dCons (dC (.int 2)) (dCons (dC (.int 2)) dNil)))))) (dtOr (dtNot (dB (dCallN 3 m_is_whole_from (dCons (dOp oIx (dVar 0) (dC (.int 0))) (dCons (dC (.int 1)) (dCons (dC (.int 12)) dNil)))))) (dtNot (dB (dCallN 3 m_is_tuple_of (dCons (dOp oIx (dVar 0) (dC (.int 1))) (dCons (dC (.int 0)) (dCons (dC (.int 100)) dNil))))))))
  (dRet (dC (.bl false))) dNext)
  (dRet (dAllG (diSeq (dOp oIx (dVar 0) (dC (.int 1)))) (dgName 1) (dCallN 2 m_is_wish (dCons (dOp oIx (dVar 0) (dC (.int 0))) (dCons (dVar 1) dNil))) [1])))
noncomputable def m_is_lot : Opn := dFn 2 b_is_lot
noncomputable def b_is_small_lot : DSf := (dRet (dAnd (dCallN 1 m_is_lot (dCons (dVar 1) dNil)) (dAnd (dOp oEq (dOp oIx (dVar 1) (dC (.int 0))) (dVar 0)) (dOp oLe (dCall (o1 bLen) (dCons (dOp oIx (dVar 1) (dC (.int 1))) dNil)) (dC (.int 40))))))
noncomputable def m_is_small_lot : Opn := dFn 2 b_is_small_lot
noncomputable def b_is_start : DSf := (dRet (dAnd (dCallN 3 m_is_tuple_of (dCons (dVar 2) (dCons (dC (.int 2)) (dCons (dC (.int 2)) dNil)))) (dAnd (dCallN 2 m_is_index (dCons (dOp oIx (dVar 2) (dC (.int 0))) (dCons (dVar 1) dNil))) (dCallN 2 m_is_small_lot (dCons (dVar 0) (dCons (dOp oIx (dVar 2) (dC (.int 1))) dNil))))))
noncomputable def m_is_start : Opn := dFn 3 b_is_start
noncomputable def b_is_move : DSf := (dRet (dAnd (dCallN 3 m_is_tuple_of (dCons (dVar 1) (dCons (dC (.int 2)) (dCons (dC (.int 2)) dNil)))) (dAnd (dCallN 2 m_is_row_of (dCons (dVar 0) (dCons (dOp oIx (dVar 1) (dC (.int 0))) dNil))) (dCallN 1 m_is_fraction (dCons (dOp oIx (dVar 1) (dC (.int 1))) dNil)))))
noncomputable def m_is_move : Opn := dFn 2 b_is_move
noncomputable def b_is_map : DSf := (dRet (dAnd (dCallN 3 m_is_tuple_of (dCons (dVar 2) (dCons (dVar 0) (dCons (dVar 0) dNil)))) (dAllG (diSeq (dVar 2)) (dgName 3) (dCallN 2 m_is_move (dCons (dOp oAdd (dVar 0) (dVar 1)) (dCons (dVar 3) dNil))) [3])))
noncomputable def m_is_map : Opn := dFn 4 b_is_map
noncomputable def b_is_case : DSf := (dSeq (dIfS (dtOr (dtNot (dB (dCallN 3 m_is_tuple_of (dCons (dVar 3) (dCons (dC (.int 4)) (dCons (dC (.int 4)) dNil)))))) (dtOr (dtNot (dB (dCallN 2 m_is_index (dCons (dOp oIx (dVar 3) (dC (.int 0))) (dCons (dVar 2) dNil))))) (dtNot (dB (dCallN 2 m_is_index (dCons (dOp oIx (dVar 3) (dC (.int 3))) (dCons (dVar 2) dNil)))))))
  (dRet (dC (.bl false))) dNext)
  (dRet (dAnd (dCallN 2 m_is_small_lot (dCons (dOp oAdd (dVar 0) (dVar 1)) (dCons (dOp oIx (dVar 3) (dC (.int 1))) dNil))) (dCallN 3 m_is_map (dCons (dVar 0) (dCons (dVar 1) (dCons (dOp oIx (dVar 3) (dC (.int 2))) dNil)))))))
noncomputable def m_is_case : Opn := dFn 4 b_is_case
noncomputable def b_is_chart : DSf := (dSeq (dIfS (dtNot (dB (dCallN 3 m_is_tuple_of (dCons (dVar 0) (dCons (dC (.int 5)) (dCons (dC (.int 5)) dNil))))))
  (dRet (dC (.bl false))) dNext)
  (dSeq (dAsg (dVar 0) (dgTup 5 (dgCons (dgName 2) (dgCons (dgName 3) (dgCons (dgName 4) (dgCons (dgName 5) (dgCons (dgName 6) dgNil)))))))
  (dSeq (dIfS (dtOr (dtNot (dB (dCallN 3 m_is_whole_from (dCons (dVar 2) (dCons (dC (.int 1)) (dCons (dC (.int 8)) dNil)))))) (dtOr (dtNot (dB (dCallN 3 m_is_whole_from (dCons (dVar 3) (dCons (dC (.int 0)) (dCons (dC (.int 6)) dNil)))))) (dB (dOp oGt (dOp oAdd (dVar 2) (dVar 3)) (dC (.int 12))))))
  (dRet (dC (.bl false))) dNext)
  (dSeq (dIfS (dtOr (dtNot (dB (dCallN 3 m_is_tuple_of (dCons (dVar 4) (dCons (dC (.int 1)) (dCons (dC (.int 12)) dNil)))))) (dtOr (dtNot (dB (dCallN 3 m_is_tuple_of (dCons (dVar 5) (dCons (dC (.int 0)) (dCons (dC (.int 120)) dNil)))))) (dtNot (dB (dCallN 3 m_is_tuple_of (dCons (dVar 6) (dCons (dC (.int 1)) (dCons (dC (.int 12)) dNil))))))))
  (dRet (dC (.bl false))) dNext)
  (dSeq (dAsg (dCall (o1 bLen) (dCons (dVar 6) dNil)) (dgName 1))
  (dRet (dAnd (dAllG (diSeq (dVar 4)) (dgName 7) (dCallN 3 m_is_start (dCons (dVar 2) (dCons (dVar 1) (dCons (dVar 7) dNil)))) [7]) (dAnd (dAllG (diSeq (dVar 5)) (dgName 8) (dCallN 4 m_is_case (dCons (dVar 2) (dCons (dVar 3) (dCons (dVar 1) (dCons (dVar 8) dNil))))) [8]) (dAllG (diSeq (dVar 6)) (dgName 9) (dCallN 2 m_is_small_lot (dCons (dVar 2) (dCons (dVar 9) dNil))) [9])))))))))
noncomputable def m_is_chart : Opn := dFn 10 b_is_chart
noncomputable def b_check_chart : DSf := (dIfS (dtNot (dB (dCallN 1 m_is_chart (dCons (dVar 0) dNil))))
  dBadS dNext)
noncomputable def m_check_chart : Opn := dFn 1 b_check_chart
noncomputable def b_fraction : DSf := (dSeq (dAsg (dCall (o2 bGcd) (dCons (dVar 0) (dCons (dVar 1) dNil))) (dgName 2))
  (dRet (dCall oTup (dCons (dOp oDiv (dVar 0) (dVar 2)) (dCons (dOp oDiv (dVar 1) (dVar 2)) dNil)))))
noncomputable def m_fraction : Opn := dFn 3 b_fraction
noncomputable def b_product_of : DSf := (dSeq (dAsg (dCall oTup (dCons (dC (.int 0)) (dCons (dC (.int 1)) dNil))) (dgTup 2 (dgCons (dgName 2) (dgCons (dgName 3) dgNil))))
  (dSeq (dFor (diMx (dCons (dVar 0) (dCons (dVar 1) dNil))) (dgTup 2 (dgCons (dgTup 2 (dgCons (dgName 4) (dgCons (dgName 5) dgNil))) (dgCons (dgTup 2 (dgCons (dgName 6) (dgCons (dgName 7) dgNil))) dgNil)))
  (dIfS (dtAnd (dB (dOp oNe (dVar 4) (dC (.int 0)))) (dB (dOp oNe (dVar 6) (dC (.int 0)))))
  (dSeq (dAsg (dOp oMul (dVar 5) (dVar 7)) (dgName 8))
  (dPar 2 3 (dCons (dOp oAdd (dOp oMul (dVar 2) (dVar 8)) (dOp oMul (dOp oMul (dVar 4) (dVar 6)) (dVar 3))) (dCons (dOp oMul (dVar 3) (dVar 8)) dNil)))) dNext))
  (dRet (dCallN 2 m_fraction (dCons (dVar 2) (dCons (dVar 3) dNil))))))
noncomputable def m_product_of : Opn := dFn 9 b_product_of
noncomputable def b_led_back : DSf := (dRet (dCall (o1 bTuple) (dCons (dLc (diRng1 (dCons (dVar 2) dNil)) (dgName 3) dYes (dCallN 2 m_product_of (dCons (dVar 0) (dCons (dLc (diSeq (dVar 1)) (dgName 4) dYes (dOp oIx (dOp oIx (dVar 4) (dC (.int 0))) (dVar 3)) [4]) dNil))) [3]) dNil)))
noncomputable def m_led_back : Opn := dFn 5 b_led_back
noncomputable def b_total : DSf := (dRet (dCallN 2 m_fraction (dCons (dOp oAdd (dOp oMul (dOp oIx (dVar 0) (dC (.int 0))) (dOp oIx (dVar 1) (dC (.int 1)))) (dOp oMul (dOp oIx (dVar 1) (dC (.int 0))) (dOp oIx (dVar 0) (dC (.int 1))))) (dCons (dOp oMul (dOp oIx (dVar 0) (dC (.int 1))) (dOp oIx (dVar 1) (dC (.int 1)))) dNil))))
noncomputable def m_total : Opn := dFn 2 b_total
noncomputable def b_opposite : DSf := (dRet (dCall oTup (dCons (dUn oNeg (dOp oIx (dVar 0) (dC (.int 0)))) (dCons (dOp oIx (dVar 0) (dC (.int 1))) dNil))))
noncomputable def m_opposite : Opn := dFn 1 b_opposite
noncomputable def b_brought_by_moves : DSf := (dRet (dCallN 2 m_product_of (dCons (dVar 0) (dCons (dLc (diSeq (dVar 1)) (dgName 2) dYes (dOp oIx (dVar 2) (dC (.int 1))) [2]) dNil))))
noncomputable def m_brought_by_moves : Opn := dFn 3 b_brought_by_moves
noncomputable def b_bound_back : DSf := (dRet (dCallN 2 m_total (dCons (dVar 1) (dCons (dCallN 1 m_opposite (dCons (dCallN 2 m_brought_by_moves (dCons (dVar 0) (dCons (dVar 2) dNil))) dNil)) dNil))))
noncomputable def m_bound_back : Opn := dFn 3 b_bound_back
noncomputable def b_case_wishes : DSf := (dSeq (dAsg (dVar 2) (dgTup 4 (dgCons (dgName 6) (dgCons (dgName 7) (dgCons (dgName 8) (dgCons (dgName 9) dgNil))))))
  (dSeq (dAsg (dOp oMul (dCall oTup (dCons (dCall oTup (dCons (dC (.int 0)) (dCons (dC (.int 1)) dNil))) dNil)) (dOp oIx (dVar 0) (dC (.int 1)))) (dgName 3))
  (dSeq (dAsg (dCall (o1 bTuple) (dCons (dLc (diSeq (dOp oIx (dOp oIx (dVar 1) (dVar 6)) (dC (.int 1)))) (dgTup 2 (dgCons (dgName 10) (dgCons (dgName 11) dgNil))) dYes (dCall oTup (dCons (dOp oAdd (dVar 10) (dVar 3)) (dCons (dVar 11) dNil))) [10, 11]) dNil)) (dgName 4))
  (dSeq (dAsg (dCall oTup (dCons (dOp oAdd (dOp oIx (dVar 0) (dC (.int 0))) (dOp oIx (dVar 0) (dC (.int 1)))) (dCons (dOp oAdd (dVar 4) (dOp oIx (dVar 7) (dC (.int 1)))) dNil))) (dgName 5))
  (dRet (dLc (diSeq (dOp oIx (dOp oIx (dVar 1) (dVar 9)) (dC (.int 1)))) (dgTup 2 (dgCons (dgName 10) (dgCons (dgName 11) dgNil))) dYes (dCall oTup (dCons (dVar 5) (dCons (dCallN 3 m_led_back (dCons (dVar 10) (dCons (dVar 8) (dCons (dOp oIx (dVar 5) (dC (.int 0))) dNil)))) (dCons (dCallN 3 m_bound_back (dCons (dVar 10) (dCons (dVar 11) (dCons (dVar 8) dNil)))) dNil)))) [10, 11]))))))
noncomputable def m_case_wishes : Opn := dFn 12 b_case_wishes
noncomputable def b_all_wishes : DSf := (dSeq (dAsg (dCall oCell dNil) (dgName 2))
  (dSeq (dFor (diSeq (dOp oIx (dVar 0) (dC (.int 2)))) (dgTup 2 (dgCons (dgName 4) (dgCons (dgName 5) dgNil)))
  (dDrop (dMeth mExtend (dVar 2) (dCons (dLc (diSeq (dOp oIx (dOp oIx (dVar 1) (dVar 4)) (dC (.int 1)))) (dgTup 2 (dgCons (dgName 7) (dgCons (dgName 8) dgNil))) dYes (dCall oTup (dCons (dVar 5) (dCons (dVar 7) (dCons (dVar 8) dNil)))) [7, 8]) dNil))))
  (dSeq (dFor (diSeq (dOp oIx (dVar 0) (dC (.int 3)))) (dgName 3)
  (dDrop (dMeth mExtend (dVar 2) (dCons (dCallN 3 m_case_wishes (dCons (dVar 0) (dCons (dVar 1) (dCons (dVar 3) dNil)))) dNil))))
  (dSeq (dFor (diMx (dCons (dVar 1) (dCons (dOp oIx (dVar 0) (dC (.int 4))) dNil))) (dgTup 2 (dgCons (dgName 5) (dgCons (dgName 6) dgNil)))
  (dDrop (dMeth mExtend (dVar 2) (dCons (dLc (diSeq (dOp oIx (dVar 6) (dC (.int 1)))) (dgTup 2 (dgCons (dgName 7) (dgCons (dgName 8) dgNil))) dYes (dCall oTup (dCons (dVar 5) (dCons (dVar 7) (dCons (dVar 8) dNil)))) [7, 8]) dNil))))
  (dRet (dCall (o1 bTuple) (dCons (dVar 2) dNil)))))))
noncomputable def m_all_wishes : Opn := dFn 9 b_all_wishes
noncomputable def b_has_lots : DSf := (dSeq (dAsg (dCall (o1 bLen) (dCons (dOp oIx (dVar 0) (dC (.int 4))) dNil)) (dgName 2))
  (dRet (dAnd (dCallN 3 m_is_tuple_of (dCons (dVar 1) (dCons (dVar 2) (dCons (dVar 2) dNil)))) (dAllG (diSeq (dVar 1)) (dgName 3) (dCallN 2 m_is_small_lot (dCons (dOp oIx (dVar 0) (dC (.int 0))) (dCons (dVar 3) dNil))) [3]))))
noncomputable def m_has_lots : Opn := dFn 4 b_has_lots
noncomputable def b_weighed : DSf := (dSeq (dAsg (dLc (diMx (dCons (dVar 2) (dCons (dVar 1) dNil))) (dgTup 2 (dgCons (dgName 8) (dgCons (dgName 9) dgNil))) (dB (dOp oNe (dOp oIx (dVar 8) (dC (.int 0))) (dC (.int 0)))) (dCall oTup (dCons (dVar 8) (dCons (dVar 9) dNil))) [8, 9]) (dgName 3))
  (dSeq (dAsg (dLc (diSeq (dVar 3)) (dgTup 2 (dgCons (dgName 8) (dgCons (dgName 10) dgNil))) dYes (dVar 8) [8, 10]) (dgName 4))
  (dSeq (dAsg (dLc (diRng1 (dCons (dVar 0) dNil)) (dgName 7) dYes (dLc (diSeq (dVar 3)) (dgTup 2 (dgCons (dgName 10) (dgCons (dgName 9) dgNil))) dYes (dOp oIx (dOp oIx (dVar 9) (dC (.int 0))) (dVar 7)) [10, 9]) [7]) (dgName 5))
  (dSeq (dAsg (dCall (o1 bTuple) (dCons (dLc (diSeq (dVar 5)) (dgName 11) dYes (dCallN 2 m_product_of (dCons (dVar 4) (dCons (dVar 11) dNil))) [11]) dNil)) (dgName 6))
  (dRet (dCall oTup (dCons (dVar 6) (dCons (dCallN 2 m_product_of (dCons (dVar 4) (dCons (dLc (diSeq (dVar 3)) (dgTup 2 (dgCons (dgName 10) (dgCons (dgName 9) dgNil))) dYes (dOp oIx (dVar 9) (dC (.int 1))) [10, 9]) dNil))) dNil))))))))
noncomputable def m_weighed : Opn := dFn 12 b_weighed
noncomputable def b_are_weights : DSf := (dSeq (dIfS (dtOr (dtNot (dB (dUn (oIsi .tup) (dVar 1)))) (dB (dOp oNe (dCall (o1 bLen) (dCons (dVar 1) dNil)) (dVar 0))))
  (dRet (dC (.bl false))) dNext)
  (dRet (dAllG (diSeq (dVar 1)) (dgName 2) (dAnd (dCallN 1 m_is_fraction (dCons (dVar 2) dNil)) (dOp oGe (dOp oIx (dVar 2) (dC (.int 0))) (dC (.int 0)))) [2])))
noncomputable def m_are_weights : Opn := dFn 3 b_are_weights
noncomputable def b_is_up_to : DSf := (dRet (dOp oLe (dOp oMul (dOp oIx (dVar 0) (dC (.int 0))) (dOp oIx (dVar 1) (dC (.int 1)))) (dOp oMul (dOp oIx (dVar 1) (dC (.int 0))) (dOp oIx (dVar 0) (dC (.int 1))))))
noncomputable def m_is_up_to : Opn := dFn 2 b_is_up_to
noncomputable def b_shows : DSf := (dSeq (dAsg (dVar 0) (dgTup 2 (dgCons (dgName 4) (dgCons (dgName 5) dgNil))))
  (dSeq (dIfS (dtOr (dtNot (dB (dUn (oIsi .tup) (dVar 3)))) (dtOr (dB (dOp oNe (dCall (o1 bLen) (dCons (dVar 3) dNil)) (dC (.int 2)))) (dtNot (dB (dCallN 2 m_are_weights (dCons (dCall (o1 bLen) (dCons (dVar 5) dNil)) (dCons (dOp oIx (dVar 3) (dC (.int 1))) dNil)))))))
  (dRet (dC (.bl false))) dNext)
  (dSeq (dAsg (dVar 3) (dgTup 2 (dgCons (dgName 6) (dgCons (dgName 7) dgNil))))
  (dSeq (dIfS (dtOr (dtNot (dB (dUn (oIsi .str) (dVar 6)))) (dB (dOp oNotIn (dVar 6) (dCall oTup (dCons (dC (.str "bound")) (dCons (dC (.str "void")) dNil))))))
  (dRet (dC (.bl false))) dNext)
  (dSeq (dAsg (dCallN 3 m_weighed (dCons (dVar 4) (dCons (dVar 5) (dCons (dVar 7) dNil)))) (dgTup 2 (dgCons (dgName 8) (dgCons (dgName 9) dgNil))))
  (dSeq (dIfS (dB (dOp oEq (dVar 6) (dC (.str "bound"))))
  (dRet (dAnd (dOp oEq (dVar 8) (dVar 1)) (dCallN 2 m_is_up_to (dCons (dVar 9) (dCons (dVar 2) dNil))))) dNext)
  (dRet (dAnd (dOp oEq (dVar 8) (dOp oMul (dCall oTup (dCons (dCall oTup (dCons (dC (.int 0)) (dCons (dC (.int 1)) dNil))) dNil)) (dVar 4))) (dOp oLt (dOp oIx (dVar 9) (dC (.int 0))) (dC (.int 0)))))))))))
noncomputable def m_shows : Opn := dFn 10 b_shows
noncomputable def b_takes : DSf := (dSeq (dDrop (dCallN 1 m_check_chart (dCons (dVar 0) dNil)))
  (dSeq (dIfS (dtOr (dtNot (dB (dCallN 3 m_is_tuple_of (dCons (dVar 1) (dCons (dC (.int 2)) (dCons (dC (.int 2)) dNil)))))) (dtNot (dB (dCallN 2 m_has_lots (dCons (dVar 0) (dCons (dOp oIx (dVar 1) (dC (.int 0))) dNil))))))
  (dRet (dC (.bl false))) dNext)
  (dSeq (dAsg (dCallN 2 m_all_wishes (dCons (dVar 0) (dCons (dOp oIx (dVar 1) (dC (.int 0))) dNil))) (dgName 2))
  (dSeq (dIfS (dtNot (dB (dCallN 3 m_is_tuple_of (dCons (dOp oIx (dVar 1) (dC (.int 1))) (dCons (dCall (o1 bLen) (dCons (dVar 2) dNil)) (dCons (dCall (o1 bLen) (dCons (dVar 2) dNil)) dNil))))))
  (dRet (dC (.bl false))) dNext)
  (dRet (dAllG (diMx (dCons (dVar 2) (dCons (dOp oIx (dVar 1) (dC (.int 1))) dNil))) (dgTup 2 (dgCons (dgTup 3 (dgCons (dgName 4) (dgCons (dgName 5) (dgCons (dgName 6) dgNil)))) (dgCons (dgName 3) dgNil))) (dCallN 4 m_shows (dCons (dVar 4) (dCons (dVar 5) (dCons (dVar 6) (dCons (dVar 3) dNil))))) [3, 4, 5, 6]))))))
noncomputable def m_takes : Opn := dFn 7 b_takes
noncomputable def b__law_moved_weight : DSf := (dSeq (dAsg (dCallN 2 m__law_draw (dCons (dVar 0) (dCons (dCall (o1 bLen) (dCons (dVar 1) dNil)) dNil))) (dgName 2))
  (dSeq (dAsg (dOp oIx (dVar 1) (dVar 2)) (dgTup 2 (dgCons (dgName 5) (dgCons (dgName 6) dgNil))))
  (dSeq (dIfS (dB (dOp oEq (dVar 6) (dCall oTup dNil)))
  (dRet (dVar 1)) dNext)
  (dSeq (dAsg (dCallN 2 m__law_draw (dCons (dVar 0) (dCons (dCall (o1 bLen) (dCons (dVar 6) dNil)) dNil))) (dgName 3))
  (dSeq (dAsg (dCallN 2 m__law_plus (dCons (dOp oIx (dVar 6) (dVar 3)) (dCons (dCallN 2 m__law_of (dCons (dVar 0) (dCons (dCall oTup (dCons (dCall oTup (dCons (dC (.int 1)) (dCons (dC (.int 1)) dNil))) (dCons (dCall oTup (dCons (dC (.int 1)) (dCons (dC (.int 3)) dNil))) (dCons (dCall oTup (dCons (dUn oNeg (dC (.int 1))) (dCons (dC (.int 2)) dNil))) (dCons (dCall oTup (dCons (dC (.int 0)) (dCons (dC (.int 1)) dNil))) dNil))))) dNil))) dNil))) (dgName 4))
  (dRet (dOp oAdd (dOp oAdd (dSl (dVar 1) dO0 (dO1 (dVar 2))) (dCall oTup (dCons (dCall oTup (dCons (dVar 5) (dCons (dOp oAdd (dOp oAdd (dSl (dVar 6) dO0 (dO1 (dVar 3))) (dCall oTup (dCons (dVar 4) dNil))) (dSl (dVar 6) (dO1 (dOp oAdd (dVar 3) (dC (.int 1)))) dO0)) dNil))) dNil))) (dSl (dVar 1) (dO1 (dOp oAdd (dVar 2) (dC (.int 1)))) dO0))))))))
noncomputable def m__law_moved_weight : Opn := dFn 7 b__law_moved_weight
noncomputable def b_is_table : DSf := (dSeq (dDrop (dCallN 1 m_check_chart (dCons (dVar 0) dNil)))
  (dRet (dCallN 2 m_has_lots (dCons (dVar 0) (dCons (dVar 1) dNil)))))
noncomputable def m_is_table : Opn := dFn 2 b_is_table
noncomputable def b__law_right : DSf := (dSeq (dAsg (dCall oTup (dCons (dCall oTup (dCons (dC (.int 1)) (dCons (dC (.int 2)) dNil))) (dCons (dCall oTup (dCons (dC (.int 0)) (dCons (dC (.int 1)) dNil))) (dCons (dCall oTup (dCons (dUn oNeg (dC (.int 1))) (dCons (dC (.int 2)) dNil))) (dCons (dCall oTup (dCons (dC (.int 1)) (dCons (dC (.int 4)) dNil))) (dCons (dCall oTup (dCons (dUn oNeg (dC (.int 1))) (dCons (dC (.int 3)) dNil))) dNil)))))) (dgName 1))
  (dSeq (dAsg (dOp oIx (dCallN 4 m__law_planned (dCons (dVar 0) (dCons (dVar 1) (dCons (dOp oAdd (dC (.int 1)) (dCallN 2 m__law_draw (dCons (dVar 0) (dCons (dC (.int 3)) dNil)))) (dCons (dC (.int 16)) dNil))))) (dC (.int 0))) (dgName 2))
  (dSeq (dAsg (dCallN 2 m__law_own_table (dCons (dVar 2) (dCons (dC (.int 16)) dNil))) (dgName 3))
  (dSeq (dAsg (dCallN 2 m__law_own_papers (dCons (dVar 2) (dCons (dVar 3) dNil))) (dgName 4))
  (dSeq (dAsg (dCall oTup (dCons (dVar 3) (dCons (dVar 4) dNil))) (dgName 5))
  (dSeq (dIfS (dtOr (dtNot (dB (dCallN 2 m__law_takes (dCons (dVar 2) (dCons (dVar 5) dNil))))) (dB (dOp oIsNot (dCallN 2 m_takes (dCons (dVar 2) (dCons (dVar 5) dNil))) (dC (.bl true)))))
  (dRet (dC (.bl false))) dNext)
  (dSeq (dAsg (dCallN 2 m__law_own_table (dCons (dVar 2) (dCons (dCallN 2 m__law_of (dCons (dVar 0) (dCons (dCall oTup (dCons (dC (.int 15)) (dCons (dC (.int 17)) (dCons (dC (.int 12)) dNil)))) dNil))) dNil))) (dgName 6))
  (dSeq (dAsg (dCall oCell (dCons (dCall oTup (dCons (dVar 3) (dCons (dCallN 2 m__law_moved_weight (dCons (dVar 0) (dCons (dVar 4) dNil))) dNil))) (dCons (dCall oTup (dCons (dVar 3) (dCons (dSl (dVar 4) dO0 (dO1 (dUn oNeg (dC (.int 1))))) dNil))) (dCons (dCall oTup (dCons (dVar 3) (dCons (dOp oAdd (dVar 4) (dSl (dVar 4) dO0 (dO1 (dC (.int 1))))) dNil))) dNil)))) (dgName 7))
  (dSeq (dDrop (dMeth mAppend (dVar 7) (dCons (dCall oTup (dCons (dVar 6) (dCons (dVar 4) dNil))) dNil)))
  (dSeq (dFor (diRng1 (dCons (dC (.int 5)) dNil)) (dgName 8)
  (dDrop (dMeth mAppend (dVar 7) (dCons (dCallN 2 (m__law_bent 16) (dCons (dVar 0) (dCons (dVar 5) dNil))) dNil))))
  (dSeq (dFor (diSeq (dOp oAdd (dVar 7) (dCall oLst (dCons (dCallN 1 m__law_odd (dCons (dVar 0) dNil)) (dCons (dCall oTup (dCons (dVar 6) (dCons (dCallN 2 m__law_own_papers (dCons (dVar 2) (dCons (dVar 6) dNil))) dNil))) dNil))))) (dgName 9)
  (dSeq (dAsg (dCall (o1 bRepr) (dCons (dCallN 2 m__law_takes (dCons (dVar 2) (dCons (dVar 9) dNil))) dNil)) (dgName 10))
  (dIfS (dtOr (dB (dOp oNe (dCall (o1 bRepr) (dCons (dCallN 2 m_takes (dCons (dVar 2) (dCons (dVar 9) dNil))) dNil)) (dVar 10))) (dB (dOp oNe (dCall (o1 bRepr) (dCons (dCallK 2 0 2 [1, 0] m_takes dNil (dCons (dVar 9) (dCons (dVar 2) dNil))) dNil)) (dVar 10))))
  (dRet (dC (.bl false))) dNext)))
  (dSeq (dFor (diSeq (dCall oTup (dCons (dVar 3) (dCons (dVar 6) (dCons (dCallN 2 (m__law_bent 16) (dCons (dVar 0) (dCons (dVar 3) dNil))) (dCons (dCallN 2 (m__law_bent 16) (dCons (dVar 0) (dCons (dVar 3) dNil))) (dCons (dCallN 1 m__law_odd (dCons (dVar 0) dNil)) (dCons (dVar 4) dNil)))))))) (dgName 9)
  (dSeq (dAsg (dCall (o1 bRepr) (dCons (dCallN 2 m__law_is_table (dCons (dVar 2) (dCons (dVar 9) dNil))) dNil)) (dgName 10))
  (dIfS (dtOr (dB (dOp oNe (dCall (o1 bRepr) (dCons (dCallN 2 m_is_table (dCons (dVar 2) (dCons (dVar 9) dNil))) dNil)) (dVar 10))) (dB (dOp oNe (dCall (o1 bRepr) (dCons (dCallK 2 0 2 [1, 0] m_is_table dNil (dCons (dVar 9) (dCons (dVar 2) dNil))) dNil)) (dVar 10))))
  (dRet (dC (.bl false))) dNext)))
  (dRet (dC (.bl true)))))))))))))))
noncomputable def m__law_right : Opn := dFn 11 b__law_right
noncomputable def b__law_well : DSf := (dSeq (dAsg (dIf (dB (dOp oLt (dVar 1) (dCall (o1 bLen) (dCons (dVar 0) dNil)))) (dCall (o1 bInt) (dCons (dOp oIx (dVar 0) (dVar 1)) dNil)) (dC (.int 0))) (dgName 2))
  (dSeq (dAsg (dOp oAdd (dC (.int 721029)) (dOp oMul (dC (.int 131)) (dVar 1))) (dgName 3))
  (dSeq (dFor (diSeq (dSl (dVar 0) dO0 (dO1 (dC (.int 10))))) (dgName 4)
  (dAsg (dOp oMod (dCall (o1 bInt) (dCons (dOp oAdd (dOp oAdd (dOp oMul (dVar 3) (dC (.int 57349))) (dOp oMod (dCall (o1 bInt) (dCons (dVar 4) dNil)) (dC (.int 2147483399)))) (dC (.int 19))) dNil)) (dC (.int 2147483587))) (dgName 3)))
  (dSeq (dAsg (dOp oMod (dCall (o1 bInt) (dCons (dOp oAdd (dOp oAdd (dOp oMul (dVar 3) (dC (.int 37))) (dOp oMul (dOp oMod (dCall (o1 bInt) (dCons (dVar 2) dNil)) (dC (.int 2147483399))) (dC (.int 20011)))) (dC (.int 11))) dNil)) (dC (.int 2147483587))) (dgName 3))
  (dRet (dCall oCell (dCons (dIf (dtOr (dB (dOp oLt (dVar 2) (dC (.int 0)))) (dB (dOp oGe (dVar 2) (dOp oPow (dC (.int 10)) (dC (.int 16)))))) (dCall (o1 bAbs) (dCons (dVar 2) dNil)) (dC (.int 0))) (dCons (dVar 3) (dCons (dC (.int 0)) dNil)))))))))
noncomputable def m__law_well : Opn := dFn 5 b__law_well
noncomputable def b_law : DSf := (dRet (dCall (o1 bAll) (dCons (dLc (diRng1 (dCons (dCall (o2 bMax2) (dCons (dC (.int 1)) (dCons (dCall (o2 bMin2) (dCons (dCall (o1 bLen) (dCons (dVar 0) dNil)) (dCons (dC (.int 2)) dNil))) dNil))) dNil)) (dgName 1) dYes (dCallN 1 m__law_right (dCons (dCallN 2 m__law_well (dCons (dVar 0) (dCons (dVar 1) dNil))) dNil)) [1]) dNil)))
noncomputable def m_law : Opn := dFn 2 b_law
section
variable {P : Program} {w : World} {K : PySem.W.Frag} {mg : Str → Option Value} {base : Heap}
theorem S__law_box : FnScope ["_law_spans", "_law_at", "_law_size", "_law_found", "_law_sign", "_law_bound", "_law_spot"] ["_law_spans"] (defScope s__law_box) := ⟨rfl, rfl, rfl, by decide +kernel, rfl, by decide +kernel, by decide +kernel⟩
theorem fn__law_box (G : Gf K mg base) : ∃ fd, FunD K "_law_box" "_law_box" (defArgs s__law_box) (defBody s__law_box) (defScope s__law_box) [] [] (He.fAd K ("_law_box", none)) fd ∧ FnG P w K mg base 1 (He.fAd K ("_law_box", none)) fd ["_law_spans"] (spD (WK K) 1 m__law_box) := by
  obtain ⟨fd, F⟩ := G.f__law_box
  have S := S__law_box
  have h := fn_D (P := P) (w := w) (mg := mg) (base := base) (W := WK K) (k := 0) (f := b__law_box) F S
  have h2 : FnG P w K mg base 1 (He.fAd K ("_law_box", none)) fd ["_law_spans"] (spD (WK K) 1 m__law_box) := by
    refine h ?_
    intro A outer s H E hr hG
    exact (dss_cons (ds_par (i := 2) (j := 3) rfl S.nd rfl rfl (by decide) rfl rfl (da_cons (de_callB call_len dc_len rfl G.b_len boot_len' (da_cons (dv 0) da_nil)) (da_cons (de_cell da_nil) da_nil)) rfl)
  (dss_cons (ds_for .never rfl (di_rng1 rfl G.b_range (da_cons (dv 2) da_nil)) (dgn 1 S.nd)
  (dss_one (ds_for .never rfl (di_seq rfl (de_tup (da_cons (de_tup (da_cons de_int (da_cons (de_ix rfl (de_ix rfl (dv 0) (dv 1) (fun _ _ => rfl)) de_int (fun _ _ => rfl)) da_nil))) (da_cons (de_tup (da_cons (de_neg de_int) (da_cons (de_tup (da_cons (de_sub de_int (de_ix rfl (de_ix rfl (de_ix rfl (dv 0) (dv 1) (fun _ _ => rfl)) de_int (fun _ _ => rfl)) de_int (fun _ _ => rfl))) (da_cons (de_ix rfl (de_ix rfl (de_ix rfl (dv 0) (dv 1) (fun _ _ => rfl)) de_int (fun _ _ => rfl)) de_int (fun _ _ => rfl)) da_nil))) da_nil))) da_nil)))) (dg_tup (n := 2) rfl rfl (dgs_cons (dgn 4 S.nd) (dgs_cons (dgn 5 S.nd) dgs_nil)))
  (dss_one (ds_expr (de_meth rfl PySem.F.slot_list_append PySem.F.type_list_append mt_append dm_append (dv 3) (da_cons (de_tup (da_cons (de_callTy call_tuple_of dc_tuple rfl G.b_tuple boot_tuple' (da_cons (de_lc rfl S.nd (own := [("_law_spot", 6)]) (di_rng1 rfl G.b_range (da_cons (dv 2) da_nil)) (blkOk_by (by kernel_rfl)) (fun s H C cl fp => (dgwn 6 S.nd)) (fun s H C cl fp => dts_nil) (fun s H C cl fp => (de_if (dt_cmp (op_eqA hr.units) dop_eq (dv 6) (dv 1) (nomark _)) (de_tup (da_cons (dv 4) (da_cons de_int da_nil))) (de_tup (da_cons de_int (da_cons de_int da_nil)))))) da_nil)) (da_cons (dv 5) da_nil))) da_nil)))))))
  (dss_one (ds_ret (de_tup (da_cons (dv 2) (da_cons (de_callTy call_tuple_of dc_tuple rfl G.b_tuple boot_tuple' (da_cons (dv 3) da_nil)) da_nil)))))))
  exact ⟨fd, F, h2⟩
theorem ok__law_box (G : Gf K mg base) : Callee P w K mg base (WK K) 1 "_law_box" 1 m__law_box := by
  obtain ⟨fd, F, h⟩ := fn__law_box (P := P) (w := w) G
  exact callee_of (ps := ["_law_spans"]) F h G.g__law_box fun _ _ _ _ _ _ us hl => match us, hl with | [_], _ => rfl
theorem S__law_own_table : FnScope ["_law_chart", "_law_most"] ["_law_chart", "_law_most"] (defScope s__law_own_table) := ⟨rfl, rfl, rfl, by decide +kernel, rfl, by decide +kernel, by decide +kernel⟩
theorem fn__law_own_table (G : Gf K mg base) : ∃ fd, FunD K "_law_own_table" "_law_own_table" (defArgs s__law_own_table) (defBody s__law_own_table) (defScope s__law_own_table) [] [] (He.fAd K ("_law_own_table", none)) fd ∧ FnG P w K mg base 2 (He.fAd K ("_law_own_table", none)) fd ["_law_chart", "_law_most"] (spD (WK K) 2 m__law_own_table) := by
  have C__law_box := ok__law_box (P := P) (w := w) G
  obtain ⟨fd, F⟩ := G.f__law_own_table
  have S := S__law_own_table
  have h := fn_D (P := P) (w := w) (mg := mg) (base := base) (W := WK K) (k := 1) (f := b__law_own_table) F S
  have h2 : FnG P w K mg base 2 (He.fAd K ("_law_own_table", none)) fd ["_law_chart", "_law_most"] (spD (WK K) 2 m__law_own_table) := by
    refine h ?_
    intro A outer s H E hr hG
    exact (dss_one (ds_ret (de_mul rfl (de_tup (da_cons (de_call (C__law_box.mono (by decide)) hr hG rfl (da_cons (de_mul rfl (de_tup (da_cons (de_tup (da_cons (de_tup (da_cons (de_sub de_int (dv 1)) (da_cons de_int da_nil))) (da_cons (de_tup (da_cons (dv 1) (da_cons de_int da_nil))) da_nil))) da_nil)) (de_ix rfl (dv 0) de_int (fun _ _ => rfl))) da_nil)) da_nil)) (de_callB call_len dc_len rfl G.b_len boot_len' (da_cons (de_ix rfl (dv 0) de_int (fun _ _ => rfl)) da_nil)))))
  exact ⟨fd, F, h2⟩
theorem ok__law_own_table (G : Gf K mg base) : Callee P w K mg base (WK K) 2 "_law_own_table" 2 m__law_own_table := by
  obtain ⟨fd, F, h⟩ := fn__law_own_table (P := P) (w := w) G
  exact callee_of (ps := ["_law_chart", "_law_most"]) F h G.g__law_own_table fun _ _ _ _ _ _ us hl => match us, hl with | [_, _], _ => rfl
theorem S__law_sign_weights : FnScope ["_law_row_here", "_law_found", "_law_each"] ["_law_row_here"] (defScope s__law_sign_weights) := ⟨rfl, rfl, rfl, by decide +kernel, rfl, by decide +kernel, by decide +kernel⟩
theorem fn__law_sign_weights (G : Gf K mg base) : ∃ fd, FunD K "_law_sign_weights" "_law_sign_weights" (defArgs s__law_sign_weights) (defBody s__law_sign_weights) (defScope s__law_sign_weights) [] [] (He.fAd K ("_law_sign_weights", none)) fd ∧ FnG P w K mg base 1 (He.fAd K ("_law_sign_weights", none)) fd ["_law_row_here"] (spD (WK K) 1 m__law_sign_weights) := by
  obtain ⟨fd, F⟩ := G.f__law_sign_weights
  have S := S__law_sign_weights
  have h := fn_D (P := P) (w := w) (mg := mg) (base := base) (W := WK K) (k := 0) (f := b__law_sign_weights) F S
  have h2 : FnG P w K mg base 1 (He.fAd K ("_law_sign_weights", none)) fd ["_law_row_here"] (spD (WK K) 1 m__law_sign_weights) := by
    refine h ?_
    intro A outer s H E hr hG
    exact (dss_cons (dset 1 S.nd (de_cell da_nil))
  (dss_cons (ds_for .never rfl (di_seq rfl (dv 0)) (dgn 2 S.nd)
  (dss_cons (ds_expr (de_meth rfl PySem.F.slot_list_append PySem.F.type_list_append mt_append dm_append (dv 1) (da_cons (de_if (dt_cmp op_gt dop_gt (de_ix rfl (dv 2) de_int (fun _ _ => rfl)) de_int (nomark _)) (dv 2) (de_tup (da_cons de_int (da_cons de_int da_nil)))) da_nil)))
  (dss_one (ds_expr (de_meth rfl PySem.F.slot_list_append PySem.F.type_list_append mt_append dm_append (dv 1) (da_cons (de_if (dt_cmp op_lt dop_lt (de_ix rfl (dv 2) de_int (fun _ _ => rfl)) de_int (nomark _)) (de_tup (da_cons (de_sub de_int (de_ix rfl (dv 2) de_int (fun _ _ => rfl))) (da_cons (de_ix rfl (dv 2) de_int (fun _ _ => rfl)) da_nil))) (de_tup (da_cons de_int (da_cons de_int da_nil)))) da_nil))))))
  (dss_one (ds_ret (de_callTy call_tuple_of dc_tuple rfl G.b_tuple boot_tuple' (da_cons (dv 1) da_nil))))))
  exact ⟨fd, F, h2⟩
theorem ok__law_sign_weights (G : Gf K mg base) : Callee P w K mg base (WK K) 1 "_law_sign_weights" 1 m__law_sign_weights := by
  obtain ⟨fd, F, h⟩ := fn__law_sign_weights (P := P) (w := w) G
  exact callee_of (ps := ["_law_row_here"]) F h G.g__law_sign_weights fun _ _ _ _ _ _ us hl => match us, hl with | [_], _ => rfl
theorem S__law_frac : FnScope ["_law_top", "_law_low", "_law_far", "_law_near"] ["_law_top", "_law_low"] (defScope s__law_frac) := ⟨rfl, rfl, rfl, by decide +kernel, rfl, by decide +kernel, by decide +kernel⟩
theorem fn__law_frac (G : Gf K mg base) : ∃ fd, FunD K "_law_frac" "_law_frac" (defArgs s__law_frac) (defBody s__law_frac) (defScope s__law_frac) [] [] (He.fAd K ("_law_frac", none)) fd ∧ FnG P w K mg base 1 (He.fAd K ("_law_frac", none)) fd ["_law_top", "_law_low"] (spD (WK K) 2 m__law_frac) := by
  obtain ⟨fd, F⟩ := G.f__law_frac
  have S := S__law_frac
  have h := fn_D (P := P) (w := w) (mg := mg) (base := base) (W := WK K) (k := 0) (f := b__law_frac) F S
  have h2 : FnG P w K mg base 1 (He.fAd K ("_law_frac", none)) fd ["_law_top", "_law_low"] (spD (WK K) 2 m__law_frac) := by
    refine h ?_
    intro A outer s H E hr hG
    exact (dss_cons (ds_par (i := 2) (j := 3) rfl S.nd rfl rfl (by decide) rfl rfl (da_cons (de_callB call_abs dc_abs rfl G.b_abs boot_abs' (da_cons (dv 0) da_nil)) (da_cons (de_callB call_abs dc_abs rfl G.b_abs boot_abs' (da_cons (dv 1) da_nil)) da_nil)) rfl)
  (dss_cons (ds_while .never (dt_cmp op_gt dop_gt (dv 3) de_int (nomark _))
  (dss_one (ds_par (i := 2) (j := 3) rfl S.nd rfl rfl (by decide) rfl rfl (da_cons (dv 3) (da_cons (de_mod (de_callTy call_int1 dc_int rfl G.b_int boot_int' (da_cons (dv 2) da_nil)) (dv 3)) da_nil)) rfl)))
  (dss_cons (dset 2 S.nd (de_if (dt_cmp op_gt dop_gt (dv 1) de_int (nomark _)) (dv 2) (de_sub de_int (dv 2))))
  (dss_one (ds_ret (de_tup (da_cons (de_div (dv 0) (dv 2)) (da_cons (de_div (dv 1) (dv 2)) da_nil))))))))
  exact ⟨fd, F, h2⟩
theorem ok__law_frac (G : Gf K mg base) : Callee P w K mg base (WK K) 1 "_law_frac" 2 m__law_frac := by
  obtain ⟨fd, F, h⟩ := fn__law_frac (P := P) (w := w) G
  exact callee_of (ps := ["_law_top", "_law_low"]) F h G.g__law_frac fun _ _ _ _ _ _ us hl => match us, hl with | [_, _], _ => rfl
theorem S__law_plus : FnScope ["_law_one", "_law_two"] ["_law_one", "_law_two"] (defScope s__law_plus) := ⟨rfl, rfl, rfl, by decide +kernel, rfl, by decide +kernel, by decide +kernel⟩
theorem fn__law_plus (G : Gf K mg base) : ∃ fd, FunD K "_law_plus" "_law_plus" (defArgs s__law_plus) (defBody s__law_plus) (defScope s__law_plus) [] [] (He.fAd K ("_law_plus", none)) fd ∧ FnG P w K mg base 2 (He.fAd K ("_law_plus", none)) fd ["_law_one", "_law_two"] (spD (WK K) 2 m__law_plus) := by
  have C__law_frac := ok__law_frac (P := P) (w := w) G
  obtain ⟨fd, F⟩ := G.f__law_plus
  have S := S__law_plus
  have h := fn_D (P := P) (w := w) (mg := mg) (base := base) (W := WK K) (k := 1) (f := b__law_plus) F S
  have h2 : FnG P w K mg base 2 (He.fAd K ("_law_plus", none)) fd ["_law_one", "_law_two"] (spD (WK K) 2 m__law_plus) := by
    refine h ?_
    intro A outer s H E hr hG
    exact (dss_one (ds_ret (de_call (C__law_frac.mono (by decide)) hr hG rfl (da_cons (de_add rfl (de_mul rfl (de_ix rfl (dv 0) de_int (fun _ _ => rfl)) (de_ix rfl (dv 1) de_int (fun _ _ => rfl))) (de_mul rfl (de_ix rfl (dv 1) de_int (fun _ _ => rfl)) (de_ix rfl (dv 0) de_int (fun _ _ => rfl)))) (da_cons (de_mul rfl (de_ix rfl (dv 0) de_int (fun _ _ => rfl)) (de_ix rfl (dv 1) de_int (fun _ _ => rfl))) da_nil)))))
  exact ⟨fd, F, h2⟩
theorem ok__law_plus (G : Gf K mg base) : Callee P w K mg base (WK K) 2 "_law_plus" 2 m__law_plus := by
  obtain ⟨fd, F, h⟩ := fn__law_plus (P := P) (w := w) G
  exact callee_of (ps := ["_law_one", "_law_two"]) F h G.g__law_plus fun _ _ _ _ _ _ us hl => match us, hl with | [_, _], _ => rfl
theorem S__law_times : FnScope ["_law_one", "_law_two"] ["_law_one", "_law_two"] (defScope s__law_times) := ⟨rfl, rfl, rfl, by decide +kernel, rfl, by decide +kernel, by decide +kernel⟩
theorem fn__law_times (G : Gf K mg base) : ∃ fd, FunD K "_law_times" "_law_times" (defArgs s__law_times) (defBody s__law_times) (defScope s__law_times) [] [] (He.fAd K ("_law_times", none)) fd ∧ FnG P w K mg base 2 (He.fAd K ("_law_times", none)) fd ["_law_one", "_law_two"] (spD (WK K) 2 m__law_times) := by
  have C__law_frac := ok__law_frac (P := P) (w := w) G
  obtain ⟨fd, F⟩ := G.f__law_times
  have S := S__law_times
  have h := fn_D (P := P) (w := w) (mg := mg) (base := base) (W := WK K) (k := 1) (f := b__law_times) F S
  have h2 : FnG P w K mg base 2 (He.fAd K ("_law_times", none)) fd ["_law_one", "_law_two"] (spD (WK K) 2 m__law_times) := by
    refine h ?_
    intro A outer s H E hr hG
    exact (dss_one (ds_ret (de_call (C__law_frac.mono (by decide)) hr hG rfl (da_cons (de_mul rfl (de_ix rfl (dv 0) de_int (fun _ _ => rfl)) (de_ix rfl (dv 1) de_int (fun _ _ => rfl))) (da_cons (de_mul rfl (de_ix rfl (dv 0) de_int (fun _ _ => rfl)) (de_ix rfl (dv 1) de_int (fun _ _ => rfl))) da_nil)))))
  exact ⟨fd, F, h2⟩
theorem ok__law_times (G : Gf K mg base) : Callee P w K mg base (WK K) 2 "_law_times" 2 m__law_times := by
  obtain ⟨fd, F, h⟩ := fn__law_times (P := P) (w := w) G
  exact callee_of (ps := ["_law_one", "_law_two"]) F h G.g__law_times fun _ _ _ _ _ _ us hl => match us, hl with | [_, _], _ => rfl
theorem S__law_dot : FnScope ["_law_one", "_law_two", "_law_found", "_law_here", "_law_there"] ["_law_one", "_law_two"] (defScope s__law_dot) := ⟨rfl, rfl, rfl, by decide +kernel, rfl, by decide +kernel, by decide +kernel⟩
theorem fn__law_dot (G : Gf K mg base) : ∃ fd, FunD K "_law_dot" "_law_dot" (defArgs s__law_dot) (defBody s__law_dot) (defScope s__law_dot) [] [] (He.fAd K ("_law_dot", none)) fd ∧ FnG P w K mg base 3 (He.fAd K ("_law_dot", none)) fd ["_law_one", "_law_two"] (spD (WK K) 2 m__law_dot) := by
  have C__law_plus := ok__law_plus (P := P) (w := w) G
  have C__law_times := ok__law_times (P := P) (w := w) G
  obtain ⟨fd, F⟩ := G.f__law_dot
  have S := S__law_dot
  have h := fn_D (P := P) (w := w) (mg := mg) (base := base) (W := WK K) (k := 2) (f := b__law_dot) F S
  have h2 : FnG P w K mg base 3 (He.fAd K ("_law_dot", none)) fd ["_law_one", "_law_two"] (spD (WK K) 2 m__law_dot) := by
    refine h ?_
    intro A outer s H E hr hG
    exact (dss_cons (dset 2 S.nd (de_tup (da_cons de_int (da_cons de_int da_nil))))
  (dss_cons (ds_for .never rfl (di_mx rfl rfl G.b_zip (da_cons (dv 0) (da_cons (dv 1) da_nil))) (dg_tup (n := 2) rfl rfl (dgs_cons (dgn 3 S.nd) (dgs_cons (dgn 4 S.nd) dgs_nil)))
  (dss_one (dset 2 S.nd (de_call (C__law_plus.mono (by decide)) hr hG rfl (da_cons (dv 2) (da_cons (de_call (C__law_times.mono (by decide)) hr hG rfl (da_cons (dv 3) (da_cons (dv 4) da_nil))) da_nil))))))
  (dss_one (ds_ret (dv 2)))))
  exact ⟨fd, F, h2⟩
theorem ok__law_dot (G : Gf K mg base) : Callee P w K mg base (WK K) 3 "_law_dot" 2 m__law_dot := by
  obtain ⟨fd, F, h⟩ := fn__law_dot (P := P) (w := w) G
  exact callee_of (ps := ["_law_one", "_law_two"]) F h G.g__law_dot fun _ _ _ _ _ _ us hl => match us, hl with | [_, _], _ => rfl
theorem S__law_own_papers : FnScope ["_law_chart", "_law_table", "_law_found", "_law_safe", "_law_size", "_law_more", "_law_starts", "_law_cases", "_law_safes", "_law_place", "_law_lot", "_law_start", "_law_guard", "_law_rule", "_law_to", "_law_rest", "_law_row_here", "_law_bound", "_law_led", "_law_spot", "_law_each"] ["_law_chart", "_law_table"] (defScope s__law_own_papers) := ⟨rfl, rfl, rfl, by decide +kernel, rfl, by decide +kernel, by decide +kernel⟩
theorem fn__law_own_papers (G : Gf K mg base) : ∃ fd, FunD K "_law_own_papers" "_law_own_papers" (defArgs s__law_own_papers) (defBody s__law_own_papers) (defScope s__law_own_papers) [] [] (He.fAd K ("_law_own_papers", none)) fd ∧ FnG P w K mg base 4 (He.fAd K ("_law_own_papers", none)) fd ["_law_chart", "_law_table"] (spD (WK K) 2 m__law_own_papers) := by
  have C__law_dot := ok__law_dot (P := P) (w := w) G
  have C__law_sign_weights := ok__law_sign_weights (P := P) (w := w) G
  obtain ⟨fd, F⟩ := G.f__law_own_papers
  have S := S__law_own_papers
  have h := fn_D (P := P) (w := w) (mg := mg) (base := base) (W := WK K) (k := 3) (f := b__law_own_papers) F S
  have h2 : FnG P w K mg base 4 (He.fAd K ("_law_own_papers", none)) fd ["_law_chart", "_law_table"] (spD (WK K) 2 m__law_own_papers) := by
    refine h ?_
    intro A outer s H E hr hG
    exact (dss_cons (ds_asg (dv 0) (dg_tup (n := 5) rfl rfl (dgs_cons (dgn 4 S.nd) (dgs_cons (dgn 5 S.nd) (dgs_cons (dgn 6 S.nd) (dgs_cons (dgn 7 S.nd) (dgs_cons (dgn 8 S.nd) dgs_nil)))))))
  (dss_cons (dset 2 S.nd (de_cell da_nil))
  (dss_cons (ds_for .never rfl (di_seq rfl (dv 6)) (dg_tup (n := 2) rfl rfl (dgs_cons (dgn 9 S.nd) (dgs_cons (dgn 10 S.nd) dgs_nil)))
  (dss_one (dset 2 S.nd (de_addC (dv 2) (de_lc rfl S.nd (own := [("_law_row_here", 16), ("_law_bound", 17)]) (di_seq rfl (de_ix rfl (de_ix rfl (dv 1) (dv 9) (fun _ _ => rfl)) de_int (fun _ _ => rfl))) (blkOk_by (by kernel_rfl)) (fun s H C cl fp => (dgw_tup (n := 2) rfl rfl (dgsw_cons (dgwn 16 S.nd) (dgsw_cons (dgwn 17 S.nd) dgsw_nil)))) (fun s H C cl fp => dts_nil) (fun s H C cl fp => (de_tup (da_cons de_str (da_cons (de_call (C__law_sign_weights.mono (by decide)) hr hG rfl (da_cons (dv 16) da_nil)) da_nil)))))))))
  (dss_cons (ds_for .never rfl (di_seq rfl (dv 7)) (dg_tup (n := 4) rfl rfl (dgs_cons (dgn 11 S.nd) (dgs_cons (dgn 12 S.nd) (dgs_cons (dgn 13 S.nd) (dgs_cons (dgn 14 S.nd) dgs_nil)))))
  (dss_cons (dset 15 S.nd (de_mul rfl (de_tup (da_cons (de_tup (da_cons de_int (da_cons de_int da_nil))) da_nil)) (de_sub (de_callB call_len dc_len rfl G.b_len boot_len' (da_cons (de_ix rfl (dv 12) de_int (fun _ _ => rfl)) da_nil)) (de_mul rfl de_int (dv 5)))))
  (dss_one (ds_for .never rfl (di_seq rfl (de_ix rfl (de_ix rfl (dv 1) (dv 14) (fun _ _ => rfl)) de_int (fun _ _ => rfl))) (dg_tup (n := 2) rfl rfl (dgs_cons (dgn 16 S.nd) (dgs_cons (dgn 17 S.nd) dgs_nil)))
  (dss_cons (dset 18 S.nd (de_callTy call_tuple_of dc_tuple rfl G.b_tuple boot_tuple' (da_cons (de_lc rfl S.nd (own := [("_law_spot", 19)]) (di_rng1 rfl G.b_range (da_cons (de_add rfl (dv 4) (dv 5)) da_nil)) (blkOk_by (by kernel_rfl)) (fun s H C cl fp => (dgwn 19 S.nd)) (fun s H C cl fp => dts_nil) (fun s H C cl fp => (de_call (C__law_dot.mono (by decide)) hr hG rfl (da_cons (dv 16) (da_cons (de_lc rfl S.nd (own := [("_law_each", 20)]) (di_seq rfl (dv 13)) (blkOk_by (by kernel_rfl)) (fun s H C cl fp => (dgwn 20 S.nd)) (fun s H C cl fp => dts_nil) (fun s H C cl fp => (de_ix rfl (de_ix rfl (dv 20) de_int (fun _ _ => rfl)) (dv 19) (fun _ _ => rfl)))) da_nil))))) da_nil)))
  (dss_one (ds_expr (de_meth rfl PySem.F.slot_list_append PySem.F.type_list_append mt_append dm_append (dv 2) (da_cons (de_tup (da_cons de_str (da_cons (de_add rfl (de_call (C__law_sign_weights.mono (by decide)) hr hG rfl (da_cons (dv 18) da_nil)) (dv 15)) da_nil))) da_nil)))))))))
  (dss_cons (ds_for .never rfl (di_seq rfl (dv 8)) (dgn 3 S.nd)
  (dss_one (dset 2 S.nd (de_addC (dv 2) (de_lc rfl S.nd (own := [("_law_row_here", 16), ("_law_bound", 17)]) (di_seq rfl (de_ix rfl (dv 3) de_int (fun _ _ => rfl))) (blkOk_by (by kernel_rfl)) (fun s H C cl fp => (dgw_tup (n := 2) rfl rfl (dgsw_cons (dgwn 16 S.nd) (dgsw_cons (dgwn 17 S.nd) dgsw_nil)))) (fun s H C cl fp => dts_nil) (fun s H C cl fp => (de_tup (da_cons de_str (da_cons (de_call (C__law_sign_weights.mono (by decide)) hr hG rfl (da_cons (dv 16) da_nil)) da_nil)))))))))
  (dss_one (ds_ret (de_callTy call_tuple_of dc_tuple rfl G.b_tuple boot_tuple' (da_cons (dv 2) da_nil)))))))))
  exact ⟨fd, F, h2⟩
theorem ok__law_own_papers (G : Gf K mg base) : Callee P w K mg base (WK K) 4 "_law_own_papers" 2 m__law_own_papers := by
  obtain ⟨fd, F, h⟩ := fn__law_own_papers (P := P) (w := w) G
  exact callee_of (ps := ["_law_chart", "_law_table"]) F h G.g__law_own_papers fun _ _ _ _ _ _ us hl => match us, hl with | [_, _], _ => rfl
theorem S__law_draw : FnScope ["_law_well_here", "_law_many", "_law_seed", "_law_digit"] ["_law_well_here", "_law_many"] (defScope s__law_draw) := ⟨rfl, rfl, rfl, by decide +kernel, rfl, by decide +kernel, by decide +kernel⟩
theorem fn__law_draw (G : Gf K mg base) : ∃ fd, FunD K "_law_draw" "_law_draw" (defArgs s__law_draw) (defBody s__law_draw) (defScope s__law_draw) [] [] (He.fAd K ("_law_draw", none)) fd ∧ FnG P w K mg base 1 (He.fAd K ("_law_draw", none)) fd ["_law_well_here", "_law_many"] (spD (WK K) 2 m__law_draw) := by
  obtain ⟨fd, F⟩ := G.f__law_draw
  have S := S__law_draw
  have h := fn_D (P := P) (w := w) (mg := mg) (base := base) (W := WK K) (k := 0) (f := b__law_draw) F S
  have h2 : FnG P w K mg base 1 (He.fAd K ("_law_draw", none)) fd ["_law_well_here", "_law_many"] (spD (WK K) 2 m__law_draw) := by
    refine h ?_
    intro A outer s H E hr hG
    exact (dss_cons (ds_if (dt_cmp op_gt dop_gt (de_ix rfl (dv 0) de_int (fun _ _ => rfl)) de_int (nomark _))
  (dss_cons (ds_asg (de_callB call_divmod dc_divmod rfl G.b_divmod boot_divmod' (da_cons (de_ix rfl (dv 0) de_int (fun _ _ => rfl)) (da_cons (dv 1) da_nil))) (dg_tup (n := 2) rfl rfl (dgs_cons (dg_sub (dv 0) de_int) (dgs_cons (dgn 3 S.nd) dgs_nil))))
  (dss_one (ds_ret (dv 3)))) dss_nil)
  (dss_cons (ds_asg (de_add rfl (de_ix rfl (dv 0) de_int (fun _ _ => rfl)) de_int) (dg_sub (dv 0) de_int))
  (dss_cons (dset 2 S.nd (de_mod (de_callTy call_int1 dc_int rfl G.b_int boot_int' (da_cons (de_add rfl (de_add rfl (de_mul rfl (de_ix rfl (dv 0) de_int (fun _ _ => rfl)) de_int) (de_mul rfl (de_ix rfl (dv 0) de_int (fun _ _ => rfl)) de_int)) de_int) da_nil)) de_int))
  (dss_cons (ds_asg (dv 2) (dg_sub (dv 0) de_int))
  (dss_one (ds_ret (de_mod (de_callTy call_int1 dc_int rfl G.b_int boot_int' (da_cons (de_div (de_mod (de_callTy call_int1 dc_int rfl G.b_int boot_int' (da_cons (de_mul rfl (dv 2) (de_add rfl (de_mod (de_callTy call_int1 dc_int rfl G.b_int boot_int' (da_cons (dv 2) da_nil)) de_int) de_int)) da_nil)) de_int) de_int) da_nil)) (dv 1))))))))
  exact ⟨fd, F, h2⟩
theorem ok__law_draw (G : Gf K mg base) : Callee P w K mg base (WK K) 1 "_law_draw" 2 m__law_draw := by
  obtain ⟨fd, F, h⟩ := fn__law_draw (P := P) (w := w) G
  exact callee_of (ps := ["_law_well_here", "_law_many"]) F h G.g__law_draw fun _ _ _ _ _ _ us hl => match us, hl with | [_, _], _ => rfl
theorem S__law_of : FnScope ["_law_well_here", "_law_some"] ["_law_well_here", "_law_some"] (defScope s__law_of) := ⟨rfl, rfl, rfl, by decide +kernel, rfl, by decide +kernel, by decide +kernel⟩
theorem fn__law_of (G : Gf K mg base) : ∃ fd, FunD K "_law_of" "_law_of" (defArgs s__law_of) (defBody s__law_of) (defScope s__law_of) [] [] (He.fAd K ("_law_of", none)) fd ∧ FnG P w K mg base 2 (He.fAd K ("_law_of", none)) fd ["_law_well_here", "_law_some"] (spD (WK K) 2 m__law_of) := by
  have C__law_draw := ok__law_draw (P := P) (w := w) G
  obtain ⟨fd, F⟩ := G.f__law_of
  have S := S__law_of
  have h := fn_D (P := P) (w := w) (mg := mg) (base := base) (W := WK K) (k := 1) (f := b__law_of) F S
  have h2 : FnG P w K mg base 2 (He.fAd K ("_law_of", none)) fd ["_law_well_here", "_law_some"] (spD (WK K) 2 m__law_of) := by
    refine h ?_
    intro A outer s H E hr hG
    exact (dss_one (ds_ret (de_ix rfl (dv 1) (de_call (C__law_draw.mono (by decide)) hr hG rfl (da_cons (dv 0) (da_cons (de_callB call_len dc_len rfl G.b_len boot_len' (da_cons (dv 1) da_nil)) da_nil))) (fun _ _ => rfl))))
  exact ⟨fd, F, h2⟩
theorem ok__law_of (G : Gf K mg base) : Callee P w K mg base (WK K) 2 "_law_of" 2 m__law_of := by
  obtain ⟨fd, F, h⟩ := fn__law_of (P := P) (w := w) G
  exact callee_of (ps := ["_law_well_here", "_law_some"]) F h G.g__law_of fun _ _ _ _ _ _ us hl => match us, hl with | [_, _], _ => rfl
theorem S__law_span : FnScope ["_law_well_here", "_law_low"] ["_law_well_here"] (defScope s__law_span) := ⟨rfl, rfl, rfl, by decide +kernel, rfl, by decide +kernel, by decide +kernel⟩
theorem fn__law_span (G : Gf K mg base) : ∃ fd, FunD K "_law_span" "_law_span" (defArgs s__law_span) (defBody s__law_span) (defScope s__law_span) [] [] (He.fAd K ("_law_span", none)) fd ∧ FnG P w K mg base 3 (He.fAd K ("_law_span", none)) fd ["_law_well_here"] (spD (WK K) 1 m__law_span) := by
  have C__law_of := ok__law_of (P := P) (w := w) G
  have C__law_plus := ok__law_plus (P := P) (w := w) G
  obtain ⟨fd, F⟩ := G.f__law_span
  have S := S__law_span
  have h := fn_D (P := P) (w := w) (mg := mg) (base := base) (W := WK K) (k := 2) (f := b__law_span) F S
  have h2 : FnG P w K mg base 3 (He.fAd K ("_law_span", none)) fd ["_law_well_here"] (spD (WK K) 1 m__law_span) := by
    refine h ?_
    intro A outer s H E hr hG
    exact (dss_cons (dset 1 S.nd (de_call (C__law_of.mono (by decide)) hr hG rfl (da_cons (dv 0) (da_cons (de_tup (da_cons (de_tup (da_cons de_int (da_cons de_int da_nil))) (da_cons (de_tup (da_cons (de_neg de_int) (da_cons de_int da_nil))) (da_cons (de_tup (da_cons de_int (da_cons de_int da_nil))) (da_cons (de_tup (da_cons (de_neg de_int) (da_cons de_int da_nil))) (da_cons (de_tup (da_cons de_int (da_cons de_int da_nil))) (da_cons (de_tup (da_cons (de_neg de_int) (da_cons de_int da_nil))) da_nil))))))) da_nil))))
  (dss_one (ds_ret (de_tup (da_cons (dv 1) (da_cons (de_call (C__law_plus.mono (by decide)) hr hG rfl (da_cons (dv 1) (da_cons (de_call (C__law_of.mono (by decide)) hr hG rfl (da_cons (dv 0) (da_cons (de_tup (da_cons (de_tup (da_cons de_int (da_cons de_int da_nil))) (da_cons (de_tup (da_cons de_int (da_cons de_int da_nil))) (da_cons (de_tup (da_cons de_int (da_cons de_int da_nil))) (da_cons (de_tup (da_cons de_int (da_cons de_int da_nil))) (da_cons (de_tup (da_cons de_int (da_cons de_int da_nil))) da_nil)))))) da_nil))) da_nil))) da_nil))))))
  exact ⟨fd, F, h2⟩
theorem ok__law_span (G : Gf K mg base) : Callee P w K mg base (WK K) 3 "_law_span" 1 m__law_span := by
  obtain ⟨fd, F, h⟩ := fn__law_span (P := P) (w := w) G
  exact callee_of (ps := ["_law_well_here"]) F h G.g__law_span fun _ _ _ _ _ _ us hl => match us, hl with | [_], _ => rfl
theorem S__law_spread : FnScope ["_law_well_here", "_law_many", "_law_found", "_law_turn"] ["_law_well_here", "_law_many"] (defScope s__law_spread) := ⟨rfl, rfl, rfl, by decide +kernel, rfl, by decide +kernel, by decide +kernel⟩
theorem fn__law_spread (G : Gf K mg base) : ∃ fd, FunD K "_law_spread" "_law_spread" (defArgs s__law_spread) (defBody s__law_spread) (defScope s__law_spread) [] [] (He.fAd K ("_law_spread", none)) fd ∧ FnG P w K mg base 4 (He.fAd K ("_law_spread", none)) fd ["_law_well_here", "_law_many"] (spD (WK K) 2 m__law_spread) := by
  have C__law_span := ok__law_span (P := P) (w := w) G
  obtain ⟨fd, F⟩ := G.f__law_spread
  have S := S__law_spread
  have h := fn_D (P := P) (w := w) (mg := mg) (base := base) (W := WK K) (k := 3) (f := b__law_spread) F S
  have h2 : FnG P w K mg base 4 (He.fAd K ("_law_spread", none)) fd ["_law_well_here", "_law_many"] (spD (WK K) 2 m__law_spread) := by
    refine h ?_
    intro A outer s H E hr hG
    exact (dss_cons (dset 2 S.nd (de_cell da_nil))
  (dss_cons (ds_for .never rfl (di_rng1 rfl G.b_range (da_cons (dv 1) da_nil)) (dgn 3 S.nd)
  (dss_one (ds_expr (de_meth rfl PySem.F.slot_list_append PySem.F.type_list_append mt_append dm_append (dv 2) (da_cons (de_call (C__law_span.mono (by decide)) hr hG rfl (da_cons (dv 0) da_nil)) da_nil)))))
  (dss_one (ds_ret (de_callTy call_tuple_of dc_tuple rfl G.b_tuple boot_tuple' (da_cons (dv 2) da_nil))))))
  exact ⟨fd, F, h2⟩
theorem ok__law_spread (G : Gf K mg base) : Callee P w K mg base (WK K) 4 "_law_spread" 2 m__law_spread := by
  obtain ⟨fd, F, h⟩ := fn__law_spread (P := P) (w := w) G
  exact callee_of (ps := ["_law_well_here", "_law_many"]) F h G.g__law_spread fun _ _ _ _ _ _ us hl => match us, hl with | [_, _], _ => rfl
theorem S__law_kept : FnScope ["_law_well_here", "_law_size", "_law_more", "_law_factors", "_law_parts", "_law_spot", "_law_held", "_law_own", "_law_second"] ["_law_well_here", "_law_size", "_law_more", "_law_factors"] (defScope s__law_kept) := ⟨rfl, rfl, rfl, by decide +kernel, rfl, by decide +kernel, by decide +kernel⟩
theorem fn__law_kept (G : Gf K mg base) : ∃ fd, FunD K "_law_kept" "_law_kept" (defArgs s__law_kept) (defBody s__law_kept) (defScope s__law_kept) [] [] (He.fAd K ("_law_kept", none)) fd ∧ FnG P w K mg base 5 (He.fAd K ("_law_kept", none)) fd ["_law_well_here", "_law_size", "_law_more", "_law_factors"] (spD (WK K) 4 m__law_kept) := by
  have C__law_draw := ok__law_draw (P := P) (w := w) G
  have C__law_of := ok__law_of (P := P) (w := w) G
  have C__law_span := ok__law_span (P := P) (w := w) G
  have C__law_spread := ok__law_spread (P := P) (w := w) G
  obtain ⟨fd, F⟩ := G.f__law_kept
  have S := S__law_kept
  have h := fn_D (P := P) (w := w) (mg := mg) (base := base) (W := WK K) (k := 4) (f := b__law_kept) F S
  have h2 : FnG P w K mg base 5 (He.fAd K ("_law_kept", none)) fd ["_law_well_here", "_law_size", "_law_more", "_law_factors"] (spD (WK K) 4 m__law_kept) := by
    refine h ?_
    intro A outer s H E hr hG
    exact (dss_cons (dset 4 S.nd (de_cell da_nil))
  (dss_cons (ds_for .never rfl (di_rng1 rfl G.b_range (da_cons (dv 1) da_nil)) (dgn 5 S.nd)
  (dss_cons (dset 7 S.nd (de_call (C__law_of.mono (by decide)) hr hG rfl (da_cons (dv 0) (da_cons (dv 3) da_nil))))
  (dss_cons (dset 8 S.nd (de_if (dt_cmp op_gt dop_gt (dv 2) de_int (nomark _)) (de_call (C__law_of.mono (by decide)) hr hG rfl (da_cons (dv 0) (da_cons (de_tup (da_cons (de_tup (da_cons de_int (da_cons de_int da_nil))) (da_cons (de_tup (da_cons de_int (da_cons de_int da_nil))) (da_cons (de_tup (da_cons (de_neg de_int) (da_cons de_int da_nil))) (da_cons (de_tup (da_cons de_int (da_cons de_int da_nil))) da_nil))))) da_nil))) (de_tup (da_cons de_int (da_cons de_int da_nil)))))
  (dss_one (ds_expr (de_meth rfl PySem.F.slot_list_append PySem.F.type_list_append mt_append dm_append (dv 4) (da_cons (de_tup (da_cons (dv 7) (da_cons (dv 8) (da_cons (de_call (C__law_of.mono (by decide)) hr hG rfl (da_cons (dv 0) (da_cons (de_tup (da_cons (de_tup (da_cons de_int (da_cons de_int da_nil))) (da_cons (de_tup (da_cons de_int (da_cons de_int da_nil))) (da_cons (de_tup (da_cons (de_neg de_int) (da_cons de_int da_nil))) (da_cons (de_tup (da_cons de_int (da_cons de_int da_nil))) (da_cons (de_tup (da_cons de_int (da_cons de_int da_nil))) (da_cons (de_tup (da_cons de_int (da_cons de_int da_nil))) da_nil))))))) da_nil))) da_nil)))) da_nil)))))))
  (dss_cons (dset 6 S.nd (de_cell da_nil))
  (dss_cons (ds_for .never rfl (di_rng1 rfl G.b_range (da_cons (dv 1) da_nil)) (dgn 5 S.nd)
  (dss_one (ds_expr (de_meth rfl PySem.F.slot_list_append PySem.F.type_list_append mt_append dm_append (dv 6) (da_cons (de_if (dt_cmp (op_eqA hr.units) dop_eq (de_call (C__law_draw.mono (by decide)) hr hG rfl (da_cons (dv 0) (da_cons de_int da_nil))) de_int (nomark _)) (de_call (C__law_span.mono (by decide)) hr hG rfl (da_cons (dv 0) da_nil)) de_non) da_nil)))))
  (dss_one (ds_ret (de_tup (da_cons (de_callTy call_tuple_of dc_tuple rfl G.b_tuple boot_tuple' (da_cons (dv 4) da_nil)) (da_cons (de_call (C__law_spread.mono (by decide)) hr hG rfl (da_cons (dv 0) (da_cons (dv 2) da_nil))) (da_cons (de_callTy call_tuple_of dc_tuple rfl G.b_tuple boot_tuple' (da_cons (dv 6) da_nil)) da_nil))))))))))
  exact ⟨fd, F, h2⟩
theorem ok__law_kept (G : Gf K mg base) : Callee P w K mg base (WK K) 5 "_law_kept" 4 m__law_kept := by
  obtain ⟨fd, F, h⟩ := fn__law_kept (P := P) (w := w) G
  exact callee_of (ps := ["_law_well_here", "_law_size", "_law_more", "_law_factors"]) F h G.g__law_kept fun _ _ _ _ _ _ us hl => match us, hl with | [_, _, _, _], _ => rfl
theorem S__law_number : FnScope ["_law_well_here"] ["_law_well_here"] (defScope s__law_number) := ⟨rfl, rfl, rfl, by decide +kernel, rfl, by decide +kernel, by decide +kernel⟩
theorem fn__law_number (G : Gf K mg base) : ∃ fd, FunD K "_law_number" "_law_number" (defArgs s__law_number) (defBody s__law_number) (defScope s__law_number) [] [] (He.fAd K ("_law_number", none)) fd ∧ FnG P w K mg base 2 (He.fAd K ("_law_number", none)) fd ["_law_well_here"] (spD (WK K) 1 m__law_number) := by
  have C__law_draw := ok__law_draw (P := P) (w := w) G
  have C__law_frac := ok__law_frac (P := P) (w := w) G
  obtain ⟨fd, F⟩ := G.f__law_number
  have S := S__law_number
  have h := fn_D (P := P) (w := w) (mg := mg) (base := base) (W := WK K) (k := 1) (f := b__law_number) F S
  have h2 : FnG P w K mg base 2 (He.fAd K ("_law_number", none)) fd ["_law_well_here"] (spD (WK K) 1 m__law_number) := by
    refine h ?_
    intro A outer s H E hr hG
    exact (dss_cons (ds_if (dt_cmp op_gt dop_gt (de_call (C__law_draw.mono (by decide)) hr hG rfl (da_cons (dv 0) (da_cons de_int da_nil))) de_int (nomark _))
  (dss_one (ds_ret (de_ix rfl (de_tup (da_cons (de_tup (da_cons de_int (da_cons de_int da_nil))) (da_cons (de_tup (da_cons de_int (da_cons de_int da_nil))) (da_cons (de_tup (da_cons (de_neg de_int) (da_cons de_int da_nil))) (da_cons (de_tup (da_cons de_int (da_cons de_int da_nil))) (da_cons (de_tup (da_cons de_int (da_cons de_int da_nil))) (da_cons (de_tup (da_cons (de_neg de_int) (da_cons de_int da_nil))) (da_cons (de_tup (da_cons de_int (da_cons de_int da_nil))) (da_cons (de_tup (da_cons de_int (da_cons de_int da_nil))) da_nil))))))))) (de_call (C__law_draw.mono (by decide)) hr hG rfl (da_cons (dv 0) (da_cons de_int da_nil))) (fun _ _ => rfl)))) dss_nil)
  (dss_one (ds_ret (de_call (C__law_frac.mono (by decide)) hr hG rfl (da_cons (de_sub (de_call (C__law_draw.mono (by decide)) hr hG rfl (da_cons (dv 0) (da_cons de_int da_nil))) de_int) (da_cons (de_add rfl de_int (de_call (C__law_draw.mono (by decide)) hr hG rfl (da_cons (dv 0) (da_cons de_int da_nil)))) da_nil))))))
  exact ⟨fd, F, h2⟩
theorem ok__law_number (G : Gf K mg base) : Callee P w K mg base (WK K) 2 "_law_number" 1 m__law_number := by
  obtain ⟨fd, F, h⟩ := fn__law_number (P := P) (w := w) G
  exact callee_of (ps := ["_law_well_here"]) F h G.g__law_number fun _ _ _ _ _ _ us hl => match us, hl with | [_], _ => rfl
theorem S__law_row : FnScope ["_law_well_here", "_law_size", "_law_found", "_law_turn"] ["_law_well_here", "_law_size"] (defScope s__law_row) := ⟨rfl, rfl, rfl, by decide +kernel, rfl, by decide +kernel, by decide +kernel⟩
theorem fn__law_row (G : Gf K mg base) : ∃ fd, FunD K "_law_row" "_law_row" (defArgs s__law_row) (defBody s__law_row) (defScope s__law_row) [] [] (He.fAd K ("_law_row", none)) fd ∧ FnG P w K mg base 3 (He.fAd K ("_law_row", none)) fd ["_law_well_here", "_law_size"] (spD (WK K) 2 m__law_row) := by
  have C__law_number := ok__law_number (P := P) (w := w) G
  obtain ⟨fd, F⟩ := G.f__law_row
  have S := S__law_row
  have h := fn_D (P := P) (w := w) (mg := mg) (base := base) (W := WK K) (k := 2) (f := b__law_row) F S
  have h2 : FnG P w K mg base 3 (He.fAd K ("_law_row", none)) fd ["_law_well_here", "_law_size"] (spD (WK K) 2 m__law_row) := by
    refine h ?_
    intro A outer s H E hr hG
    exact (dss_cons (dset 2 S.nd (de_cell da_nil))
  (dss_cons (ds_for .never rfl (di_rng1 rfl G.b_range (da_cons (dv 1) da_nil)) (dgn 3 S.nd)
  (dss_one (ds_expr (de_meth rfl PySem.F.slot_list_append PySem.F.type_list_append mt_append dm_append (dv 2) (da_cons (de_call (C__law_number.mono (by decide)) hr hG rfl (da_cons (dv 0) da_nil)) da_nil)))))
  (dss_one (ds_ret (de_callTy call_tuple_of dc_tuple rfl G.b_tuple boot_tuple' (da_cons (dv 2) da_nil))))))
  exact ⟨fd, F, h2⟩
theorem ok__law_row (G : Gf K mg base) : Callee P w K mg base (WK K) 3 "_law_row" 2 m__law_row := by
  obtain ⟨fd, F, h⟩ := fn__law_row (P := P) (w := w) G
  exact callee_of (ps := ["_law_well_here", "_law_size"]) F h G.g__law_row fun _ _ _ _ _ _ us hl => match us, hl with | [_, _], _ => rfl
theorem S__law_unit : FnScope ["_law_many", "_law_spot", "_law_by", "_law_at"] ["_law_many", "_law_spot", "_law_by"] (defScope s__law_unit) := ⟨rfl, rfl, rfl, by decide +kernel, rfl, by decide +kernel, by decide +kernel⟩
theorem fn__law_unit (G : Gf K mg base) : ∃ fd, FunD K "_law_unit" "_law_unit" (defArgs s__law_unit) (defBody s__law_unit) (defScope s__law_unit) [] [] (He.fAd K ("_law_unit", none)) fd ∧ FnG P w K mg base 1 (He.fAd K ("_law_unit", none)) fd ["_law_many", "_law_spot", "_law_by"] (spD (WK K) 3 m__law_unit) := by
  obtain ⟨fd, F⟩ := G.f__law_unit
  have S := S__law_unit
  have h := fn_D (P := P) (w := w) (mg := mg) (base := base) (W := WK K) (k := 0) (f := b__law_unit) F S
  have h2 : FnG P w K mg base 1 (He.fAd K ("_law_unit", none)) fd ["_law_many", "_law_spot", "_law_by"] (spD (WK K) 3 m__law_unit) := by
    refine h ?_
    intro A outer s H E hr hG
    exact (dss_one (ds_ret (de_callTy call_tuple_of dc_tuple rfl G.b_tuple boot_tuple' (da_cons (de_lc rfl S.nd (own := [("_law_at", 3)]) (di_rng1 rfl G.b_range (da_cons (dv 0) da_nil)) (blkOk_by (by kernel_rfl)) (fun s H C cl fp => (dgwn 3 S.nd)) (fun s H C cl fp => dts_nil) (fun s H C cl fp => (de_if (dt_cmp (op_eqA hr.units) dop_eq (dv 3) (dv 1) (nomark _)) (dv 2) (de_tup (da_cons de_int (da_cons de_int da_nil)))))) da_nil))))
  exact ⟨fd, F, h2⟩
theorem ok__law_unit (G : Gf K mg base) : Callee P w K mg base (WK K) 1 "_law_unit" 3 m__law_unit := by
  obtain ⟨fd, F, h⟩ := fn__law_unit (P := P) (w := w) G
  exact callee_of (ps := ["_law_many", "_law_spot", "_law_by"]) F h G.g__law_unit fun _ _ _ _ _ _ us hl => match us, hl with | [_, _, _], _ => rfl
theorem S__law_sides : FnScope ["_law_many", "_law_spot", "_law_span_here", "_law_low"] ["_law_many", "_law_spot", "_law_span_here"] (defScope s__law_sides) := ⟨rfl, rfl, rfl, by decide +kernel, rfl, by decide +kernel, by decide +kernel⟩
theorem fn__law_sides (G : Gf K mg base) : ∃ fd, FunD K "_law_sides" "_law_sides" (defArgs s__law_sides) (defBody s__law_sides) (defScope s__law_sides) [] [] (He.fAd K ("_law_sides", none)) fd ∧ FnG P w K mg base 2 (He.fAd K ("_law_sides", none)) fd ["_law_many", "_law_spot", "_law_span_here"] (spD (WK K) 3 m__law_sides) := by
  have C__law_unit := ok__law_unit (P := P) (w := w) G
  obtain ⟨fd, F⟩ := G.f__law_sides
  have S := S__law_sides
  have h := fn_D (P := P) (w := w) (mg := mg) (base := base) (W := WK K) (k := 1) (f := b__law_sides) F S
  have h2 : FnG P w K mg base 2 (He.fAd K ("_law_sides", none)) fd ["_law_many", "_law_spot", "_law_span_here"] (spD (WK K) 3 m__law_sides) := by
    refine h ?_
    intro A outer s H E hr hG
    exact (dss_cons (dset 3 S.nd (de_tup (da_cons (de_sub de_int (de_ix rfl (de_ix rfl (dv 2) de_int (fun _ _ => rfl)) de_int (fun _ _ => rfl))) (da_cons (de_ix rfl (de_ix rfl (dv 2) de_int (fun _ _ => rfl)) de_int (fun _ _ => rfl)) da_nil))))
  (dss_one (ds_ret (de_tup (da_cons (de_tup (da_cons (de_call (C__law_unit.mono (by decide)) hr hG rfl (da_cons (dv 0) (da_cons (dv 1) (da_cons (de_tup (da_cons de_int (da_cons de_int da_nil))) da_nil)))) (da_cons (de_ix rfl (dv 2) de_int (fun _ _ => rfl)) da_nil))) (da_cons (de_tup (da_cons (de_call (C__law_unit.mono (by decide)) hr hG rfl (da_cons (dv 0) (da_cons (dv 1) (da_cons (de_tup (da_cons (de_neg de_int) (da_cons de_int da_nil))) da_nil)))) (da_cons (dv 3) da_nil))) da_nil))))))
  exact ⟨fd, F, h2⟩
theorem ok__law_sides (G : Gf K mg base) : Callee P w K mg base (WK K) 2 "_law_sides" 3 m__law_sides := by
  obtain ⟨fd, F, h⟩ := fn__law_sides (P := P) (w := w) G
  exact callee_of (ps := ["_law_many", "_law_spot", "_law_span_here"]) F h G.g__law_sides fun _ _ _ _ _ _ us hl => match us, hl with | [_, _, _], _ => rfl
theorem S__law_case : FnScope ["_law_plan", "_law_size", "_law_more", "_law_start", "_law_to", "_law_spot", "_law_parts", "_law_spans", "_law_held", "_law_wishes_here", "_law_rule", "_law_row_here"] ["_law_plan", "_law_size", "_law_more", "_law_start", "_law_to"] (defScope s__law_case) := ⟨rfl, rfl, rfl, by decide +kernel, rfl, by decide +kernel, by decide +kernel⟩
theorem fn__law_case (G : Gf K mg base) : ∃ fd, FunD K "_law_case" "_law_case" (defArgs s__law_case) (defBody s__law_case) (defScope s__law_case) [] [] (He.fAd K ("_law_case", none)) fd ∧ FnG P w K mg base 3 (He.fAd K ("_law_case", none)) fd ["_law_plan", "_law_size", "_law_more", "_law_start", "_law_to"] (spD (WK K) 5 m__law_case) := by
  have C__law_sides := ok__law_sides (P := P) (w := w) G
  have C__law_unit := ok__law_unit (P := P) (w := w) G
  obtain ⟨fd, F⟩ := G.f__law_case
  have S := S__law_case
  have h := fn_D (P := P) (w := w) (mg := mg) (base := base) (W := WK K) (k := 2) (f := b__law_case) F S
  have h2 : FnG P w K mg base 3 (He.fAd K ("_law_case", none)) fd ["_law_plan", "_law_size", "_law_more", "_law_start", "_law_to"] (spD (WK K) 5 m__law_case) := by
    refine h ?_
    intro A outer s H E hr hG
    exact (dss_cons (ds_asg (dv 0) (dg_tup (n := 3) rfl rfl (dgs_cons (dgn 6 S.nd) (dgs_cons (dgn 7 S.nd) (dgs_cons (dgn 8 S.nd) dgs_nil)))))
  (dss_cons (ds_par (i := 9) (j := 10) rfl S.nd rfl rfl (by decide) rfl rfl (da_cons (de_tup da_nil) (da_cons (de_cell da_nil) da_nil)) rfl)
  (dss_cons (ds_for .never rfl (di_rng1 rfl G.b_range (da_cons (dv 2) da_nil)) (dgn 5 S.nd)
  (dss_one (dset 9 S.nd (de_add rfl (dv 9) (de_call (C__law_sides.mono (by decide)) hr hG rfl (da_cons (de_add rfl (dv 1) (dv 2)) (da_cons (de_add rfl (dv 1) (dv 5)) (da_cons (de_ix rfl (dv 7) (dv 5) (fun _ _ => rfl)) da_nil))))))))
  (dss_cons (ds_for .never rfl (di_rng1 rfl G.b_range (da_cons (dv 1) da_nil)) (dgn 5 S.nd)
  (dss_cons (ds_if (dt_cmp op_isNotA dop_isNot (de_ix rfl (dv 8) (dv 5) (fun _ _ => rfl)) de_non (nomark _))
  (dss_one (dset 9 S.nd (de_add rfl (dv 9) (de_call (C__law_sides.mono (by decide)) hr hG rfl (da_cons (de_add rfl (dv 1) (dv 2)) (da_cons (dv 5) (da_cons (de_ix rfl (dv 8) (dv 5) (fun _ _ => rfl)) da_nil))))))) dss_nil)
  (dss_cons (dset 11 S.nd (de_callTy call_list_of dc_listC rfl G.b_list boot_list' (da_cons (de_call (C__law_unit.mono (by decide)) hr hG rfl (da_cons (de_add rfl (dv 1) (dv 2)) (da_cons (dv 5) (da_cons (de_ix rfl (de_ix rfl (dv 6) (dv 5) (fun _ _ => rfl)) de_int (fun _ _ => rfl)) da_nil)))) da_nil)))
  (dss_cons (ds_if (dt_cmp op_gt dop_gt (dv 2) de_int (nomark _))
  (dss_one (ds_asg (de_ix rfl (de_ix rfl (dv 6) (dv 5) (fun _ _ => rfl)) de_int (fun _ _ => rfl)) (dg_sub (dv 11) (de_add rfl (dv 1) (dv 5))))) dss_nil)
  (dss_one (ds_expr (de_meth rfl PySem.F.slot_list_append PySem.F.type_list_append mt_append dm_append (dv 10) (da_cons (de_tup (da_cons (de_callTy call_tuple_of dc_tuple rfl G.b_tuple boot_tuple' (da_cons (dv 11) da_nil)) (da_cons (de_ix rfl (de_ix rfl (dv 6) (dv 5) (fun _ _ => rfl)) de_int (fun _ _ => rfl)) da_nil))) da_nil))))))))
  (dss_one (ds_ret (de_tup (da_cons (dv 3) (da_cons (de_tup (da_cons (de_add rfl (dv 1) (dv 2)) (da_cons (dv 9) da_nil))) (da_cons (de_callTy call_tuple_of dc_tuple rfl G.b_tuple boot_tuple' (da_cons (dv 10) da_nil)) (da_cons (dv 4) da_nil)))))))))))
  exact ⟨fd, F, h2⟩
theorem ok__law_case (G : Gf K mg base) : Callee P w K mg base (WK K) 3 "_law_case" 5 m__law_case := by
  obtain ⟨fd, F, h⟩ := fn__law_case (P := P) (w := w) G
  exact callee_of (ps := ["_law_plan", "_law_size", "_law_more", "_law_start", "_law_to"]) F h G.g__law_case fun _ _ _ _ _ _ us hl => match us, hl with | [_, _, _, _, _], _ => rfl
theorem S__law_planned : FnScope ["_law_well_here", "_law_factors", "_law_places", "_law_wide", "_law_size", "_law_turn", "_law_lots", "_law_cases", "_law_more", "_law_starts", "_law_plans", "_law_safes", "_law_plan", "_law_wishes_here", "_law_each", "_law_row_here", "_law_most", "_law_place", "_law_spans", "_law_start", "_law_to", "_law_part"] ["_law_well_here", "_law_factors", "_law_places", "_law_wide"] (defScope s__law_planned) := ⟨rfl, rfl, rfl, by decide +kernel, rfl, by decide +kernel, by decide +kernel⟩
theorem fn__law_planned (G : Gf K mg base) : ∃ fd, FunD K "_law_planned" "_law_planned" (defArgs s__law_planned) (defBody s__law_planned) (defScope s__law_planned) [] [] (He.fAd K ("_law_planned", none)) fd ∧ FnG P w K mg base 6 (He.fAd K ("_law_planned", none)) fd ["_law_well_here", "_law_factors", "_law_places", "_law_wide"] (spD (WK K) 4 m__law_planned) := by
  have C__law_box := ok__law_box (P := P) (w := w) G
  have C__law_case := ok__law_case (P := P) (w := w) G
  have C__law_draw := ok__law_draw (P := P) (w := w) G
  have C__law_kept := ok__law_kept (P := P) (w := w) G
  have C__law_row := ok__law_row (P := P) (w := w) G
  have C__law_spread := ok__law_spread (P := P) (w := w) G
  obtain ⟨fd, F⟩ := G.f__law_planned
  have S := S__law_planned
  have h := fn_D (P := P) (w := w) (mg := mg) (base := base) (W := WK K) (k := 5) (f := b__law_planned) F S
  have h2 : FnG P w K mg base 6 (He.fAd K ("_law_planned", none)) fd ["_law_well_here", "_law_factors", "_law_places", "_law_wide"] (spD (WK K) 4 m__law_planned) := by
    refine h ?_
    intro A outer s H E hr hG
    exact (dss_cons (dset 4 S.nd (de_add rfl de_int (de_call (C__law_draw.mono (by decide)) hr hG rfl (da_cons (dv 0) (da_cons de_int da_nil)))))
  (dss_cons (ds_quad (i := 8) (j := 9) (l := 10) (m := 11) rfl rfl S.nd rfl rfl rfl rfl (da_cons (de_mul rfl (dv 4) (de_call (C__law_draw.mono (by decide)) hr hG rfl (da_cons (dv 0) (da_cons de_int da_nil)))) (da_cons (de_cell da_nil) (da_cons (de_cell da_nil) (da_cons (de_cell da_nil) da_nil)))))
  (dss_cons (ds_for .never rfl (di_rng1 rfl G.b_range (da_cons (de_add rfl de_int (de_call (C__law_draw.mono (by decide)) hr hG rfl (da_cons (dv 0) (da_cons de_int da_nil)))) da_nil)) (dgn 5 S.nd)
  (dss_one (ds_expr (de_meth rfl PySem.F.slot_list_append PySem.F.type_list_append mt_append dm_append (dv 9) (da_cons (de_tup (da_cons (de_call (C__law_draw.mono (by decide)) hr hG rfl (da_cons (dv 0) (da_cons (dv 2) da_nil))) (da_cons (de_call (C__law_spread.mono (by decide)) hr hG rfl (da_cons (dv 0) (da_cons (dv 4) da_nil))) da_nil))) da_nil)))))
  (dss_cons (ds_for .never rfl (di_rng1 rfl G.b_range (da_cons (de_add rfl de_int (de_call (C__law_draw.mono (by decide)) hr hG rfl (da_cons (dv 0) (da_cons de_int da_nil)))) da_nil)) (dgn 5 S.nd)
  (dss_cons (dset 12 S.nd (de_call (C__law_kept.mono (by decide)) hr hG rfl (da_cons (dv 0) (da_cons (dv 4) (da_cons (dv 8) (da_cons (dv 1) da_nil))))))
  (dss_one (ds_expr (de_meth rfl PySem.F.slot_list_append PySem.F.type_list_append mt_append dm_append (dv 10) (da_cons (de_tup (da_cons (de_call (C__law_draw.mono (by decide)) hr hG rfl (da_cons (dv 0) (da_cons (dv 2) da_nil))) (da_cons (dv 12) (da_cons (de_call (C__law_draw.mono (by decide)) hr hG rfl (da_cons (dv 0) (da_cons (dv 2) da_nil))) da_nil)))) da_nil))))))
  (dss_cons (ds_for .never rfl (di_rng1 rfl G.b_range (da_cons (dv 2) da_nil)) (dgn 5 S.nd)
  (dss_cons (dset 13 S.nd (de_cell da_nil))
  (dss_cons (ds_for .never rfl (di_rng1 rfl G.b_range (da_cons (de_add rfl de_int (de_call (C__law_draw.mono (by decide)) hr hG rfl (da_cons (dv 0) (da_cons de_int da_nil)))) da_nil)) (dgn 14 S.nd)
  (dss_cons (dset 15 S.nd (de_call (C__law_row.mono (by decide)) hr hG rfl (da_cons (dv 0) (da_cons (dv 4) da_nil))))
  (dss_cons (dset 16 S.nd (de_callB (cr_sum rfl) dc_sum rfl G.b_sum boot_sum' (da_cons (de_lc rfl S.nd (own := [("_law_part", 21)]) (di_seq rfl (dv 15)) (blkOk_by (by kernel_rfl)) (fun s H C cl fp => (dgwn 21 S.nd)) (fun s H C cl fp => dts_nil) (fun s H C cl fp => (de_add rfl (de_div (de_mul rfl (de_callB call_abs dc_abs rfl G.b_abs boot_abs' (da_cons (de_ix rfl (dv 21) de_int (fun _ _ => rfl)) da_nil)) de_int) (de_ix rfl (dv 21) de_int (fun _ _ => rfl))) de_int))) da_nil)))
  (dss_one (ds_expr (de_meth rfl PySem.F.slot_list_append PySem.F.type_list_append mt_append dm_append (dv 13) (da_cons (de_tup (da_cons (dv 15) (da_cons (de_tup (da_cons (de_add rfl (de_div (de_mul rfl (dv 16) (dv 3)) de_int) (de_call (C__law_draw.mono (by decide)) hr hG rfl (da_cons (dv 0) (da_cons de_int da_nil)))) (da_cons de_int da_nil))) da_nil))) da_nil)))))))
  (dss_one (ds_expr (de_meth rfl PySem.F.slot_list_append PySem.F.type_list_append mt_append dm_append (dv 11) (da_cons (de_tup (da_cons (dv 4) (da_cons (de_callTy call_tuple_of dc_tuple rfl G.b_tuple boot_tuple' (da_cons (dv 13) da_nil)) da_nil))) da_nil)))))))
  (dss_cons (dset 6 S.nd (de_callTy call_tuple_of dc_tuple rfl G.b_tuple boot_tuple' (da_cons (de_lc rfl S.nd (own := [("_law_place", 17), ("_law_spans", 18)]) (di_seq rfl (dv 9)) (blkOk_by (by kernel_rfl)) (fun s H C cl fp => (dgw_tup (n := 2) rfl rfl (dgsw_cons (dgwn 17 S.nd) (dgsw_cons (dgwn 18 S.nd) dgsw_nil)))) (fun s H C cl fp => dts_nil) (fun s H C cl fp => (de_tup (da_cons (dv 17) (da_cons (de_call (C__law_box.mono (by decide)) hr hG rfl (da_cons (dv 18) da_nil)) da_nil))))) da_nil)))
  (dss_cons (dset 7 S.nd (de_callTy call_tuple_of dc_tuple rfl G.b_tuple boot_tuple' (da_cons (de_lc rfl S.nd (own := [("_law_start", 19), ("_law_plan", 12), ("_law_to", 20)]) (di_seq rfl (dv 10)) (blkOk_by (by kernel_rfl)) (fun s H C cl fp => (dgw_tup (n := 3) rfl rfl (dgsw_cons (dgwn 19 S.nd) (dgsw_cons (dgwn 12 S.nd) (dgsw_cons (dgwn 20 S.nd) dgsw_nil))))) (fun s H C cl fp => dts_nil) (fun s H C cl fp => (de_call (C__law_case.mono (by decide)) hr hG rfl (da_cons (dv 12) (da_cons (dv 4) (da_cons (dv 8) (da_cons (dv 19) (da_cons (dv 20) da_nil)))))))) da_nil)))
  (dss_one (ds_ret (de_tup (da_cons (de_tup (da_cons (dv 4) (da_cons (dv 8) (da_cons (dv 6) (da_cons (dv 7) (da_cons (de_callTy call_tuple_of dc_tuple rfl G.b_tuple boot_tuple' (da_cons (dv 11) da_nil)) da_nil)))))) (da_cons (de_frz (dv 9)) (da_cons (de_frz (dv 10)) da_nil)))))))))))))
  exact ⟨fd, F, h2⟩
theorem ok__law_planned (G : Gf K mg base) : Callee P w K mg base (WK K) 6 "_law_planned" 4 m__law_planned := by
  obtain ⟨fd, F, h⟩ := fn__law_planned (P := P) (w := w) G
  exact callee_of (ps := ["_law_well_here", "_law_factors", "_law_places", "_law_wide"]) F h G.g__law_planned fun _ _ _ _ _ _ us hl => match us, hl with | [_, _, _, _], _ => rfl
theorem S__law_odd : FnScope ["_law_well_here", "_law_some"] ["_law_well_here"] (defScope s__law_odd) := ⟨rfl, rfl, rfl, by decide +kernel, rfl, by decide +kernel, by decide +kernel⟩
theorem fn__law_odd (G : Gf K mg base) : ∃ fd, FunD K "_law_odd" "_law_odd" (defArgs s__law_odd) (defBody s__law_odd) (defScope s__law_odd) [] [] (He.fAd K ("_law_odd", none)) fd ∧ FnG P w K mg base 3 (He.fAd K ("_law_odd", none)) fd ["_law_well_here"] (spD (WK K) 1 m__law_odd) := by
  have C__law_of := ok__law_of (P := P) (w := w) G
  obtain ⟨fd, F⟩ := G.f__law_odd
  have S := S__law_odd
  have h := fn_D (P := P) (w := w) (mg := mg) (base := base) (W := WK K) (k := 2) (f := b__law_odd) F S
  have h2 : FnG P w K mg base 3 (He.fAd K ("_law_odd", none)) fd ["_law_well_here"] (spD (WK K) 1 m__law_odd) := by
    refine h ?_
    intro A outer s H E hr hG
    exact (dss_cons (dset 1 S.nd (de_tup (da_cons de_non (da_cons de_bl (da_cons de_bl (da_cons de_int (da_cons de_int (da_cons (de_neg de_int) (da_cons de_int (da_cons (de_pow de_int de_int) (da_cons de_str (da_cons de_str (da_cons (de_tup da_nil) (da_cons (de_tup (da_cons de_int da_nil)) (da_cons (de_tup (da_cons de_int (da_cons de_int da_nil))) (da_cons (de_tup (da_cons de_int (da_cons de_int da_nil))) (da_cons (de_tup (da_cons de_int (da_cons de_int da_nil))) (da_cons (de_tup (da_cons de_int (da_cons de_int da_nil))) (da_cons (de_tup (da_cons de_int (da_cons de_int da_nil))) da_nil)))))))))))))))))))
  (dss_cons (dset 1 S.nd (de_add rfl (dv 1) (de_tup (da_cons (de_tup (da_cons de_int (da_cons (de_neg de_int) da_nil))) (da_cons (de_tup (da_cons de_bl (da_cons de_int da_nil))) (da_cons (de_tup (da_cons de_int (da_cons de_bl da_nil))) (da_cons (de_tup (da_cons de_int (da_cons de_int (da_cons de_int da_nil)))) (da_cons (de_tup (da_cons (de_tup (da_cons de_int (da_cons de_int da_nil))) da_nil)) (da_cons (de_lst da_nil) (da_cons (de_lst (da_cons de_int (da_cons de_int da_nil))) (da_cons de_dic (da_cons (de_tup (da_cons de_non (da_cons de_int da_nil))) (da_cons (de_tup (da_cons de_str (da_cons de_int da_nil))) (da_cons (de_tup (da_cons de_int (da_cons (de_tup da_nil) da_nil))) da_nil))))))))))))))
  (dss_one (ds_ret (de_call (C__law_of.mono (by decide)) hr hG rfl (da_cons (dv 0) (da_cons (dv 1) da_nil)))))))
  exact ⟨fd, F, h2⟩
theorem ok__law_odd (G : Gf K mg base) : Callee P w K mg base (WK K) 3 "_law_odd" 1 m__law_odd := by
  obtain ⟨fd, F, h⟩ := fn__law_odd (P := P) (w := w) G
  exact callee_of (ps := ["_law_well_here"]) F h G.g__law_odd fun _ _ _ _ _ _ us hl => match us, hl with | [_], _ => rfl
theorem S__law_bent : FnScope ["_law_well_here", "_law_thing", "_law_way", "_law_at"] ["_law_well_here", "_law_thing"] (defScope s__law_bent) := ⟨rfl, rfl, rfl, by decide +kernel, rfl, by decide +kernel, by decide +kernel⟩
theorem ok__law_bent (G : Gf K mg base) : ∀ n, Callee P w K mg base (WK K) (3 + n) "_law_bent" 2 (m__law_bent n) := by
  have C__law_draw := ok__law_draw (P := P) (w := w) G
  have C__law_odd := ok__law_odd (P := P) (w := w) G
  obtain ⟨fd, F⟩ := G.f__law_bent
  have S := S__law_bent
  have bd : ∀ (kV doc pm : Value) (an : Option Addr) (cdv ct : Value) (us : List Value), us.length = (["_law_well_here", "_law_thing"] : List Str).length → bindArgs (PySem.W.fnOf "_law_bent" "_law_bent" (defArgs s__law_bent) (defBody s__law_bent) (defScope s__law_bent) .none kV doc pm an cdv ct) ⟨us, []⟩ = pure ((["_law_well_here", "_law_thing"] : List Str).zip us) := fun _ _ _ _ _ _ us hl => match us, hl with | [_, _], _ => rfl
  intro n
  induction n with
  | zero => exact callee_of (ps := ["_law_well_here", "_law_thing"]) F ⟨fun vs H Q E h => h.1, fun A outer s H args us vs Q E _ _ _ _ _ h => by obtain ⟨_, xs, S0, μ, _, _, z⟩ := h; exact z.elim⟩ G.g__law_bent bd
  | succ n ih =>
    have h := fn_D (P := P) (w := w) (mg := mg) (base := base) (W := WK K) (k := 3 + n) (f := b__law_bent (fun _ => m__law_bent n) n) F S
    have h2 : FnG P w K mg base (3 + n + 1) (He.fAd K ("_law_bent", none)) fd ["_law_well_here", "_law_thing"] (spD (WK K) 2 (m__law_bent (n + 1))) := by
      refine h ?_
      intro A outer s H E hr hG
      exact (dss_cons (ds_if (dt_w (dw_and (dt_val (de_isi .tup rfl rfl G.b_isinstance rfl G.b_tuple (dv 1))) (dw_and (dt_cmp (op_neA hr.units) dop_ne (dv 1) (de_tup da_nil) (nomark _)) (dw_and1 (dt_cmp op_gt dop_gt (de_call (C__law_draw.mono (by omega)) hr hG rfl (da_cons (dv 0) (da_cons de_int da_nil))) de_int (nomark _))))))
  (dss_cons (dset 3 S.nd (de_call (C__law_draw.mono (by omega)) hr hG rfl (da_cons (dv 0) (da_cons (de_callB call_len dc_len rfl G.b_len boot_len' (da_cons (dv 1) da_nil)) da_nil))))
  (dss_one (ds_ret (de_add rfl (de_add rfl (de_slice rfl (dv 1) do_0 (do_1 (dv 3))) (de_tup (da_cons (de_call (ih.mono (by omega)) hr hG rfl (da_cons (dv 0) (da_cons (de_ix rfl (dv 1) (dv 3) (fun _ _ => rfl)) da_nil))) da_nil))) (de_slice rfl (dv 1) (do_1 (de_add rfl (dv 3) de_int)) do_0))))) dss_nil)
  (dss_cons (dset 2 S.nd (de_call (C__law_draw.mono (by omega)) hr hG rfl (da_cons (dv 0) (da_cons de_int da_nil))))
  (dss_cons (ds_if (dt_w (dw_and (dt_val (de_isi .tup rfl rfl G.b_isinstance rfl G.b_tuple (dv 1))) (dw_and1 (dt_cmp op_lt dop_lt (dv 2) de_int (nomark _)))))
  (dss_one (ds_ret (de_ix rfl (de_tup (da_cons (de_callTy call_list_of dc_list rfl G.b_list boot_list' (da_cons (dv 1) da_nil)) (da_cons (de_slice rfl (dv 1) do_0 (do_1 (de_neg de_int))) (da_cons (de_add rfl (dv 1) (de_slice rfl (dv 1) do_0 (do_1 de_int))) (da_cons (de_back rfl (dv 1)) (da_cons (de_slice rfl (dv 1) (do_1 de_int) do_0) da_nil)))))) (dv 2) (fun _ _ => rfl)))) dss_nil)
  (dss_cons (ds_if (dt_w (dw_and (dt_val (de_isi .int rfl rfl G.b_isinstance rfl G.b_int (dv 1))) (dw_and1 (dt_cmp op_lt dop_lt (dv 2) de_int (nomark _)))))
  (dss_one (ds_ret (de_ix rfl (de_tup (da_cons (de_add rfl (dv 1) de_int) (da_cons (de_sub de_int (dv 1)) (da_cons (de_mul rfl de_int (dv 1)) (da_cons (de_cmp (op_eqA hr.units) dop_eq (dv 1) de_int (nomark _)) da_nil))))) (dv 2) (fun _ _ => rfl)))) dss_nil)
  (dss_one (ds_ret (de_call (C__law_odd.mono (by omega)) hr hG rfl (da_cons (dv 0) da_nil))))))))
    exact callee_of (ps := ["_law_well_here", "_law_thing"]) F h2 G.g__law_bent bd
theorem S__law_wishes : FnScope ["_law_chart", "_law_table", "_law_found", "_law_place", "_law_size", "_law_more", "_law_starts", "_law_cases", "_law_safes", "_law_lot", "_law_start", "_law_guard", "_law_rule", "_law_to", "_law_behind", "_law_numbers", "_law_row_here", "_law_bound", "_law_led", "_law_worth", "_law_number_here", "_law_spot", "_law_each"] ["_law_chart", "_law_table"] (defScope s__law_wishes) := ⟨rfl, rfl, rfl, by decide +kernel, rfl, by decide +kernel, by decide +kernel⟩
theorem fn__law_wishes (G : Gf K mg base) : ∃ fd, FunD K "_law_wishes" "_law_wishes" (defArgs s__law_wishes) (defBody s__law_wishes) (defScope s__law_wishes) [] [] (He.fAd K ("_law_wishes", none)) fd ∧ FnG P w K mg base 4 (He.fAd K ("_law_wishes", none)) fd ["_law_chart", "_law_table"] (spD (WK K) 2 m__law_wishes) := by
  have C__law_dot := ok__law_dot (P := P) (w := w) G
  have C__law_plus := ok__law_plus (P := P) (w := w) G
  obtain ⟨fd, F⟩ := G.f__law_wishes
  have S := S__law_wishes
  have h := fn_D (P := P) (w := w) (mg := mg) (base := base) (W := WK K) (k := 3) (f := b__law_wishes) F S
  have h2 : FnG P w K mg base 4 (He.fAd K ("_law_wishes", none)) fd ["_law_chart", "_law_table"] (spD (WK K) 2 m__law_wishes) := by
    refine h ?_
    intro A outer s H E hr hG
    exact (dss_cons (ds_asg (dv 0) (dg_tup (n := 5) rfl rfl (dgs_cons (dgn 4 S.nd) (dgs_cons (dgn 5 S.nd) (dgs_cons (dgn 6 S.nd) (dgs_cons (dgn 7 S.nd) (dgs_cons (dgn 8 S.nd) dgs_nil)))))))
  (dss_cons (dset 2 S.nd (de_cell da_nil))
  (dss_cons (ds_for .never rfl (di_seq rfl (dv 6)) (dg_tup (n := 2) rfl rfl (dgs_cons (dgn 3 S.nd) (dgs_cons (dgn 9 S.nd) dgs_nil)))
  (dss_one (dset 2 S.nd (de_addC (dv 2) (de_lc rfl S.nd (own := [("_law_row_here", 16), ("_law_bound", 17)]) (di_seq rfl (de_ix rfl (de_ix rfl (dv 1) (dv 3) (fun _ _ => rfl)) de_int (fun _ _ => rfl))) (blkOk_by (by kernel_rfl)) (fun s H C cl fp => (dgw_tup (n := 2) rfl rfl (dgsw_cons (dgwn 16 S.nd) (dgsw_cons (dgwn 17 S.nd) dgsw_nil)))) (fun s H C cl fp => dts_nil) (fun s H C cl fp => (de_tup (da_cons (dv 9) (da_cons (dv 16) (da_cons (dv 17) da_nil))))))))))
  (dss_cons (ds_for .never rfl (di_seq rfl (dv 7)) (dg_tup (n := 4) rfl rfl (dgs_cons (dgn 10 S.nd) (dgs_cons (dgn 11 S.nd) (dgs_cons (dgn 12 S.nd) (dgs_cons (dgn 13 S.nd) dgs_nil)))))
  (dss_cons (dset 14 S.nd (de_callTy call_tuple_of dc_tuple rfl G.b_tuple boot_tuple' (da_cons (de_lc rfl S.nd (own := [("_law_row_here", 16), ("_law_bound", 17)]) (di_seq rfl (de_ix rfl (de_ix rfl (dv 1) (dv 10) (fun _ _ => rfl)) de_int (fun _ _ => rfl))) (blkOk_by (by kernel_rfl)) (fun s H C cl fp => (dgw_tup (n := 2) rfl rfl (dgsw_cons (dgwn 16 S.nd) (dgsw_cons (dgwn 17 S.nd) dgsw_nil)))) (fun s H C cl fp => dts_nil) (fun s H C cl fp => (de_tup (da_cons (de_add rfl (dv 16) (de_mul rfl (de_tup (da_cons (de_tup (da_cons de_int (da_cons de_int da_nil))) da_nil)) (dv 5))) (da_cons (dv 17) da_nil))))) da_nil)))
  (dss_cons (ds_asg (de_tup (da_cons (de_tup (da_cons (de_add rfl (dv 4) (dv 5)) (da_cons (de_add rfl (dv 14) (de_ix rfl (dv 11) de_int (fun _ _ => rfl))) da_nil))) (da_cons (de_lc rfl S.nd (own := [("_law_row_here", 16), ("_law_number_here", 20)]) (di_seq rfl (dv 12)) (blkOk_by (by kernel_rfl)) (fun s H C cl fp => (dgw_tup (n := 2) rfl rfl (dgsw_cons (dgwn 16 S.nd) (dgsw_cons (dgwn 20 S.nd) dgsw_nil)))) (fun s H C cl fp => dts_nil) (fun s H C cl fp => (dv 20))) da_nil))) (dg_tup (n := 2) rfl rfl (dgs_cons (dgn 9 S.nd) (dgs_cons (dgn 15 S.nd) dgs_nil))))
  (dss_one (ds_for .never rfl (di_seq rfl (de_ix rfl (de_ix rfl (dv 1) (dv 13) (fun _ _ => rfl)) de_int (fun _ _ => rfl))) (dg_tup (n := 2) rfl rfl (dgs_cons (dgn 16 S.nd) (dgs_cons (dgn 17 S.nd) dgs_nil)))
  (dss_cons (dset 18 S.nd (de_callTy call_tuple_of dc_tuple rfl G.b_tuple boot_tuple' (da_cons (de_lc rfl S.nd (own := [("_law_spot", 21)]) (di_rng1 rfl G.b_range (da_cons (de_add rfl (dv 4) (dv 5)) da_nil)) (blkOk_by (by kernel_rfl)) (fun s H C cl fp => (dgwn 21 S.nd)) (fun s H C cl fp => dts_nil) (fun s H C cl fp => (de_call (C__law_dot.mono (by decide)) hr hG rfl (da_cons (dv 16) (da_cons (de_lc rfl S.nd (own := [("_law_each", 22)]) (di_seq rfl (dv 12)) (blkOk_by (by kernel_rfl)) (fun s H C cl fp => (dgwn 22 S.nd)) (fun s H C cl fp => dts_nil) (fun s H C cl fp => (de_ix rfl (de_ix rfl (dv 22) de_int (fun _ _ => rfl)) (dv 21) (fun _ _ => rfl)))) da_nil))))) da_nil)))
  (dss_cons (dset 19 S.nd (de_call (C__law_dot.mono (by decide)) hr hG rfl (da_cons (dv 16) (da_cons (dv 15) da_nil))))
  (dss_one (ds_expr (de_meth rfl PySem.F.slot_list_append PySem.F.type_list_append mt_append dm_append (dv 2) (da_cons (de_tup (da_cons (dv 9) (da_cons (dv 18) (da_cons (de_call (C__law_plus.mono (by decide)) hr hG rfl (da_cons (dv 17) (da_cons (de_tup (da_cons (de_sub de_int (de_ix rfl (dv 19) de_int (fun _ _ => rfl))) (da_cons (de_ix rfl (dv 19) de_int (fun _ _ => rfl)) da_nil))) da_nil))) da_nil)))) da_nil)))))))))))
  (dss_cons (ds_for .never rfl (di_rng1 rfl G.b_range (da_cons (de_callB call_len dc_len rfl G.b_len boot_len' (da_cons (dv 8) da_nil)) da_nil)) (dgn 3 S.nd)
  (dss_one (dset 2 S.nd (de_addC (dv 2) (de_lc rfl S.nd (own := [("_law_row_here", 16), ("_law_bound", 17)]) (di_seq rfl (de_ix rfl (de_ix rfl (dv 8) (dv 3) (fun _ _ => rfl)) de_int (fun _ _ => rfl))) (blkOk_by (by kernel_rfl)) (fun s H C cl fp => (dgw_tup (n := 2) rfl rfl (dgsw_cons (dgwn 16 S.nd) (dgsw_cons (dgwn 17 S.nd) dgsw_nil)))) (fun s H C cl fp => dts_nil) (fun s H C cl fp => (de_tup (da_cons (de_ix rfl (dv 1) (dv 3) (fun _ _ => rfl)) (da_cons (dv 16) (da_cons (dv 17) da_nil))))))))))
  (dss_one (ds_ret (de_callTy call_tuple_of dc_tuple rfl G.b_tuple boot_tuple' (da_cons (dv 2) da_nil)))))))))
  exact ⟨fd, F, h2⟩
theorem ok__law_wishes (G : Gf K mg base) : Callee P w K mg base (WK K) 4 "_law_wishes" 2 m__law_wishes := by
  obtain ⟨fd, F, h⟩ := fn__law_wishes (P := P) (w := w) G
  exact callee_of (ps := ["_law_chart", "_law_table"]) F h G.g__law_wishes fun _ _ _ _ _ _ us hl => match us, hl with | [_, _], _ => rfl
theorem S__law_is_whole : FnScope ["_law_thing"] ["_law_thing"] (defScope s__law_is_whole) := ⟨rfl, rfl, rfl, by decide +kernel, rfl, by decide +kernel, by decide +kernel⟩
theorem fn__law_is_whole (G : Gf K mg base) : ∃ fd, FunD K "_law_is_whole" "_law_is_whole" (defArgs s__law_is_whole) (defBody s__law_is_whole) (defScope s__law_is_whole) [] [] (He.fAd K ("_law_is_whole", none)) fd ∧ FnG P w K mg base 1 (He.fAd K ("_law_is_whole", none)) fd ["_law_thing"] (spD (WK K) 1 m__law_is_whole) := by
  obtain ⟨fd, F⟩ := G.f__law_is_whole
  have S := S__law_is_whole
  have h := fn_D (P := P) (w := w) (mg := mg) (base := base) (W := WK K) (k := 0) (f := b__law_is_whole) F S
  have h2 : FnG P w K mg base 1 (He.fAd K ("_law_is_whole", none)) fd ["_law_thing"] (spD (WK K) 1 m__law_is_whole) := by
    refine h ?_
    intro A outer s H E hr hG
    exact (dss_one (ds_ret (de_and (de_isi .int rfl rfl G.b_isinstance rfl G.b_int (dv 0)) (de_one (de_not (de_isi .bool rfl rfl G.b_isinstance rfl G.b_bool (dv 0)))))))
  exact ⟨fd, F, h2⟩
theorem ok__law_is_whole (G : Gf K mg base) : Callee P w K mg base (WK K) 1 "_law_is_whole" 1 m__law_is_whole := by
  obtain ⟨fd, F, h⟩ := fn__law_is_whole (P := P) (w := w) G
  exact callee_of (ps := ["_law_thing"]) F h G.g__law_is_whole fun _ _ _ _ _ _ us hl => match us, hl with | [_], _ => rfl
theorem S__law_is_frac : FnScope ["_law_thing"] ["_law_thing"] (defScope s__law_is_frac) := ⟨rfl, rfl, rfl, by decide +kernel, rfl, by decide +kernel, by decide +kernel⟩
theorem fn__law_is_frac (G : Gf K mg base) : ∃ fd, FunD K "_law_is_frac" "_law_is_frac" (defArgs s__law_is_frac) (defBody s__law_is_frac) (defScope s__law_is_frac) [] [] (He.fAd K ("_law_is_frac", none)) fd ∧ FnG P w K mg base 2 (He.fAd K ("_law_is_frac", none)) fd ["_law_thing"] (spD (WK K) 1 m__law_is_frac) := by
  have C__law_frac := ok__law_frac (P := P) (w := w) G
  have C__law_is_whole := ok__law_is_whole (P := P) (w := w) G
  obtain ⟨fd, F⟩ := G.f__law_is_frac
  have S := S__law_is_frac
  have h := fn_D (P := P) (w := w) (mg := mg) (base := base) (W := WK K) (k := 1) (f := b__law_is_frac) F S
  have h2 : FnG P w K mg base 2 (He.fAd K ("_law_is_frac", none)) fd ["_law_thing"] (spD (WK K) 1 m__law_is_frac) := by
    refine h ?_
    intro A outer s H E hr hG
    exact (dss_cons (ds_if (dt_w (dw_or (dt_not (dt_val (de_isi .tup rfl rfl G.b_isinstance rfl G.b_tuple (dv 0)))) (dw_or (dt_cmp (op_neA hr.units) dop_ne (de_callB call_len dc_len rfl G.b_len boot_len' (da_cons (dv 0) da_nil)) de_int (nomark _)) (dw_or (dt_not (dt_val (de_call (C__law_is_whole.mono (by decide)) hr hG rfl (da_cons (de_ix rfl (dv 0) de_int (fun _ _ => rfl)) da_nil)))) (dw_or1 (dt_not (dt_val (de_call (C__law_is_whole.mono (by decide)) hr hG rfl (da_cons (de_ix rfl (dv 0) de_int (fun _ _ => rfl)) da_nil)))))))))
  (dss_one (ds_ret de_bl)) dss_nil)
  (dss_one (ds_ret (de_and (de_cmp op_gt dop_gt (de_ix rfl (dv 0) de_int (fun _ _ => rfl)) de_int (nomark _)) (de_one (de_cmp (op_eqA hr.units) dop_eq (de_call (C__law_frac.mono (by decide)) hr hG rfl (da_cons (de_ix rfl (dv 0) de_int (fun _ _ => rfl)) (da_cons (de_ix rfl (dv 0) de_int (fun _ _ => rfl)) da_nil))) (dv 0) (nomark _)))))))
  exact ⟨fd, F, h2⟩
theorem ok__law_is_frac (G : Gf K mg base) : Callee P w K mg base (WK K) 2 "_law_is_frac" 1 m__law_is_frac := by
  obtain ⟨fd, F, h⟩ := fn__law_is_frac (P := P) (w := w) G
  exact callee_of (ps := ["_law_thing"]) F h G.g__law_is_frac fun _ _ _ _ _ _ us hl => match us, hl with | [_], _ => rfl
theorem S__law_is_row : FnScope ["_law_thing", "_law_size", "_law_each"] ["_law_thing", "_law_size"] (defScope s__law_is_row) := ⟨rfl, rfl, rfl, by decide +kernel, rfl, by decide +kernel, by decide +kernel⟩
theorem fn__law_is_row (G : Gf K mg base) : ∃ fd, FunD K "_law_is_row" "_law_is_row" (defArgs s__law_is_row) (defBody s__law_is_row) (defScope s__law_is_row) [] [] (He.fAd K ("_law_is_row", none)) fd ∧ FnG P w K mg base 3 (He.fAd K ("_law_is_row", none)) fd ["_law_thing", "_law_size"] (spD (WK K) 2 m__law_is_row) := by
  have C__law_is_frac := ok__law_is_frac (P := P) (w := w) G
  obtain ⟨fd, F⟩ := G.f__law_is_row
  have S := S__law_is_row
  have h := fn_D (P := P) (w := w) (mg := mg) (base := base) (W := WK K) (k := 2) (f := b__law_is_row) F S
  have h2 : FnG P w K mg base 3 (He.fAd K ("_law_is_row", none)) fd ["_law_thing", "_law_size"] (spD (WK K) 2 m__law_is_row) := by
    refine h ?_
    intro A outer s H E hr hG
    exact (dss_one (ds_ret (de_and (de_isi .tup rfl rfl G.b_isinstance rfl G.b_tuple (dv 0)) (de_and (de_cmp (op_eqA hr.units) dop_eq (de_callB call_len dc_len rfl G.b_len boot_len' (da_cons (dv 0) da_nil)) (dv 1) (nomark _)) (de_one (de_callB (cr_all rfl) dc_all rfl G.b_all boot_all' (da_cons (de_lc rfl S.nd (own := [("_law_each", 2)]) (di_seq rfl (dv 0)) (blkOk_by (by kernel_rfl)) (fun s H C cl fp => (dgwn 2 S.nd)) (fun s H C cl fp => dts_nil) (fun s H C cl fp => (de_call (C__law_is_frac.mono (by decide)) hr hG rfl (da_cons (dv 2) da_nil)))) da_nil)))))))
  exact ⟨fd, F, h2⟩
theorem ok__law_is_row (G : Gf K mg base) : Callee P w K mg base (WK K) 3 "_law_is_row" 2 m__law_is_row := by
  obtain ⟨fd, F, h⟩ := fn__law_is_row (P := P) (w := w) G
  exact callee_of (ps := ["_law_thing", "_law_size"]) F h G.g__law_is_row fun _ _ _ _ _ _ us hl => match us, hl with | [_, _], _ => rfl
theorem S__law_is_lot : FnScope ["_law_thing", "_law_size", "_law_most", "_law_wish"] ["_law_thing", "_law_size", "_law_most"] (defScope s__law_is_lot) := ⟨rfl, rfl, rfl, by decide +kernel, rfl, by decide +kernel, by decide +kernel⟩
theorem fn__law_is_lot (G : Gf K mg base) : ∃ fd, FunD K "_law_is_lot" "_law_is_lot" (defArgs s__law_is_lot) (defBody s__law_is_lot) (defScope s__law_is_lot) [] [] (He.fAd K ("_law_is_lot", none)) fd ∧ FnG P w K mg base 4 (He.fAd K ("_law_is_lot", none)) fd ["_law_thing", "_law_size", "_law_most"] (spD (WK K) 3 m__law_is_lot) := by
  have C__law_is_frac := ok__law_is_frac (P := P) (w := w) G
  have C__law_is_row := ok__law_is_row (P := P) (w := w) G
  have C__law_is_whole := ok__law_is_whole (P := P) (w := w) G
  obtain ⟨fd, F⟩ := G.f__law_is_lot
  have S := S__law_is_lot
  have h := fn_D (P := P) (w := w) (mg := mg) (base := base) (W := WK K) (k := 3) (f := b__law_is_lot) F S
  have h2 : FnG P w K mg base 4 (He.fAd K ("_law_is_lot", none)) fd ["_law_thing", "_law_size", "_law_most"] (spD (WK K) 3 m__law_is_lot) := by
    refine h ?_
    intro A outer s H E hr hG
    exact (dss_cons (ds_if (dt_w (dw_or (dt_not (dt_val (de_isi .tup rfl rfl G.b_isinstance rfl G.b_tuple (dv 0)))) (dw_or (dt_cmp (op_neA hr.units) dop_ne (de_callB call_len dc_len rfl G.b_len boot_len' (da_cons (dv 0) da_nil)) de_int (nomark _)) (dw_or (dt_not (dt_val (de_call (C__law_is_whole.mono (by decide)) hr hG rfl (da_cons (de_ix rfl (dv 0) de_int (fun _ _ => rfl)) da_nil)))) (dw_or1 (dt_not (dt_chain op_lt op_lt dop_lt dop_lt de_int (de_ix rfl (dv 0) de_int (fun _ _ => rfl)) de_int)))))))
  (dss_one (ds_ret de_bl)) dss_nil)
  (dss_cons (ds_if (dt_w (dw_or (dt_w (dw_and (dt_cmp op_isNotA dop_isNot (dv 1) de_non (nomark _)) (dw_and1 (dt_cmp (op_neA hr.units) dop_ne (de_ix rfl (dv 0) de_int (fun _ _ => rfl)) (dv 1) (nomark _))))) (dw_or (dt_not (dt_val (de_isi .tup rfl rfl G.b_isinstance rfl G.b_tuple (de_ix rfl (dv 0) de_int (fun _ _ => rfl))))) (dw_or1 (dt_cmp op_gt dop_gt (de_callB call_len dc_len rfl G.b_len boot_len' (da_cons (de_ix rfl (dv 0) de_int (fun _ _ => rfl)) da_nil)) (dv 2) (nomark _))))))
  (dss_one (ds_ret de_bl)) dss_nil)
  (dss_cons (ds_for .never rfl (di_seq rfl (de_ix rfl (dv 0) de_int (fun _ _ => rfl))) (dgn 3 S.nd)
  (dss_cons (ds_if (dt_w (dw_or (dt_not (dt_val (de_isi .tup rfl rfl G.b_isinstance rfl G.b_tuple (dv 3)))) (dw_or1 (dt_cmp (op_neA hr.units) dop_ne (de_callB call_len dc_len rfl G.b_len boot_len' (da_cons (dv 3) da_nil)) de_int (nomark _)))))
  (dss_one (ds_ret de_bl)) dss_nil)
  (dss_one (ds_if (dt_w (dw_or (dt_not (dt_val (de_call (C__law_is_row.mono (by decide)) hr hG rfl (da_cons (de_ix rfl (dv 3) de_int (fun _ _ => rfl)) (da_cons (de_ix rfl (dv 0) de_int (fun _ _ => rfl)) da_nil))))) (dw_or1 (dt_not (dt_val (de_call (C__law_is_frac.mono (by decide)) hr hG rfl (da_cons (de_ix rfl (dv 3) de_int (fun _ _ => rfl)) da_nil)))))))
  (dss_one (ds_ret de_bl)) dss_nil))))
  (dss_one (ds_ret de_bl)))))
  exact ⟨fd, F, h2⟩
theorem ok__law_is_lot (G : Gf K mg base) : Callee P w K mg base (WK K) 4 "_law_is_lot" 3 m__law_is_lot := by
  obtain ⟨fd, F, h⟩ := fn__law_is_lot (P := P) (w := w) G
  exact callee_of (ps := ["_law_thing", "_law_size", "_law_most"]) F h G.g__law_is_lot fun _ _ _ _ _ _ us hl => match us, hl with | [_, _, _], _ => rfl
theorem S__law_is_table : FnScope ["_law_chart", "_law_thing", "_law_lot"] ["_law_chart", "_law_thing"] (defScope s__law_is_table) := ⟨rfl, rfl, rfl, by decide +kernel, rfl, by decide +kernel, by decide +kernel⟩
theorem fn__law_is_table (G : Gf K mg base) : ∃ fd, FunD K "_law_is_table" "_law_is_table" (defArgs s__law_is_table) (defBody s__law_is_table) (defScope s__law_is_table) [] [] (He.fAd K ("_law_is_table", none)) fd ∧ FnG P w K mg base 5 (He.fAd K ("_law_is_table", none)) fd ["_law_chart", "_law_thing"] (spD (WK K) 2 m__law_is_table) := by
  have C__law_is_lot := ok__law_is_lot (P := P) (w := w) G
  obtain ⟨fd, F⟩ := G.f__law_is_table
  have S := S__law_is_table
  have h := fn_D (P := P) (w := w) (mg := mg) (base := base) (W := WK K) (k := 4) (f := b__law_is_table) F S
  have h2 : FnG P w K mg base 5 (He.fAd K ("_law_is_table", none)) fd ["_law_chart", "_law_thing"] (spD (WK K) 2 m__law_is_table) := by
    refine h ?_
    intro A outer s H E hr hG
    exact (dss_cons (ds_if (dt_w (dw_or (dt_not (dt_val (de_isi .tup rfl rfl G.b_isinstance rfl G.b_tuple (dv 1)))) (dw_or1 (dt_cmp (op_neA hr.units) dop_ne (de_callB call_len dc_len rfl G.b_len boot_len' (da_cons (dv 1) da_nil)) (de_callB call_len dc_len rfl G.b_len boot_len' (da_cons (de_ix rfl (dv 0) de_int (fun _ _ => rfl)) da_nil)) (nomark _)))))
  (dss_one (ds_ret de_bl)) dss_nil)
  (dss_one (ds_ret (de_callB (cr_all rfl) dc_all rfl G.b_all boot_all' (da_cons (de_lc rfl S.nd (own := [("_law_lot", 2)]) (di_seq rfl (dv 1)) (blkOk_by (by kernel_rfl)) (fun s H C cl fp => (dgwn 2 S.nd)) (fun s H C cl fp => dts_nil) (fun s H C cl fp => (de_call (C__law_is_lot.mono (by decide)) hr hG rfl (da_cons (dv 2) (da_cons (de_ix rfl (dv 0) de_int (fun _ _ => rfl)) (da_cons de_int da_nil)))))) da_nil)))))
  exact ⟨fd, F, h2⟩
theorem ok__law_is_table (G : Gf K mg base) : Callee P w K mg base (WK K) 5 "_law_is_table" 2 m__law_is_table := by
  obtain ⟨fd, F, h⟩ := fn__law_is_table (P := P) (w := w) G
  exact callee_of (ps := ["_law_chart", "_law_thing"]) F h G.g__law_is_table fun _ _ _ _ _ _ us hl => match us, hl with | [_, _], _ => rfl
theorem S__law_mixed : FnScope ["_law_lot", "_law_weights", "_law_row_here", "_law_bound", "_law_weight", "_law_own", "_law_most", "_law_here", "_law_there"] ["_law_lot", "_law_weights"] (defScope s__law_mixed) := ⟨rfl, rfl, rfl, by decide +kernel, rfl, by decide +kernel, by decide +kernel⟩
theorem fn__law_mixed (G : Gf K mg base) : ∃ fd, FunD K "_law_mixed" "_law_mixed" (defArgs s__law_mixed) (defBody s__law_mixed) (defScope s__law_mixed) [] [] (He.fAd K ("_law_mixed", none)) fd ∧ FnG P w K mg base 3 (He.fAd K ("_law_mixed", none)) fd ["_law_lot", "_law_weights"] (spD (WK K) 2 m__law_mixed) := by
  have C__law_plus := ok__law_plus (P := P) (w := w) G
  have C__law_times := ok__law_times (P := P) (w := w) G
  obtain ⟨fd, F⟩ := G.f__law_mixed
  have S := S__law_mixed
  have h := fn_D (P := P) (w := w) (mg := mg) (base := base) (W := WK K) (k := 2) (f := b__law_mixed) F S
  have h2 : FnG P w K mg base 3 (He.fAd K ("_law_mixed", none)) fd ["_law_lot", "_law_weights"] (spD (WK K) 2 m__law_mixed) := by
    refine h ?_
    intro A outer s H E hr hG
    exact (dss_cons (ds_par (i := 2) (j := 3) rfl S.nd rfl rfl (by decide) rfl rfl (da_cons (de_repL (de_lst (da_cons (de_tup (da_cons de_int (da_cons de_int da_nil))) da_nil)) (de_ix rfl (dv 0) de_int (fun _ _ => rfl))) (da_cons (de_tup (da_cons de_int (da_cons de_int da_nil))) da_nil)) rfl)
  (dss_cons (ds_for .never rfl (di_mx rfl rfl G.b_zip (da_cons (de_ix rfl (dv 0) de_int (fun _ _ => rfl)) (da_cons (dv 1) da_nil))) (dg_tup (n := 2) rfl rfl (dgs_cons (dg_tup (n := 2) rfl rfl (dgs_cons (dgn 5 S.nd) (dgs_cons (dgn 6 S.nd) dgs_nil))) (dgs_cons (dgn 4 S.nd) dgs_nil)))
  (dss_cons (ds_setLc (lc_rd (own := [("_law_here", 7), ("_law_there", 8)])) rfl S.nd rfl rfl (sw_true rfl rfl rfl rfl) (own := [("_law_here", 7), ("_law_there", 8)]) (di_mx rfl rfl G.b_zip (da_cons (dv 2) (da_cons (dv 5) da_nil))) (blkOk_by (by kernel_rfl)) (fun s H C cl fp => (dgw_tup (n := 2) rfl rfl (dgsw_cons (dgwn 7 S.nd) (dgsw_cons (dgwn 8 S.nd) dgsw_nil)))) (fun s H C cl fp => dts_nil) (fun s H C cl fp => (de_call (C__law_plus.mono (by decide)) hr hG rfl (da_cons (dv 7) (da_cons (de_call (C__law_times.mono (by decide)) hr hG rfl (da_cons (dv 4) (da_cons (dv 8) da_nil))) da_nil)))))
  (dss_one (dset 3 S.nd (de_call (C__law_plus.mono (by decide)) hr hG rfl (da_cons (dv 3) (da_cons (de_call (C__law_times.mono (by decide)) hr hG rfl (da_cons (dv 4) (da_cons (dv 6) da_nil))) da_nil)))))))
  (dss_one (ds_ret (de_tup (da_cons (de_callTy call_tuple_of dc_tuple rfl G.b_tuple boot_tuple' (da_cons (dv 2) da_nil)) (da_cons (dv 3) da_nil)))))))
  exact ⟨fd, F, h2⟩
theorem ok__law_mixed (G : Gf K mg base) : Callee P w K mg base (WK K) 3 "_law_mixed" 2 m__law_mixed := by
  obtain ⟨fd, F, h⟩ := fn__law_mixed (P := P) (w := w) G
  exact callee_of (ps := ["_law_lot", "_law_weights"]) F h G.g__law_mixed fun _ _ _ _ _ _ us hl => match us, hl with | [_, _], _ => rfl
theorem S__law_are_weights : FnScope ["_law_lot", "_law_thing", "_law_each"] ["_law_lot", "_law_thing"] (defScope s__law_are_weights) := ⟨rfl, rfl, rfl, by decide +kernel, rfl, by decide +kernel, by decide +kernel⟩
theorem fn__law_are_weights (G : Gf K mg base) : ∃ fd, FunD K "_law_are_weights" "_law_are_weights" (defArgs s__law_are_weights) (defBody s__law_are_weights) (defScope s__law_are_weights) [] [] (He.fAd K ("_law_are_weights", none)) fd ∧ FnG P w K mg base 4 (He.fAd K ("_law_are_weights", none)) fd ["_law_lot", "_law_thing"] (spD (WK K) 2 m__law_are_weights) := by
  have C__law_is_row := ok__law_is_row (P := P) (w := w) G
  obtain ⟨fd, F⟩ := G.f__law_are_weights
  have S := S__law_are_weights
  have h := fn_D (P := P) (w := w) (mg := mg) (base := base) (W := WK K) (k := 3) (f := b__law_are_weights) F S
  have h2 : FnG P w K mg base 4 (He.fAd K ("_law_are_weights", none)) fd ["_law_lot", "_law_thing"] (spD (WK K) 2 m__law_are_weights) := by
    refine h ?_
    intro A outer s H E hr hG
    exact (dss_one (ds_ret (de_and (de_call (C__law_is_row.mono (by decide)) hr hG rfl (da_cons (dv 1) (da_cons (de_callB call_len dc_len rfl G.b_len boot_len' (da_cons (de_ix rfl (dv 0) de_int (fun _ _ => rfl)) da_nil)) da_nil))) (de_one (de_callB (cr_all rfl) dc_all rfl G.b_all boot_all' (da_cons (de_lc rfl S.nd (own := [("_law_each", 2)]) (di_seq rfl (dv 1)) (blkOk_by (by kernel_rfl)) (fun s H C cl fp => (dgwn 2 S.nd)) (fun s H C cl fp => dts_nil) (fun s H C cl fp => (de_cmp op_ge dop_ge (de_ix rfl (dv 2) de_int (fun _ _ => rfl)) de_int (nomark _)))) da_nil))))))
  exact ⟨fd, F, h2⟩
theorem ok__law_are_weights (G : Gf K mg base) : Callee P w K mg base (WK K) 4 "_law_are_weights" 2 m__law_are_weights := by
  obtain ⟨fd, F, h⟩ := fn__law_are_weights (P := P) (w := w) G
  exact callee_of (ps := ["_law_lot", "_law_thing"]) F h G.g__law_are_weights fun _ _ _ _ _ _ us hl => match us, hl with | [_, _], _ => rfl
theorem S__law_up_to : FnScope ["_law_one", "_law_two"] ["_law_one", "_law_two"] (defScope s__law_up_to) := ⟨rfl, rfl, rfl, by decide +kernel, rfl, by decide +kernel, by decide +kernel⟩
theorem fn__law_up_to (G : Gf K mg base) : ∃ fd, FunD K "_law_up_to" "_law_up_to" (defArgs s__law_up_to) (defBody s__law_up_to) (defScope s__law_up_to) [] [] (He.fAd K ("_law_up_to", none)) fd ∧ FnG P w K mg base 1 (He.fAd K ("_law_up_to", none)) fd ["_law_one", "_law_two"] (spD (WK K) 2 m__law_up_to) := by
  obtain ⟨fd, F⟩ := G.f__law_up_to
  have S := S__law_up_to
  have h := fn_D (P := P) (w := w) (mg := mg) (base := base) (W := WK K) (k := 0) (f := b__law_up_to) F S
  have h2 : FnG P w K mg base 1 (He.fAd K ("_law_up_to", none)) fd ["_law_one", "_law_two"] (spD (WK K) 2 m__law_up_to) := by
    refine h ?_
    intro A outer s H E hr hG
    exact (dss_one (ds_ret (de_cmp op_le dop_le (de_mul rfl (de_ix rfl (dv 0) de_int (fun _ _ => rfl)) (de_ix rfl (dv 1) de_int (fun _ _ => rfl))) (de_mul rfl (de_ix rfl (dv 1) de_int (fun _ _ => rfl)) (de_ix rfl (dv 0) de_int (fun _ _ => rfl))) (nomark _))))
  exact ⟨fd, F, h2⟩
theorem ok__law_up_to (G : Gf K mg base) : Callee P w K mg base (WK K) 1 "_law_up_to" 2 m__law_up_to := by
  obtain ⟨fd, F, h⟩ := fn__law_up_to (P := P) (w := w) G
  exact callee_of (ps := ["_law_one", "_law_two"]) F h G.g__law_up_to fun _ _ _ _ _ _ us hl => match us, hl with | [_, _], _ => rfl
theorem S__law_is_paper : FnScope ["_law_lot", "_law_row_here", "_law_bound", "_law_thing", "_law_both", "_law_most"] ["_law_lot", "_law_row_here", "_law_bound", "_law_thing"] (defScope s__law_is_paper) := ⟨rfl, rfl, rfl, by decide +kernel, rfl, by decide +kernel, by decide +kernel⟩
theorem fn__law_is_paper (G : Gf K mg base) : ∃ fd, FunD K "_law_is_paper" "_law_is_paper" (defArgs s__law_is_paper) (defBody s__law_is_paper) (defScope s__law_is_paper) [] [] (He.fAd K ("_law_is_paper", none)) fd ∧ FnG P w K mg base 5 (He.fAd K ("_law_is_paper", none)) fd ["_law_lot", "_law_row_here", "_law_bound", "_law_thing"] (spD (WK K) 4 m__law_is_paper) := by
  have C__law_are_weights := ok__law_are_weights (P := P) (w := w) G
  have C__law_mixed := ok__law_mixed (P := P) (w := w) G
  have C__law_up_to := ok__law_up_to (P := P) (w := w) G
  obtain ⟨fd, F⟩ := G.f__law_is_paper
  have S := S__law_is_paper
  have h := fn_D (P := P) (w := w) (mg := mg) (base := base) (W := WK K) (k := 4) (f := b__law_is_paper) F S
  have h2 : FnG P w K mg base 5 (He.fAd K ("_law_is_paper", none)) fd ["_law_lot", "_law_row_here", "_law_bound", "_law_thing"] (spD (WK K) 4 m__law_is_paper) := by
    refine h ?_
    intro A outer s H E hr hG
    exact (dss_cons (ds_if (dt_w (dw_or (dt_not (dt_val (de_isi .tup rfl rfl G.b_isinstance rfl G.b_tuple (dv 3)))) (dw_or (dt_cmp (op_neA hr.units) dop_ne (de_callB call_len dc_len rfl G.b_len boot_len' (da_cons (dv 3) da_nil)) de_int (nomark _)) (dw_or1 (dt_not (dt_val (de_isi .str rfl rfl G.b_isinstance rfl G.b_str (de_ix rfl (dv 3) de_int (fun _ _ => rfl)))))))))
  (dss_one (ds_ret de_bl)) dss_nil)
  (dss_cons (ds_if (dt_w (dw_or (dt_cmp op_notIn_seq (dop_inB true) (de_ix rfl (dv 3) de_int (fun _ _ => rfl)) (de_tup (da_cons de_str (da_cons de_str da_nil))) (by with_unfolding_all rfl)) (dw_or1 (dt_not (dt_val (de_call (C__law_are_weights.mono (by decide)) hr hG rfl (da_cons (dv 0) (da_cons (de_ix rfl (dv 3) de_int (fun _ _ => rfl)) da_nil))))))))
  (dss_one (ds_ret de_bl)) dss_nil)
  (dss_cons (ds_asg (de_call (C__law_mixed.mono (by decide)) hr hG rfl (da_cons (dv 0) (da_cons (de_ix rfl (dv 3) de_int (fun _ _ => rfl)) da_nil))) (dg_tup (n := 2) rfl rfl (dgs_cons (dgn 4 S.nd) (dgs_cons (dgn 5 S.nd) dgs_nil))))
  (dss_cons (ds_if (dt_cmp (op_eqA hr.units) dop_eq (de_ix rfl (dv 3) de_int (fun _ _ => rfl)) de_str (nomark _))
  (dss_one (ds_ret (de_and (de_cmp (op_eqA hr.units) dop_eq (dv 4) (dv 1) (nomark _)) (de_one (de_call (C__law_up_to.mono (by decide)) hr hG rfl (da_cons (dv 5) (da_cons (dv 2) da_nil))))))) dss_nil)
  (dss_one (ds_ret (de_and (de_cmp (op_eqA hr.units) dop_eq (dv 4) (de_mul rfl (de_tup (da_cons (de_tup (da_cons de_int (da_cons de_int da_nil))) da_nil)) (de_ix rfl (dv 0) de_int (fun _ _ => rfl))) (nomark _)) (de_one (de_cmp op_lt dop_lt (de_ix rfl (dv 5) de_int (fun _ _ => rfl)) de_int (nomark _))))))))))
  exact ⟨fd, F, h2⟩
theorem ok__law_is_paper (G : Gf K mg base) : Callee P w K mg base (WK K) 5 "_law_is_paper" 4 m__law_is_paper := by
  obtain ⟨fd, F, h⟩ := fn__law_is_paper (P := P) (w := w) G
  exact callee_of (ps := ["_law_lot", "_law_row_here", "_law_bound", "_law_thing"]) F h G.g__law_is_paper fun _ _ _ _ _ _ us hl => match us, hl with | [_, _, _, _], _ => rfl
theorem S__law_takes : FnScope ["_law_chart", "_law_thing", "_law_due", "_law_paper", "_law_lot", "_law_row_here", "_law_bound"] ["_law_chart", "_law_thing"] (defScope s__law_takes) := ⟨rfl, rfl, rfl, by decide +kernel, rfl, by decide +kernel, by decide +kernel⟩
theorem fn__law_takes (G : Gf K mg base) : ∃ fd, FunD K "_law_takes" "_law_takes" (defArgs s__law_takes) (defBody s__law_takes) (defScope s__law_takes) [] [] (He.fAd K ("_law_takes", none)) fd ∧ FnG P w K mg base 6 (He.fAd K ("_law_takes", none)) fd ["_law_chart", "_law_thing"] (spD (WK K) 2 m__law_takes) := by
  have C__law_is_paper := ok__law_is_paper (P := P) (w := w) G
  have C__law_is_table := ok__law_is_table (P := P) (w := w) G
  have C__law_wishes := ok__law_wishes (P := P) (w := w) G
  obtain ⟨fd, F⟩ := G.f__law_takes
  have S := S__law_takes
  have h := fn_D (P := P) (w := w) (mg := mg) (base := base) (W := WK K) (k := 5) (f := b__law_takes) F S
  have h2 : FnG P w K mg base 6 (He.fAd K ("_law_takes", none)) fd ["_law_chart", "_law_thing"] (spD (WK K) 2 m__law_takes) := by
    refine h ?_
    intro A outer s H E hr hG
    exact (dss_cons (ds_if (dt_w (dw_or (dt_not (dt_val (de_isi .tup rfl rfl G.b_isinstance rfl G.b_tuple (dv 1)))) (dw_or (dt_cmp (op_neA hr.units) dop_ne (de_callB call_len dc_len rfl G.b_len boot_len' (da_cons (dv 1) da_nil)) de_int (nomark _)) (dw_or1 (dt_not (dt_val (de_call (C__law_is_table.mono (by decide)) hr hG rfl (da_cons (dv 0) (da_cons (de_ix rfl (dv 1) de_int (fun _ _ => rfl)) da_nil)))))))))
  (dss_one (ds_ret de_bl)) dss_nil)
  (dss_cons (dset 2 S.nd (de_call (C__law_wishes.mono (by decide)) hr hG rfl (da_cons (dv 0) (da_cons (de_ix rfl (dv 1) de_int (fun _ _ => rfl)) da_nil))))
  (dss_cons (ds_if (dt_w (dw_or (dt_not (dt_val (de_isi .tup rfl rfl G.b_isinstance rfl G.b_tuple (de_ix rfl (dv 1) de_int (fun _ _ => rfl))))) (dw_or1 (dt_cmp (op_neA hr.units) dop_ne (de_callB call_len dc_len rfl G.b_len boot_len' (da_cons (de_ix rfl (dv 1) de_int (fun _ _ => rfl)) da_nil)) (de_callB call_len dc_len rfl G.b_len boot_len' (da_cons (dv 2) da_nil)) (nomark _)))))
  (dss_one (ds_ret de_bl)) dss_nil)
  (dss_one (ds_ret (de_callB (cr_all rfl) dc_all rfl G.b_all boot_all' (da_cons (de_lc rfl S.nd (own := [("_law_paper", 3), ("_law_lot", 4), ("_law_row_here", 5), ("_law_bound", 6)]) (di_mx rfl rfl G.b_zip (da_cons (dv 2) (da_cons (de_ix rfl (dv 1) de_int (fun _ _ => rfl)) da_nil))) (blkOk_by (by kernel_rfl)) (fun s H C cl fp => (dgw_tup (n := 2) rfl rfl (dgsw_cons (dgw_tup (n := 3) rfl rfl (dgsw_cons (dgwn 4 S.nd) (dgsw_cons (dgwn 5 S.nd) (dgsw_cons (dgwn 6 S.nd) dgsw_nil)))) (dgsw_cons (dgwn 3 S.nd) dgsw_nil)))) (fun s H C cl fp => dts_nil) (fun s H C cl fp => (de_call (C__law_is_paper.mono (by decide)) hr hG rfl (da_cons (dv 4) (da_cons (dv 5) (da_cons (dv 6) (da_cons (dv 3) da_nil))))))) da_nil)))))))
  exact ⟨fd, F, h2⟩
theorem ok__law_takes (G : Gf K mg base) : Callee P w K mg base (WK K) 6 "_law_takes" 2 m__law_takes := by
  obtain ⟨fd, F, h⟩ := fn__law_takes (P := P) (w := w) G
  exact callee_of (ps := ["_law_chart", "_law_thing"]) F h G.g__law_takes fun _ _ _ _ _ _ us hl => match us, hl with | [_, _], _ => rfl
theorem S_is_tuple_of : FnScope ["value", "least", "most"] ["value", "least", "most"] (defScope s_is_tuple_of) := ⟨rfl, rfl, rfl, by decide +kernel, rfl, by decide +kernel, by decide +kernel⟩
theorem fn_is_tuple_of (G : Gf K mg base) : ∃ fd, FunD K "is_tuple_of" "is_tuple_of" (defArgs s_is_tuple_of) (defBody s_is_tuple_of) (defScope s_is_tuple_of) [] [] (He.fAd K ("is_tuple_of", none)) fd ∧ FnG P w K mg base 1 (He.fAd K ("is_tuple_of", none)) fd ["value", "least", "most"] (spD (WK K) 3 m_is_tuple_of) := by
  obtain ⟨fd, F⟩ := G.f_is_tuple_of
  have S := S_is_tuple_of
  have h := fn_D (P := P) (w := w) (mg := mg) (base := base) (W := WK K) (k := 0) (f := b_is_tuple_of) F S
  have h2 : FnG P w K mg base 1 (He.fAd K ("is_tuple_of", none)) fd ["value", "least", "most"] (spD (WK K) 3 m_is_tuple_of) := by
    refine h ?_
    intro A outer s H E hr hG
    exact (dss_one (ds_ret (de_and (de_isi .tup rfl rfl G.b_isinstance rfl G.b_tuple (dv 0)) (de_one (de_chain op_le op_le dop_le dop_le (dv 1) (de_callB call_len dc_len rfl G.b_len boot_len' (da_cons (dv 0) da_nil)) (dv 2))))))
  exact ⟨fd, F, h2⟩
theorem ok_is_tuple_of (G : Gf K mg base) : Callee P w K mg base (WK K) 1 "is_tuple_of" 3 m_is_tuple_of := by
  obtain ⟨fd, F, h⟩ := fn_is_tuple_of (P := P) (w := w) G
  exact callee_of (ps := ["value", "least", "most"]) F h G.g_is_tuple_of fun _ _ _ _ _ _ us hl => match us, hl with | [_, _, _], _ => rfl
theorem S_is_whole : FnScope ["value"] ["value"] (defScope s_is_whole) := ⟨rfl, rfl, rfl, by decide +kernel, rfl, by decide +kernel, by decide +kernel⟩
theorem fn_is_whole (G : Gf K mg base) : ∃ fd, FunD K "is_whole" "is_whole" (defArgs s_is_whole) (defBody s_is_whole) (defScope s_is_whole) [] [] (He.fAd K ("is_whole", none)) fd ∧ FnG P w K mg base 1 (He.fAd K ("is_whole", none)) fd ["value"] (spD (WK K) 1 m_is_whole) := by
  obtain ⟨fd, F⟩ := G.f_is_whole
  have S := S_is_whole
  have h := fn_D (P := P) (w := w) (mg := mg) (base := base) (W := WK K) (k := 0) (f := b_is_whole) F S
  have h2 : FnG P w K mg base 1 (He.fAd K ("is_whole", none)) fd ["value"] (spD (WK K) 1 m_is_whole) := by
    refine h ?_
    intro A outer s H E hr hG
    exact (dss_one (ds_ret (de_and (de_isi .int rfl rfl G.b_isinstance rfl G.b_int (dv 0)) (de_one (de_not (de_isi .bool rfl rfl G.b_isinstance rfl G.b_bool (dv 0)))))))
  exact ⟨fd, F, h2⟩
theorem ok_is_whole (G : Gf K mg base) : Callee P w K mg base (WK K) 1 "is_whole" 1 m_is_whole := by
  obtain ⟨fd, F, h⟩ := fn_is_whole (P := P) (w := w) G
  exact callee_of (ps := ["value"]) F h G.g_is_whole fun _ _ _ _ _ _ us hl => match us, hl with | [_], _ => rfl
theorem S_is_whole_from : FnScope ["value", "low", "high"] ["value", "low", "high"] (defScope s_is_whole_from) := ⟨rfl, rfl, rfl, by decide +kernel, rfl, by decide +kernel, by decide +kernel⟩
theorem fn_is_whole_from (G : Gf K mg base) : ∃ fd, FunD K "is_whole_from" "is_whole_from" (defArgs s_is_whole_from) (defBody s_is_whole_from) (defScope s_is_whole_from) [] [] (He.fAd K ("is_whole_from", none)) fd ∧ FnG P w K mg base 2 (He.fAd K ("is_whole_from", none)) fd ["value", "low", "high"] (spD (WK K) 3 m_is_whole_from) := by
  have C_is_whole := ok_is_whole (P := P) (w := w) G
  obtain ⟨fd, F⟩ := G.f_is_whole_from
  have S := S_is_whole_from
  have h := fn_D (P := P) (w := w) (mg := mg) (base := base) (W := WK K) (k := 1) (f := b_is_whole_from) F S
  have h2 : FnG P w K mg base 2 (He.fAd K ("is_whole_from", none)) fd ["value", "low", "high"] (spD (WK K) 3 m_is_whole_from) := by
    refine h ?_
    intro A outer s H E hr hG
    exact (dss_one (ds_ret (de_and (de_call (C_is_whole.mono (by decide)) hr hG rfl (da_cons (dv 0) da_nil)) (de_one (de_chain op_le op_le dop_le dop_le (dv 1) (dv 0) (dv 2))))))
  exact ⟨fd, F, h2⟩
theorem ok_is_whole_from (G : Gf K mg base) : Callee P w K mg base (WK K) 2 "is_whole_from" 3 m_is_whole_from := by
  obtain ⟨fd, F, h⟩ := fn_is_whole_from (P := P) (w := w) G
  exact callee_of (ps := ["value", "low", "high"]) F h G.g_is_whole_from fun _ _ _ _ _ _ us hl => match us, hl with | [_, _, _], _ => rfl
theorem S_is_index : FnScope ["value", "many"] ["value", "many"] (defScope s_is_index) := ⟨rfl, rfl, rfl, by decide +kernel, rfl, by decide +kernel, by decide +kernel⟩
theorem fn_is_index (G : Gf K mg base) : ∃ fd, FunD K "is_index" "is_index" (defArgs s_is_index) (defBody s_is_index) (defScope s_is_index) [] [] (He.fAd K ("is_index", none)) fd ∧ FnG P w K mg base 2 (He.fAd K ("is_index", none)) fd ["value", "many"] (spD (WK K) 2 m_is_index) := by
  have C_is_whole := ok_is_whole (P := P) (w := w) G
  obtain ⟨fd, F⟩ := G.f_is_index
  have S := S_is_index
  have h := fn_D (P := P) (w := w) (mg := mg) (base := base) (W := WK K) (k := 1) (f := b_is_index) F S
  have h2 : FnG P w K mg base 2 (He.fAd K ("is_index", none)) fd ["value", "many"] (spD (WK K) 2 m_is_index) := by
    refine h ?_
    intro A outer s H E hr hG
    exact (dss_one (ds_ret (de_and (de_call (C_is_whole.mono (by decide)) hr hG rfl (da_cons (dv 0) da_nil)) (de_one (de_chain op_le op_lt dop_le dop_lt de_int (dv 0) (dv 1))))))
  exact ⟨fd, F, h2⟩
theorem ok_is_index (G : Gf K mg base) : Callee P w K mg base (WK K) 2 "is_index" 2 m_is_index := by
  obtain ⟨fd, F, h⟩ := fn_is_index (P := P) (w := w) G
  exact callee_of (ps := ["value", "many"]) F h G.g_is_index fun _ _ _ _ _ _ us hl => match us, hl with | [_, _], _ => rfl
theorem S_is_fraction : FnScope ["value"] ["value"] (defScope s_is_fraction) := ⟨rfl, rfl, rfl, by decide +kernel, rfl, by decide +kernel, by decide +kernel⟩
theorem fn_is_fraction (G : Gf K mg base) : ∃ fd, FunD K "is_fraction" "is_fraction" (defArgs s_is_fraction) (defBody s_is_fraction) (defScope s_is_fraction) [] [] (He.fAd K ("is_fraction", none)) fd ∧ FnG P w K mg base 2 (He.fAd K ("is_fraction", none)) fd ["value"] (spD (WK K) 1 m_is_fraction) := by
  have C_is_tuple_of := ok_is_tuple_of (P := P) (w := w) G
  have C_is_whole := ok_is_whole (P := P) (w := w) G
  obtain ⟨fd, F⟩ := G.f_is_fraction
  have S := S_is_fraction
  have h := fn_D (P := P) (w := w) (mg := mg) (base := base) (W := WK K) (k := 1) (f := b_is_fraction) F S
  have h2 : FnG P w K mg base 2 (He.fAd K ("is_fraction", none)) fd ["value"] (spD (WK K) 1 m_is_fraction) := by
    refine h ?_
    intro A outer s H E hr hG
    exact (dss_cons (ds_if (dt_w (dw_or (dt_not (dt_val (de_call (C_is_tuple_of.mono (by decide)) hr hG rfl (da_cons (dv 0) (da_cons de_int (da_cons de_int da_nil)))))) (dw_or (dt_not (dt_val (de_call (C_is_whole.mono (by decide)) hr hG rfl (da_cons (de_ix rfl (dv 0) de_int (fun _ _ => rfl)) da_nil)))) (dw_or1 (dt_not (dt_val (de_call (C_is_whole.mono (by decide)) hr hG rfl (da_cons (de_ix rfl (dv 0) de_int (fun _ _ => rfl)) da_nil))))))))
  (dss_one (ds_ret de_bl)) dss_nil)
  (dss_one (ds_ret (de_and (de_cmp op_gt dop_gt (de_ix rfl (dv 0) de_int (fun _ _ => rfl)) de_int (nomark _)) (de_one (de_cmp (op_eqA hr.units) dop_eq (de_callBf cr_gcd dc_gcd rfl G.gcd (da_cons (de_ix rfl (dv 0) de_int (fun _ _ => rfl)) (da_cons (de_ix rfl (dv 0) de_int (fun _ _ => rfl)) da_nil))) de_int (nomark _)))))))
  exact ⟨fd, F, h2⟩
theorem ok_is_fraction (G : Gf K mg base) : Callee P w K mg base (WK K) 2 "is_fraction" 1 m_is_fraction := by
  obtain ⟨fd, F, h⟩ := fn_is_fraction (P := P) (w := w) G
  exact callee_of (ps := ["value"]) F h G.g_is_fraction fun _ _ _ _ _ _ us hl => match us, hl with | [_], _ => rfl
theorem S_is_row_of : FnScope ["size", "value", "number"] ["size", "value"] (defScope s_is_row_of) := ⟨rfl, rfl, rfl, by decide +kernel, rfl, by decide +kernel, by decide +kernel⟩
theorem fn_is_row_of (G : Gf K mg base) : ∃ fd, FunD K "is_row_of" "is_row_of" (defArgs s_is_row_of) (defBody s_is_row_of) (defScope s_is_row_of) [] [] (He.fAd K ("is_row_of", none)) fd ∧ FnG P w K mg base 7 (He.fAd K ("is_row_of", none)) fd ["size", "value"] (spD (WK K) 2 m_is_row_of) := by
  have C_is_fraction := ok_is_fraction (P := P) (w := w) G
  obtain ⟨fd, F⟩ := G.f_is_row_of
  have S := S_is_row_of
  have h := fn_D (P := P) (w := w) (mg := mg) (base := base) (W := WK K) (k := 6) (f := b_is_row_of) F S
  have h2 : FnG P w K mg base 7 (He.fAd K ("is_row_of", none)) fd ["size", "value"] (spD (WK K) 2 m_is_row_of) := by
    refine h ?_
    intro A outer s H E hr hG
    exact (dss_cons (ds_if (dt_w (dw_or (dt_not (dt_val (de_isi .tup rfl rfl G.b_isinstance rfl G.b_tuple (dv 1)))) (dw_or1 (dt_cmp (op_neA hr.units) dop_ne (de_callB call_len dc_len rfl G.b_len boot_len' (da_cons (dv 1) da_nil)) (dv 0) (nomark _)))))
  (dss_one (ds_ret de_bl)) dss_nil)
  (dss_one (ds_ret (de_allG (k := 2) (own := [("number", 2)]) (by exact hr) rfl S.nd rfl G.b_all (List.mem_map.mpr ⟨("is_row_of", none), by simp [tf], rfl⟩) G.t_is_row_of rfl (di_seq rfl (dv 1)) (blkOk_by (by kernel_rfl)) rfl (by decide +kernel) rfl (fun s H C cl code fp pn => (dgwn 2 S.nd)) (fun s H C cl code fp pn hr' => (de_call (C_is_fraction.mono (by decide)) hr' hG rfl (da_cons (dv 2) da_nil)))))))
  exact ⟨fd, F, h2⟩
theorem ok_is_row_of (G : Gf K mg base) : Callee P w K mg base (WK K) 7 "is_row_of" 2 m_is_row_of := by
  obtain ⟨fd, F, h⟩ := fn_is_row_of (P := P) (w := w) G
  exact callee_of (ps := ["size", "value"]) F h G.g_is_row_of fun _ _ _ _ _ _ us hl => match us, hl with | [_, _], _ => rfl
theorem S_is_wish : FnScope ["size", "value"] ["size", "value"] (defScope s_is_wish) := ⟨rfl, rfl, rfl, by decide +kernel, rfl, by decide +kernel, by decide +kernel⟩
theorem fn_is_wish (G : Gf K mg base) : ∃ fd, FunD K "is_wish" "is_wish" (defArgs s_is_wish) (defBody s_is_wish) (defScope s_is_wish) [] [] (He.fAd K ("is_wish", none)) fd ∧ FnG P w K mg base 8 (He.fAd K ("is_wish", none)) fd ["size", "value"] (spD (WK K) 2 m_is_wish) := by
  have C_is_fraction := ok_is_fraction (P := P) (w := w) G
  have C_is_row_of := ok_is_row_of (P := P) (w := w) G
  have C_is_tuple_of := ok_is_tuple_of (P := P) (w := w) G
  obtain ⟨fd, F⟩ := G.f_is_wish
  have S := S_is_wish
  have h := fn_D (P := P) (w := w) (mg := mg) (base := base) (W := WK K) (k := 7) (f := b_is_wish) F S
  have h2 : FnG P w K mg base 8 (He.fAd K ("is_wish", none)) fd ["size", "value"] (spD (WK K) 2 m_is_wish) := by
    refine h ?_
    intro A outer s H E hr hG
    exact (dss_one (ds_ret (de_and (de_call (C_is_tuple_of.mono (by decide)) hr hG rfl (da_cons (dv 1) (da_cons de_int (da_cons de_int da_nil)))) (de_and (de_call (C_is_row_of.mono (by decide)) hr hG rfl (da_cons (dv 0) (da_cons (de_ix rfl (dv 1) de_int (fun _ _ => rfl)) da_nil))) (de_one (de_call (C_is_fraction.mono (by decide)) hr hG rfl (da_cons (de_ix rfl (dv 1) de_int (fun _ _ => rfl)) da_nil)))))))
  exact ⟨fd, F, h2⟩
theorem ok_is_wish (G : Gf K mg base) : Callee P w K mg base (WK K) 8 "is_wish" 2 m_is_wish := by
  obtain ⟨fd, F, h⟩ := fn_is_wish (P := P) (w := w) G
  exact callee_of (ps := ["size", "value"]) F h G.g_is_wish fun _ _ _ _ _ _ us hl => match us, hl with | [_, _], _ => rfl
theorem S_is_lot : FnScope ["value", "wish"] ["value"] (defScope s_is_lot) := ⟨rfl, rfl, rfl, by decide +kernel, rfl, by decide +kernel, by decide +kernel⟩
theorem fn_is_lot (G : Gf K mg base) : ∃ fd, FunD K "is_lot" "is_lot" (defArgs s_is_lot) (defBody s_is_lot) (defScope s_is_lot) [] [] (He.fAd K ("is_lot", none)) fd ∧ FnG P w K mg base 13 (He.fAd K ("is_lot", none)) fd ["value"] (spD (WK K) 1 m_is_lot) := by
  have C_is_tuple_of := ok_is_tuple_of (P := P) (w := w) G
  have C_is_whole_from := ok_is_whole_from (P := P) (w := w) G
  have C_is_wish := ok_is_wish (P := P) (w := w) G
  obtain ⟨fd, F⟩ := G.f_is_lot
  have S := S_is_lot
  have h := fn_D (P := P) (w := w) (mg := mg) (base := base) (W := WK K) (k := 12) (f := b_is_lot) F S
  have h2 : FnG P w K mg base 13 (He.fAd K ("is_lot", none)) fd ["value"] (spD (WK K) 1 m_is_lot) := by
    refine h ?_
    intro A outer s H E hr hG
    exact (dss_cons (ds_if (dt_w (dw_or (dt_not (dt_val (de_call (C_is_tuple_of.mono (by decide)) hr hG rfl (da_cons (dv 0) (da_cons de_int (da_cons de_int da_nil)))))) (dw_or (dt_not (dt_val (de_call (C_is_whole_from.mono (by decide)) hr hG rfl (da_cons (de_ix rfl (dv 0) de_int (fun _ _ => rfl)) (da_cons de_int (da_cons de_int da_nil)))))) (dw_or1 (dt_not (dt_val (de_call (C_is_tuple_of.mono (by decide)) hr hG rfl (da_cons (de_ix rfl (dv 0) de_int (fun _ _ => rfl)) (da_cons de_int (da_cons de_int da_nil))))))))))
  (dss_one (ds_ret de_bl)) dss_nil)
  (dss_one (ds_ret (de_allG (k := 8) (own := [("wish", 1)]) (by exact hr) rfl S.nd rfl G.b_all (List.mem_map.mpr ⟨("is_lot", none), by simp [tf], rfl⟩) G.t_is_lot rfl (di_seq rfl (de_ix rfl (dv 0) de_int (fun _ _ => rfl))) (blkOk_by (by kernel_rfl)) rfl (by decide +kernel) rfl (fun s H C cl code fp pn => (dgwn 1 S.nd)) (fun s H C cl code fp pn hr' => (de_call (C_is_wish.mono (by decide)) hr' hG rfl (da_cons (de_ix rfl (dv 0) de_int (fun _ _ => rfl)) (da_cons (dv 1) da_nil))))))))
  exact ⟨fd, F, h2⟩
theorem ok_is_lot (G : Gf K mg base) : Callee P w K mg base (WK K) 13 "is_lot" 1 m_is_lot := by
  obtain ⟨fd, F, h⟩ := fn_is_lot (P := P) (w := w) G
  exact callee_of (ps := ["value"]) F h G.g_is_lot fun _ _ _ _ _ _ us hl => match us, hl with | [_], _ => rfl
theorem S_is_small_lot : FnScope ["size", "value"] ["size", "value"] (defScope s_is_small_lot) := ⟨rfl, rfl, rfl, by decide +kernel, rfl, by decide +kernel, by decide +kernel⟩
theorem fn_is_small_lot (G : Gf K mg base) : ∃ fd, FunD K "is_small_lot" "is_small_lot" (defArgs s_is_small_lot) (defBody s_is_small_lot) (defScope s_is_small_lot) [] [] (He.fAd K ("is_small_lot", none)) fd ∧ FnG P w K mg base 14 (He.fAd K ("is_small_lot", none)) fd ["size", "value"] (spD (WK K) 2 m_is_small_lot) := by
  have C_is_lot := ok_is_lot (P := P) (w := w) G
  obtain ⟨fd, F⟩ := G.f_is_small_lot
  have S := S_is_small_lot
  have h := fn_D (P := P) (w := w) (mg := mg) (base := base) (W := WK K) (k := 13) (f := b_is_small_lot) F S
  have h2 : FnG P w K mg base 14 (He.fAd K ("is_small_lot", none)) fd ["size", "value"] (spD (WK K) 2 m_is_small_lot) := by
    refine h ?_
    intro A outer s H E hr hG
    exact (dss_one (ds_ret (de_and (de_call (C_is_lot.mono (by decide)) hr hG rfl (da_cons (dv 1) da_nil)) (de_and (de_cmp (op_eqA hr.units) dop_eq (de_ix rfl (dv 1) de_int (fun _ _ => rfl)) (dv 0) (nomark _)) (de_one (de_cmp op_le dop_le (de_callB call_len dc_len rfl G.b_len boot_len' (da_cons (de_ix rfl (dv 1) de_int (fun _ _ => rfl)) da_nil)) de_int (nomark _)))))))
  exact ⟨fd, F, h2⟩
theorem ok_is_small_lot (G : Gf K mg base) : Callee P w K mg base (WK K) 14 "is_small_lot" 2 m_is_small_lot := by
  obtain ⟨fd, F, h⟩ := fn_is_small_lot (P := P) (w := w) G
  exact callee_of (ps := ["size", "value"]) F h G.g_is_small_lot fun _ _ _ _ _ _ us hl => match us, hl with | [_, _], _ => rfl
theorem S_is_start : FnScope ["size", "places", "value"] ["size", "places", "value"] (defScope s_is_start) := ⟨rfl, rfl, rfl, by decide +kernel, rfl, by decide +kernel, by decide +kernel⟩
theorem fn_is_start (G : Gf K mg base) : ∃ fd, FunD K "is_start" "is_start" (defArgs s_is_start) (defBody s_is_start) (defScope s_is_start) [] [] (He.fAd K ("is_start", none)) fd ∧ FnG P w K mg base 15 (He.fAd K ("is_start", none)) fd ["size", "places", "value"] (spD (WK K) 3 m_is_start) := by
  have C_is_index := ok_is_index (P := P) (w := w) G
  have C_is_small_lot := ok_is_small_lot (P := P) (w := w) G
  have C_is_tuple_of := ok_is_tuple_of (P := P) (w := w) G
  obtain ⟨fd, F⟩ := G.f_is_start
  have S := S_is_start
  have h := fn_D (P := P) (w := w) (mg := mg) (base := base) (W := WK K) (k := 14) (f := b_is_start) F S
  have h2 : FnG P w K mg base 15 (He.fAd K ("is_start", none)) fd ["size", "places", "value"] (spD (WK K) 3 m_is_start) := by
    refine h ?_
    intro A outer s H E hr hG
    exact (dss_one (ds_ret (de_and (de_call (C_is_tuple_of.mono (by decide)) hr hG rfl (da_cons (dv 2) (da_cons de_int (da_cons de_int da_nil)))) (de_and (de_call (C_is_index.mono (by decide)) hr hG rfl (da_cons (de_ix rfl (dv 2) de_int (fun _ _ => rfl)) (da_cons (dv 1) da_nil))) (de_one (de_call (C_is_small_lot.mono (by decide)) hr hG rfl (da_cons (dv 0) (da_cons (de_ix rfl (dv 2) de_int (fun _ _ => rfl)) da_nil))))))))
  exact ⟨fd, F, h2⟩
theorem ok_is_start (G : Gf K mg base) : Callee P w K mg base (WK K) 15 "is_start" 3 m_is_start := by
  obtain ⟨fd, F, h⟩ := fn_is_start (P := P) (w := w) G
  exact callee_of (ps := ["size", "places", "value"]) F h G.g_is_start fun _ _ _ _ _ _ us hl => match us, hl with | [_, _, _], _ => rfl
theorem S_is_move : FnScope ["width", "value"] ["width", "value"] (defScope s_is_move) := ⟨rfl, rfl, rfl, by decide +kernel, rfl, by decide +kernel, by decide +kernel⟩
theorem fn_is_move (G : Gf K mg base) : ∃ fd, FunD K "is_move" "is_move" (defArgs s_is_move) (defBody s_is_move) (defScope s_is_move) [] [] (He.fAd K ("is_move", none)) fd ∧ FnG P w K mg base 8 (He.fAd K ("is_move", none)) fd ["width", "value"] (spD (WK K) 2 m_is_move) := by
  have C_is_fraction := ok_is_fraction (P := P) (w := w) G
  have C_is_row_of := ok_is_row_of (P := P) (w := w) G
  have C_is_tuple_of := ok_is_tuple_of (P := P) (w := w) G
  obtain ⟨fd, F⟩ := G.f_is_move
  have S := S_is_move
  have h := fn_D (P := P) (w := w) (mg := mg) (base := base) (W := WK K) (k := 7) (f := b_is_move) F S
  have h2 : FnG P w K mg base 8 (He.fAd K ("is_move", none)) fd ["width", "value"] (spD (WK K) 2 m_is_move) := by
    refine h ?_
    intro A outer s H E hr hG
    exact (dss_one (ds_ret (de_and (de_call (C_is_tuple_of.mono (by decide)) hr hG rfl (da_cons (dv 1) (da_cons de_int (da_cons de_int da_nil)))) (de_and (de_call (C_is_row_of.mono (by decide)) hr hG rfl (da_cons (dv 0) (da_cons (de_ix rfl (dv 1) de_int (fun _ _ => rfl)) da_nil))) (de_one (de_call (C_is_fraction.mono (by decide)) hr hG rfl (da_cons (de_ix rfl (dv 1) de_int (fun _ _ => rfl)) da_nil)))))))
  exact ⟨fd, F, h2⟩
theorem ok_is_move (G : Gf K mg base) : Callee P w K mg base (WK K) 8 "is_move" 2 m_is_move := by
  obtain ⟨fd, F, h⟩ := fn_is_move (P := P) (w := w) G
  exact callee_of (ps := ["width", "value"]) F h G.g_is_move fun _ _ _ _ _ _ us hl => match us, hl with | [_, _], _ => rfl
theorem S_is_map : FnScope ["size", "coming", "value", "move"] ["size", "coming", "value"] (defScope s_is_map) := ⟨rfl, rfl, rfl, by decide +kernel, rfl, by decide +kernel, by decide +kernel⟩
theorem fn_is_map (G : Gf K mg base) : ∃ fd, FunD K "is_map" "is_map" (defArgs s_is_map) (defBody s_is_map) (defScope s_is_map) [] [] (He.fAd K ("is_map", none)) fd ∧ FnG P w K mg base 13 (He.fAd K ("is_map", none)) fd ["size", "coming", "value"] (spD (WK K) 3 m_is_map) := by
  have C_is_move := ok_is_move (P := P) (w := w) G
  have C_is_tuple_of := ok_is_tuple_of (P := P) (w := w) G
  obtain ⟨fd, F⟩ := G.f_is_map
  have S := S_is_map
  have h := fn_D (P := P) (w := w) (mg := mg) (base := base) (W := WK K) (k := 12) (f := b_is_map) F S
  have h2 : FnG P w K mg base 13 (He.fAd K ("is_map", none)) fd ["size", "coming", "value"] (spD (WK K) 3 m_is_map) := by
    refine h ?_
    intro A outer s H E hr hG
    exact (dss_one (ds_ret (de_and (de_call (C_is_tuple_of.mono (by decide)) hr hG rfl (da_cons (dv 2) (da_cons (dv 0) (da_cons (dv 0) da_nil)))) (de_one (de_allG (k := 8) (own := [("move", 3)]) (by exact hr) rfl S.nd rfl G.b_all (List.mem_map.mpr ⟨("is_map", none), by simp [tf], rfl⟩) G.t_is_map rfl (di_seq rfl (dv 2)) (blkOk_by (by kernel_rfl)) rfl (by decide +kernel) rfl (fun s H C cl code fp pn => (dgwn 3 S.nd)) (fun s H C cl code fp pn hr' => (de_call (C_is_move.mono (by decide)) hr' hG rfl (da_cons (de_add rfl (dv 0) (dv 1)) (da_cons (dv 3) da_nil)))))))))
  exact ⟨fd, F, h2⟩
theorem ok_is_map (G : Gf K mg base) : Callee P w K mg base (WK K) 13 "is_map" 3 m_is_map := by
  obtain ⟨fd, F, h⟩ := fn_is_map (P := P) (w := w) G
  exact callee_of (ps := ["size", "coming", "value"]) F h G.g_is_map fun _ _ _ _ _ _ us hl => match us, hl with | [_, _, _], _ => rfl
theorem S_is_case : FnScope ["size", "coming", "places", "value"] ["size", "coming", "places", "value"] (defScope s_is_case) := ⟨rfl, rfl, rfl, by decide +kernel, rfl, by decide +kernel, by decide +kernel⟩
theorem fn_is_case (G : Gf K mg base) : ∃ fd, FunD K "is_case" "is_case" (defArgs s_is_case) (defBody s_is_case) (defScope s_is_case) [] [] (He.fAd K ("is_case", none)) fd ∧ FnG P w K mg base 15 (He.fAd K ("is_case", none)) fd ["size", "coming", "places", "value"] (spD (WK K) 4 m_is_case) := by
  have C_is_index := ok_is_index (P := P) (w := w) G
  have C_is_map := ok_is_map (P := P) (w := w) G
  have C_is_small_lot := ok_is_small_lot (P := P) (w := w) G
  have C_is_tuple_of := ok_is_tuple_of (P := P) (w := w) G
  obtain ⟨fd, F⟩ := G.f_is_case
  have S := S_is_case
  have h := fn_D (P := P) (w := w) (mg := mg) (base := base) (W := WK K) (k := 14) (f := b_is_case) F S
  have h2 : FnG P w K mg base 15 (He.fAd K ("is_case", none)) fd ["size", "coming", "places", "value"] (spD (WK K) 4 m_is_case) := by
    refine h ?_
    intro A outer s H E hr hG
    exact (dss_cons (ds_if (dt_w (dw_or (dt_not (dt_val (de_call (C_is_tuple_of.mono (by decide)) hr hG rfl (da_cons (dv 3) (da_cons de_int (da_cons de_int da_nil)))))) (dw_or (dt_not (dt_val (de_call (C_is_index.mono (by decide)) hr hG rfl (da_cons (de_ix rfl (dv 3) de_int (fun _ _ => rfl)) (da_cons (dv 2) da_nil))))) (dw_or1 (dt_not (dt_val (de_call (C_is_index.mono (by decide)) hr hG rfl (da_cons (de_ix rfl (dv 3) de_int (fun _ _ => rfl)) (da_cons (dv 2) da_nil)))))))))
  (dss_one (ds_ret de_bl)) dss_nil)
  (dss_one (ds_ret (de_and (de_call (C_is_small_lot.mono (by decide)) hr hG rfl (da_cons (de_add rfl (dv 0) (dv 1)) (da_cons (de_ix rfl (dv 3) de_int (fun _ _ => rfl)) da_nil))) (de_one (de_call (C_is_map.mono (by decide)) hr hG rfl (da_cons (dv 0) (da_cons (dv 1) (da_cons (de_ix rfl (dv 3) de_int (fun _ _ => rfl)) da_nil)))))))))
  exact ⟨fd, F, h2⟩
theorem ok_is_case (G : Gf K mg base) : Callee P w K mg base (WK K) 15 "is_case" 4 m_is_case := by
  obtain ⟨fd, F, h⟩ := fn_is_case (P := P) (w := w) G
  exact callee_of (ps := ["size", "coming", "places", "value"]) F h G.g_is_case fun _ _ _ _ _ _ us hl => match us, hl with | [_, _, _, _], _ => rfl
theorem S_is_chart : FnScope ["value", "places", "size", "coming", "starts", "cases", "safes", "start", "case", "safe"] ["value"] (defScope s_is_chart) := ⟨rfl, rfl, rfl, by decide +kernel, rfl, by decide +kernel, by decide +kernel⟩
theorem fn_is_chart (G : Gf K mg base) : ∃ fd, FunD K "is_chart" "is_chart" (defArgs s_is_chart) (defBody s_is_chart) (defScope s_is_chart) [] [] (He.fAd K ("is_chart", none)) fd ∧ FnG P w K mg base 20 (He.fAd K ("is_chart", none)) fd ["value"] (spD (WK K) 1 m_is_chart) := by
  have C_is_case := ok_is_case (P := P) (w := w) G
  have C_is_small_lot := ok_is_small_lot (P := P) (w := w) G
  have C_is_start := ok_is_start (P := P) (w := w) G
  have C_is_tuple_of := ok_is_tuple_of (P := P) (w := w) G
  have C_is_whole_from := ok_is_whole_from (P := P) (w := w) G
  obtain ⟨fd, F⟩ := G.f_is_chart
  have S := S_is_chart
  have h := fn_D (P := P) (w := w) (mg := mg) (base := base) (W := WK K) (k := 19) (f := b_is_chart) F S
  have h2 : FnG P w K mg base 20 (He.fAd K ("is_chart", none)) fd ["value"] (spD (WK K) 1 m_is_chart) := by
    refine h ?_
    intro A outer s H E hr hG
    exact (dss_cons (ds_if (dt_not (dt_val (de_call (C_is_tuple_of.mono (by decide)) hr hG rfl (da_cons (dv 0) (da_cons de_int (da_cons de_int da_nil))))))
  (dss_one (ds_ret de_bl)) dss_nil)
  (dss_cons (ds_asg (dv 0) (dg_tup (n := 5) rfl rfl (dgs_cons (dgn 2 S.nd) (dgs_cons (dgn 3 S.nd) (dgs_cons (dgn 4 S.nd) (dgs_cons (dgn 5 S.nd) (dgs_cons (dgn 6 S.nd) dgs_nil)))))))
  (dss_cons (ds_if (dt_w (dw_or (dt_not (dt_val (de_call (C_is_whole_from.mono (by decide)) hr hG rfl (da_cons (dv 2) (da_cons de_int (da_cons de_int da_nil)))))) (dw_or (dt_not (dt_val (de_call (C_is_whole_from.mono (by decide)) hr hG rfl (da_cons (dv 3) (da_cons de_int (da_cons de_int da_nil)))))) (dw_or1 (dt_cmp op_gt dop_gt (de_add rfl (dv 2) (dv 3)) de_int (nomark _))))))
  (dss_one (ds_ret de_bl)) dss_nil)
  (dss_cons (ds_if (dt_w (dw_or (dt_not (dt_val (de_call (C_is_tuple_of.mono (by decide)) hr hG rfl (da_cons (dv 4) (da_cons de_int (da_cons de_int da_nil)))))) (dw_or (dt_not (dt_val (de_call (C_is_tuple_of.mono (by decide)) hr hG rfl (da_cons (dv 5) (da_cons de_int (da_cons de_int da_nil)))))) (dw_or1 (dt_not (dt_val (de_call (C_is_tuple_of.mono (by decide)) hr hG rfl (da_cons (dv 6) (da_cons de_int (da_cons de_int da_nil))))))))))
  (dss_one (ds_ret de_bl)) dss_nil)
  (dss_cons (dset 1 S.nd (de_callB call_len dc_len rfl G.b_len boot_len' (da_cons (dv 6) da_nil)))
  (dss_one (ds_ret (de_and (de_allG (k := 15) (own := [("start", 7)]) (by exact hr) rfl S.nd rfl G.b_all (List.mem_map.mpr ⟨("is_chart", none), by simp [tf], rfl⟩) G.t_is_chart rfl (di_seq rfl (dv 4)) (blkOk_by (by kernel_rfl)) rfl (by decide +kernel) rfl (fun s H C cl code fp pn => (dgwn 7 S.nd)) (fun s H C cl code fp pn hr' => (de_call (C_is_start.mono (by decide)) hr' hG rfl (da_cons (dv 2) (da_cons (dv 1) (da_cons (dv 7) da_nil)))))) (de_and (de_allG (k := 15) (own := [("case", 8)]) (by exact hr) rfl S.nd rfl G.b_all (List.mem_map.mpr ⟨("is_chart", none), by simp [tf], rfl⟩) G.t_is_chart rfl (di_seq rfl (dv 5)) (blkOk_by (by kernel_rfl)) rfl (by decide +kernel) rfl (fun s H C cl code fp pn => (dgwn 8 S.nd)) (fun s H C cl code fp pn hr' => (de_call (C_is_case.mono (by decide)) hr' hG rfl (da_cons (dv 2) (da_cons (dv 3) (da_cons (dv 1) (da_cons (dv 8) da_nil))))))) (de_one (de_allG (k := 15) (own := [("safe", 9)]) (by exact hr) rfl S.nd rfl G.b_all (List.mem_map.mpr ⟨("is_chart", none), by simp [tf], rfl⟩) G.t_is_chart rfl (di_seq rfl (dv 6)) (blkOk_by (by kernel_rfl)) rfl (by decide +kernel) rfl (fun s H C cl code fp pn => (dgwn 9 S.nd)) (fun s H C cl code fp pn hr' => (de_call (C_is_small_lot.mono (by decide)) hr' hG rfl (da_cons (dv 2) (da_cons (dv 9) da_nil)))))))))))))))
  exact ⟨fd, F, h2⟩
theorem ok_is_chart (G : Gf K mg base) : Callee P w K mg base (WK K) 20 "is_chart" 1 m_is_chart := by
  obtain ⟨fd, F, h⟩ := fn_is_chart (P := P) (w := w) G
  exact callee_of (ps := ["value"]) F h G.g_is_chart fun _ _ _ _ _ _ us hl => match us, hl with | [_], _ => rfl
theorem S_check_chart : FnScope ["chart"] ["chart"] (defScope s_check_chart) := ⟨rfl, rfl, rfl, by decide +kernel, rfl, by decide +kernel, by decide +kernel⟩
theorem fn_check_chart (G : Gf K mg base) : ∃ fd, FunD K "check_chart" "check_chart" (defArgs s_check_chart) (defBody s_check_chart) (defScope s_check_chart) [] [] (He.fAd K ("check_chart", none)) fd ∧ FnG P w K mg base 21 (He.fAd K ("check_chart", none)) fd ["chart"] (spD (WK K) 1 m_check_chart) := by
  have C_is_chart := ok_is_chart (P := P) (w := w) G
  obtain ⟨fd, F⟩ := G.f_check_chart
  have S := S_check_chart
  have h := fn_D (P := P) (w := w) (mg := mg) (base := base) (W := WK K) (k := 20) (f := b_check_chart) F S
  have h2 : FnG P w K mg base 21 (He.fAd K ("check_chart", none)) fd ["chart"] (spD (WK K) 1 m_check_chart) := by
    refine h ?_
    intro A outer s H E hr hG
    exact (dss_one (ds_if (dt_not (dt_val (de_call (C_is_chart.mono (by decide)) hr hG rfl (da_cons (dv 0) da_nil))))
  (dss_one ds_bad) dss_nil))
  exact ⟨fd, F, h2⟩
theorem ok_check_chart (G : Gf K mg base) : Callee P w K mg base (WK K) 21 "check_chart" 1 m_check_chart := by
  obtain ⟨fd, F, h⟩ := fn_check_chart (P := P) (w := w) G
  exact callee_of (ps := ["chart"]) F h G.g_check_chart fun _ _ _ _ _ _ us hl => match us, hl with | [_], _ => rfl
theorem S_fraction : FnScope ["top", "bottom", "common"] ["top", "bottom"] (defScope s_fraction) := ⟨rfl, rfl, rfl, by decide +kernel, rfl, by decide +kernel, by decide +kernel⟩
theorem fn_fraction (G : Gf K mg base) : ∃ fd, FunD K "fraction" "fraction" (defArgs s_fraction) (defBody s_fraction) (defScope s_fraction) [] [] (He.fAd K ("fraction", none)) fd ∧ FnG P w K mg base 1 (He.fAd K ("fraction", none)) fd ["top", "bottom"] (spD (WK K) 2 m_fraction) := by
  obtain ⟨fd, F⟩ := G.f_fraction
  have S := S_fraction
  have h := fn_D (P := P) (w := w) (mg := mg) (base := base) (W := WK K) (k := 0) (f := b_fraction) F S
  have h2 : FnG P w K mg base 1 (He.fAd K ("fraction", none)) fd ["top", "bottom"] (spD (WK K) 2 m_fraction) := by
    refine h ?_
    intro A outer s H E hr hG
    exact (dss_cons (dset 2 S.nd (de_callBf cr_gcd dc_gcd rfl G.gcd (da_cons (dv 0) (da_cons (dv 1) da_nil))))
  (dss_one (ds_ret (de_tup (da_cons (de_div (dv 0) (dv 2)) (da_cons (de_div (dv 1) (dv 2)) da_nil))))))
  exact ⟨fd, F, h2⟩
theorem ok_fraction (G : Gf K mg base) : Callee P w K mg base (WK K) 1 "fraction" 2 m_fraction := by
  obtain ⟨fd, F, h⟩ := fn_fraction (P := P) (w := w) G
  exact callee_of (ps := ["top", "bottom"]) F h G.g_fraction fun _ _ _ _ _ _ us hl => match us, hl with | [_, _], _ => rfl
theorem S_product_of : FnScope ["row", "other", "top", "bottom", "first", "under", "second", "below", "share"] ["row", "other"] (defScope s_product_of) := ⟨rfl, rfl, rfl, by decide +kernel, rfl, by decide +kernel, by decide +kernel⟩
theorem fn_product_of (G : Gf K mg base) : ∃ fd, FunD K "product_of" "product_of" (defArgs s_product_of) (defBody s_product_of) (defScope s_product_of) [] [] (He.fAd K ("product_of", none)) fd ∧ FnG P w K mg base 2 (He.fAd K ("product_of", none)) fd ["row", "other"] (spD (WK K) 2 m_product_of) := by
  have C_fraction := ok_fraction (P := P) (w := w) G
  obtain ⟨fd, F⟩ := G.f_product_of
  have S := S_product_of
  have h := fn_D (P := P) (w := w) (mg := mg) (base := base) (W := WK K) (k := 1) (f := b_product_of) F S
  have h2 : FnG P w K mg base 2 (He.fAd K ("product_of", none)) fd ["row", "other"] (spD (WK K) 2 m_product_of) := by
    refine h ?_
    intro A outer s H E hr hG
    exact (dss_cons (ds_asg (de_tup (da_cons de_int (da_cons de_int da_nil))) (dg_tup (n := 2) rfl rfl (dgs_cons (dgn 2 S.nd) (dgs_cons (dgn 3 S.nd) dgs_nil))))
  (dss_cons (ds_for .never rfl (di_mx rfl rfl G.b_zip (da_cons (dv 0) (da_cons (dv 1) da_nil))) (dg_tup (n := 2) rfl rfl (dgs_cons (dg_tup (n := 2) rfl rfl (dgs_cons (dgn 4 S.nd) (dgs_cons (dgn 5 S.nd) dgs_nil))) (dgs_cons (dg_tup (n := 2) rfl rfl (dgs_cons (dgn 6 S.nd) (dgs_cons (dgn 7 S.nd) dgs_nil))) dgs_nil)))
  (dss_one (ds_if (dt_w (dw_and (dt_cmp (op_neA hr.units) dop_ne (dv 4) de_int (nomark _)) (dw_and1 (dt_cmp (op_neA hr.units) dop_ne (dv 6) de_int (nomark _)))))
  (dss_cons (dset 8 S.nd (de_mul rfl (dv 5) (dv 7)))
  (dss_one (ds_par (i := 2) (j := 3) rfl S.nd rfl rfl (by decide) rfl rfl (da_cons (de_add rfl (de_mul rfl (dv 2) (dv 8)) (de_mul rfl (de_mul rfl (dv 4) (dv 6)) (dv 3))) (da_cons (de_mul rfl (dv 3) (dv 8)) da_nil)) rfl))) dss_nil)))
  (dss_one (ds_ret (de_call (C_fraction.mono (by decide)) hr hG rfl (da_cons (dv 2) (da_cons (dv 3) da_nil)))))))
  exact ⟨fd, F, h2⟩
theorem ok_product_of (G : Gf K mg base) : Callee P w K mg base (WK K) 2 "product_of" 2 m_product_of := by
  obtain ⟨fd, F, h⟩ := fn_product_of (P := P) (w := w) G
  exact callee_of (ps := ["row", "other"]) F h G.g_product_of fun _ _ _ _ _ _ us hl => match us, hl with | [_, _], _ => rfl
theorem S_led_back : FnScope ["row", "moves", "width", "place", "move"] ["row", "moves", "width"] (defScope s_led_back) := ⟨rfl, rfl, rfl, by decide +kernel, rfl, by decide +kernel, by decide +kernel⟩
theorem fn_led_back (G : Gf K mg base) : ∃ fd, FunD K "led_back" "led_back" (defArgs s_led_back) (defBody s_led_back) (defScope s_led_back) [] [] (He.fAd K ("led_back", none)) fd ∧ FnG P w K mg base 3 (He.fAd K ("led_back", none)) fd ["row", "moves", "width"] (spD (WK K) 3 m_led_back) := by
  have C_product_of := ok_product_of (P := P) (w := w) G
  obtain ⟨fd, F⟩ := G.f_led_back
  have S := S_led_back
  have h := fn_D (P := P) (w := w) (mg := mg) (base := base) (W := WK K) (k := 2) (f := b_led_back) F S
  have h2 : FnG P w K mg base 3 (He.fAd K ("led_back", none)) fd ["row", "moves", "width"] (spD (WK K) 3 m_led_back) := by
    refine h ?_
    intro A outer s H E hr hG
    exact (dss_one (ds_ret (de_callTy call_tuple_of dc_tuple rfl G.b_tuple boot_tuple' (da_cons (de_lc rfl S.nd (own := [("place", 3)]) (di_rng1 rfl G.b_range (da_cons (dv 2) da_nil)) (blkOk_by (by kernel_rfl)) (fun s H C cl fp => (dgwn 3 S.nd)) (fun s H C cl fp => dts_nil) (fun s H C cl fp => (de_call (C_product_of.mono (by decide)) hr hG rfl (da_cons (dv 0) (da_cons (de_lc rfl S.nd (own := [("move", 4)]) (di_seq rfl (dv 1)) (blkOk_by (by kernel_rfl)) (fun s H C cl fp => (dgwn 4 S.nd)) (fun s H C cl fp => dts_nil) (fun s H C cl fp => (de_ix rfl (de_ix rfl (dv 4) de_int (fun _ _ => rfl)) (dv 3) (fun _ _ => rfl)))) da_nil))))) da_nil))))
  exact ⟨fd, F, h2⟩
theorem ok_led_back (G : Gf K mg base) : Callee P w K mg base (WK K) 3 "led_back" 3 m_led_back := by
  obtain ⟨fd, F, h⟩ := fn_led_back (P := P) (w := w) G
  exact callee_of (ps := ["row", "moves", "width"]) F h G.g_led_back fun _ _ _ _ _ _ us hl => match us, hl with | [_, _, _], _ => rfl
theorem S_total : FnScope ["one", "other"] ["one", "other"] (defScope s_total) := ⟨rfl, rfl, rfl, by decide +kernel, rfl, by decide +kernel, by decide +kernel⟩
theorem fn_total (G : Gf K mg base) : ∃ fd, FunD K "total" "total" (defArgs s_total) (defBody s_total) (defScope s_total) [] [] (He.fAd K ("total", none)) fd ∧ FnG P w K mg base 2 (He.fAd K ("total", none)) fd ["one", "other"] (spD (WK K) 2 m_total) := by
  have C_fraction := ok_fraction (P := P) (w := w) G
  obtain ⟨fd, F⟩ := G.f_total
  have S := S_total
  have h := fn_D (P := P) (w := w) (mg := mg) (base := base) (W := WK K) (k := 1) (f := b_total) F S
  have h2 : FnG P w K mg base 2 (He.fAd K ("total", none)) fd ["one", "other"] (spD (WK K) 2 m_total) := by
    refine h ?_
    intro A outer s H E hr hG
    exact (dss_one (ds_ret (de_call (C_fraction.mono (by decide)) hr hG rfl (da_cons (de_add rfl (de_mul rfl (de_ix rfl (dv 0) de_int (fun _ _ => rfl)) (de_ix rfl (dv 1) de_int (fun _ _ => rfl))) (de_mul rfl (de_ix rfl (dv 1) de_int (fun _ _ => rfl)) (de_ix rfl (dv 0) de_int (fun _ _ => rfl)))) (da_cons (de_mul rfl (de_ix rfl (dv 0) de_int (fun _ _ => rfl)) (de_ix rfl (dv 1) de_int (fun _ _ => rfl))) da_nil)))))
  exact ⟨fd, F, h2⟩
theorem ok_total (G : Gf K mg base) : Callee P w K mg base (WK K) 2 "total" 2 m_total := by
  obtain ⟨fd, F, h⟩ := fn_total (P := P) (w := w) G
  exact callee_of (ps := ["one", "other"]) F h G.g_total fun _ _ _ _ _ _ us hl => match us, hl with | [_, _], _ => rfl
theorem S_opposite : FnScope ["number"] ["number"] (defScope s_opposite) := ⟨rfl, rfl, rfl, by decide +kernel, rfl, by decide +kernel, by decide +kernel⟩
theorem fn_opposite (G : Gf K mg base) : ∃ fd, FunD K "opposite" "opposite" (defArgs s_opposite) (defBody s_opposite) (defScope s_opposite) [] [] (He.fAd K ("opposite", none)) fd ∧ FnG P w K mg base 1 (He.fAd K ("opposite", none)) fd ["number"] (spD (WK K) 1 m_opposite) := by
  obtain ⟨fd, F⟩ := G.f_opposite
  have S := S_opposite
  have h := fn_D (P := P) (w := w) (mg := mg) (base := base) (W := WK K) (k := 0) (f := b_opposite) F S
  have h2 : FnG P w K mg base 1 (He.fAd K ("opposite", none)) fd ["number"] (spD (WK K) 1 m_opposite) := by
    refine h ?_
    intro A outer s H E hr hG
    exact (dss_one (ds_ret (de_tup (da_cons (de_neg (de_ix rfl (dv 0) de_int (fun _ _ => rfl))) (da_cons (de_ix rfl (dv 0) de_int (fun _ _ => rfl)) da_nil)))))
  exact ⟨fd, F, h2⟩
theorem ok_opposite (G : Gf K mg base) : Callee P w K mg base (WK K) 1 "opposite" 1 m_opposite := by
  obtain ⟨fd, F, h⟩ := fn_opposite (P := P) (w := w) G
  exact callee_of (ps := ["number"]) F h G.g_opposite fun _ _ _ _ _ _ us hl => match us, hl with | [_], _ => rfl
theorem S_brought_by_moves : FnScope ["row", "moves", "move"] ["row", "moves"] (defScope s_brought_by_moves) := ⟨rfl, rfl, rfl, by decide +kernel, rfl, by decide +kernel, by decide +kernel⟩
theorem fn_brought_by_moves (G : Gf K mg base) : ∃ fd, FunD K "brought_by_moves" "brought_by_moves" (defArgs s_brought_by_moves) (defBody s_brought_by_moves) (defScope s_brought_by_moves) [] [] (He.fAd K ("brought_by_moves", none)) fd ∧ FnG P w K mg base 3 (He.fAd K ("brought_by_moves", none)) fd ["row", "moves"] (spD (WK K) 2 m_brought_by_moves) := by
  have C_product_of := ok_product_of (P := P) (w := w) G
  obtain ⟨fd, F⟩ := G.f_brought_by_moves
  have S := S_brought_by_moves
  have h := fn_D (P := P) (w := w) (mg := mg) (base := base) (W := WK K) (k := 2) (f := b_brought_by_moves) F S
  have h2 : FnG P w K mg base 3 (He.fAd K ("brought_by_moves", none)) fd ["row", "moves"] (spD (WK K) 2 m_brought_by_moves) := by
    refine h ?_
    intro A outer s H E hr hG
    exact (dss_one (ds_ret (de_call (C_product_of.mono (by decide)) hr hG rfl (da_cons (dv 0) (da_cons (de_lc rfl S.nd (own := [("move", 2)]) (di_seq rfl (dv 1)) (blkOk_by (by kernel_rfl)) (fun s H C cl fp => (dgwn 2 S.nd)) (fun s H C cl fp => dts_nil) (fun s H C cl fp => (de_ix rfl (dv 2) de_int (fun _ _ => rfl)))) da_nil)))))
  exact ⟨fd, F, h2⟩
theorem ok_brought_by_moves (G : Gf K mg base) : Callee P w K mg base (WK K) 3 "brought_by_moves" 2 m_brought_by_moves := by
  obtain ⟨fd, F, h⟩ := fn_brought_by_moves (P := P) (w := w) G
  exact callee_of (ps := ["row", "moves"]) F h G.g_brought_by_moves fun _ _ _ _ _ _ us hl => match us, hl with | [_, _], _ => rfl
theorem S_bound_back : FnScope ["row", "bound", "moves"] ["row", "bound", "moves"] (defScope s_bound_back) := ⟨rfl, rfl, rfl, by decide +kernel, rfl, by decide +kernel, by decide +kernel⟩
theorem fn_bound_back (G : Gf K mg base) : ∃ fd, FunD K "bound_back" "bound_back" (defArgs s_bound_back) (defBody s_bound_back) (defScope s_bound_back) [] [] (He.fAd K ("bound_back", none)) fd ∧ FnG P w K mg base 4 (He.fAd K ("bound_back", none)) fd ["row", "bound", "moves"] (spD (WK K) 3 m_bound_back) := by
  have C_brought_by_moves := ok_brought_by_moves (P := P) (w := w) G
  have C_opposite := ok_opposite (P := P) (w := w) G
  have C_total := ok_total (P := P) (w := w) G
  obtain ⟨fd, F⟩ := G.f_bound_back
  have S := S_bound_back
  have h := fn_D (P := P) (w := w) (mg := mg) (base := base) (W := WK K) (k := 3) (f := b_bound_back) F S
  have h2 : FnG P w K mg base 4 (He.fAd K ("bound_back", none)) fd ["row", "bound", "moves"] (spD (WK K) 3 m_bound_back) := by
    refine h ?_
    intro A outer s H E hr hG
    exact (dss_one (ds_ret (de_call (C_total.mono (by decide)) hr hG rfl (da_cons (dv 1) (da_cons (de_call (C_opposite.mono (by decide)) hr hG rfl (da_cons (de_call (C_brought_by_moves.mono (by decide)) hr hG rfl (da_cons (dv 0) (da_cons (dv 2) da_nil))) da_nil)) da_nil)))))
  exact ⟨fd, F, h2⟩
theorem ok_bound_back (G : Gf K mg base) : Callee P w K mg base (WK K) 4 "bound_back" 3 m_bound_back := by
  obtain ⟨fd, F, h⟩ := fn_bound_back (P := P) (w := w) G
  exact callee_of (ps := ["row", "bound", "moves"]) F h G.g_bound_back fun _ _ _ _ _ _ us hl => match us, hl with | [_, _, _], _ => rfl
theorem S_case_wishes : FnScope ["chart", "table", "case", "behind", "ahead", "lot", "start", "guard", "moves", "goal", "row", "bound"] ["chart", "table", "case"] (defScope s_case_wishes) := ⟨rfl, rfl, rfl, by decide +kernel, rfl, by decide +kernel, by decide +kernel⟩
theorem fn_case_wishes (G : Gf K mg base) : ∃ fd, FunD K "case_wishes" "case_wishes" (defArgs s_case_wishes) (defBody s_case_wishes) (defScope s_case_wishes) [] [] (He.fAd K ("case_wishes", none)) fd ∧ FnG P w K mg base 5 (He.fAd K ("case_wishes", none)) fd ["chart", "table", "case"] (spD (WK K) 3 m_case_wishes) := by
  have C_bound_back := ok_bound_back (P := P) (w := w) G
  have C_led_back := ok_led_back (P := P) (w := w) G
  obtain ⟨fd, F⟩ := G.f_case_wishes
  have S := S_case_wishes
  have h := fn_D (P := P) (w := w) (mg := mg) (base := base) (W := WK K) (k := 4) (f := b_case_wishes) F S
  have h2 : FnG P w K mg base 5 (He.fAd K ("case_wishes", none)) fd ["chart", "table", "case"] (spD (WK K) 3 m_case_wishes) := by
    refine h ?_
    intro A outer s H E hr hG
    exact (dss_cons (ds_asg (dv 2) (dg_tup (n := 4) rfl rfl (dgs_cons (dgn 6 S.nd) (dgs_cons (dgn 7 S.nd) (dgs_cons (dgn 8 S.nd) (dgs_cons (dgn 9 S.nd) dgs_nil))))))
  (dss_cons (dset 3 S.nd (de_mul rfl (de_tup (da_cons (de_tup (da_cons de_int (da_cons de_int da_nil))) da_nil)) (de_ix rfl (dv 0) de_int (fun _ _ => rfl))))
  (dss_cons (dset 4 S.nd (de_callTy call_tuple_of dc_tuple rfl G.b_tuple boot_tuple' (da_cons (de_lc rfl S.nd (own := [("row", 10), ("bound", 11)]) (di_seq rfl (de_ix rfl (de_ix rfl (dv 1) (dv 6) (fun _ _ => rfl)) de_int (fun _ _ => rfl))) (blkOk_by (by kernel_rfl)) (fun s H C cl fp => (dgw_tup (n := 2) rfl rfl (dgsw_cons (dgwn 10 S.nd) (dgsw_cons (dgwn 11 S.nd) dgsw_nil)))) (fun s H C cl fp => dts_nil) (fun s H C cl fp => (de_tup (da_cons (de_add rfl (dv 10) (dv 3)) (da_cons (dv 11) da_nil))))) da_nil)))
  (dss_cons (dset 5 S.nd (de_tup (da_cons (de_add rfl (de_ix rfl (dv 0) de_int (fun _ _ => rfl)) (de_ix rfl (dv 0) de_int (fun _ _ => rfl))) (da_cons (de_add rfl (dv 4) (de_ix rfl (dv 7) de_int (fun _ _ => rfl))) da_nil))))
  (dss_one (ds_ret (de_lc rfl S.nd (own := [("row", 10), ("bound", 11)]) (di_seq rfl (de_ix rfl (de_ix rfl (dv 1) (dv 9) (fun _ _ => rfl)) de_int (fun _ _ => rfl))) (blkOk_by (by kernel_rfl)) (fun s H C cl fp => (dgw_tup (n := 2) rfl rfl (dgsw_cons (dgwn 10 S.nd) (dgsw_cons (dgwn 11 S.nd) dgsw_nil)))) (fun s H C cl fp => dts_nil) (fun s H C cl fp => (de_tup (da_cons (dv 5) (da_cons (de_call (C_led_back.mono (by decide)) hr hG rfl (da_cons (dv 10) (da_cons (dv 8) (da_cons (de_ix rfl (dv 5) de_int (fun _ _ => rfl)) da_nil)))) (da_cons (de_call (C_bound_back.mono (by decide)) hr hG rfl (da_cons (dv 10) (da_cons (dv 11) (da_cons (dv 8) da_nil)))) da_nil))))))))))))
  exact ⟨fd, F, h2⟩
theorem ok_case_wishes (G : Gf K mg base) : Callee P w K mg base (WK K) 5 "case_wishes" 3 m_case_wishes := by
  obtain ⟨fd, F, h⟩ := fn_case_wishes (P := P) (w := w) G
  exact callee_of (ps := ["chart", "table", "case"]) F h G.g_case_wishes fun _ _ _ _ _ _ us hl => match us, hl with | [_, _, _], _ => rfl
theorem S_all_wishes : FnScope ["chart", "table", "told", "case", "place", "lot", "safe", "row", "bound"] ["chart", "table"] (defScope s_all_wishes) := ⟨rfl, rfl, rfl, by decide +kernel, rfl, by decide +kernel, by decide +kernel⟩
theorem fn_all_wishes (G : Gf K mg base) : ∃ fd, FunD K "all_wishes" "all_wishes" (defArgs s_all_wishes) (defBody s_all_wishes) (defScope s_all_wishes) [] [] (He.fAd K ("all_wishes", none)) fd ∧ FnG P w K mg base 6 (He.fAd K ("all_wishes", none)) fd ["chart", "table"] (spD (WK K) 2 m_all_wishes) := by
  have C_case_wishes := ok_case_wishes (P := P) (w := w) G
  obtain ⟨fd, F⟩ := G.f_all_wishes
  have S := S_all_wishes
  have h := fn_D (P := P) (w := w) (mg := mg) (base := base) (W := WK K) (k := 5) (f := b_all_wishes) F S
  have h2 : FnG P w K mg base 6 (He.fAd K ("all_wishes", none)) fd ["chart", "table"] (spD (WK K) 2 m_all_wishes) := by
    refine h ?_
    intro A outer s H E hr hG
    exact (dss_cons (dset 2 S.nd (de_cell da_nil))
  (dss_cons (ds_for .never rfl (di_seq rfl (de_ix rfl (dv 0) de_int (fun _ _ => rfl))) (dg_tup (n := 2) rfl rfl (dgs_cons (dgn 4 S.nd) (dgs_cons (dgn 5 S.nd) dgs_nil)))
  (dss_one (ds_expr (de_meth rfl PySem.F.slot_list_extend PySem.F.type_list_extend mt_extend dm_extend (dv 2) (da_cons (de_lc rfl S.nd (own := [("row", 7), ("bound", 8)]) (di_seq rfl (de_ix rfl (de_ix rfl (dv 1) (dv 4) (fun _ _ => rfl)) de_int (fun _ _ => rfl))) (blkOk_by (by kernel_rfl)) (fun s H C cl fp => (dgw_tup (n := 2) rfl rfl (dgsw_cons (dgwn 7 S.nd) (dgsw_cons (dgwn 8 S.nd) dgsw_nil)))) (fun s H C cl fp => dts_nil) (fun s H C cl fp => (de_tup (da_cons (dv 5) (da_cons (dv 7) (da_cons (dv 8) da_nil)))))) da_nil)))))
  (dss_cons (ds_for .never rfl (di_seq rfl (de_ix rfl (dv 0) de_int (fun _ _ => rfl))) (dgn 3 S.nd)
  (dss_one (ds_expr (de_meth rfl PySem.F.slot_list_extend PySem.F.type_list_extend mt_extend dm_extend (dv 2) (da_cons (de_call (C_case_wishes.mono (by decide)) hr hG rfl (da_cons (dv 0) (da_cons (dv 1) (da_cons (dv 3) da_nil)))) da_nil)))))
  (dss_cons (ds_for .never rfl (di_mx rfl rfl G.b_zip (da_cons (dv 1) (da_cons (de_ix rfl (dv 0) de_int (fun _ _ => rfl)) da_nil))) (dg_tup (n := 2) rfl rfl (dgs_cons (dgn 5 S.nd) (dgs_cons (dgn 6 S.nd) dgs_nil)))
  (dss_one (ds_expr (de_meth rfl PySem.F.slot_list_extend PySem.F.type_list_extend mt_extend dm_extend (dv 2) (da_cons (de_lc rfl S.nd (own := [("row", 7), ("bound", 8)]) (di_seq rfl (de_ix rfl (dv 6) de_int (fun _ _ => rfl))) (blkOk_by (by kernel_rfl)) (fun s H C cl fp => (dgw_tup (n := 2) rfl rfl (dgsw_cons (dgwn 7 S.nd) (dgsw_cons (dgwn 8 S.nd) dgsw_nil)))) (fun s H C cl fp => dts_nil) (fun s H C cl fp => (de_tup (da_cons (dv 5) (da_cons (dv 7) (da_cons (dv 8) da_nil)))))) da_nil)))))
  (dss_one (ds_ret (de_callTy call_tuple_of dc_tuple rfl G.b_tuple boot_tuple' (da_cons (dv 2) da_nil))))))))
  exact ⟨fd, F, h2⟩
theorem ok_all_wishes (G : Gf K mg base) : Callee P w K mg base (WK K) 6 "all_wishes" 2 m_all_wishes := by
  obtain ⟨fd, F, h⟩ := fn_all_wishes (P := P) (w := w) G
  exact callee_of (ps := ["chart", "table"]) F h G.g_all_wishes fun _ _ _ _ _ _ us hl => match us, hl with | [_, _], _ => rfl
theorem S_has_lots : FnScope ["chart", "value", "places", "lot"] ["chart", "value"] (defScope s_has_lots) := ⟨rfl, rfl, rfl, by decide +kernel, rfl, by decide +kernel, by decide +kernel⟩
theorem fn_has_lots (G : Gf K mg base) : ∃ fd, FunD K "has_lots" "has_lots" (defArgs s_has_lots) (defBody s_has_lots) (defScope s_has_lots) [] [] (He.fAd K ("has_lots", none)) fd ∧ FnG P w K mg base 19 (He.fAd K ("has_lots", none)) fd ["chart", "value"] (spD (WK K) 2 m_has_lots) := by
  have C_is_small_lot := ok_is_small_lot (P := P) (w := w) G
  have C_is_tuple_of := ok_is_tuple_of (P := P) (w := w) G
  obtain ⟨fd, F⟩ := G.f_has_lots
  have S := S_has_lots
  have h := fn_D (P := P) (w := w) (mg := mg) (base := base) (W := WK K) (k := 18) (f := b_has_lots) F S
  have h2 : FnG P w K mg base 19 (He.fAd K ("has_lots", none)) fd ["chart", "value"] (spD (WK K) 2 m_has_lots) := by
    refine h ?_
    intro A outer s H E hr hG
    exact (dss_cons (dset 2 S.nd (de_callB call_len dc_len rfl G.b_len boot_len' (da_cons (de_ix rfl (dv 0) de_int (fun _ _ => rfl)) da_nil)))
  (dss_one (ds_ret (de_and (de_call (C_is_tuple_of.mono (by decide)) hr hG rfl (da_cons (dv 1) (da_cons (dv 2) (da_cons (dv 2) da_nil)))) (de_one (de_allG (k := 14) (own := [("lot", 3)]) (by exact hr) rfl S.nd rfl G.b_all (List.mem_map.mpr ⟨("has_lots", none), by simp [tf], rfl⟩) G.t_has_lots rfl (di_seq rfl (dv 1)) (blkOk_by (by kernel_rfl)) rfl (by decide +kernel) rfl (fun s H C cl code fp pn => (dgwn 3 S.nd)) (fun s H C cl code fp pn hr' => (de_call (C_is_small_lot.mono (by decide)) hr' hG rfl (da_cons (de_ix rfl (dv 0) de_int (fun _ _ => rfl)) (da_cons (dv 3) da_nil))))))))))
  exact ⟨fd, F, h2⟩
theorem ok_has_lots (G : Gf K mg base) : Callee P w K mg base (WK K) 19 "has_lots" 2 m_has_lots := by
  obtain ⟨fd, F, h⟩ := fn_has_lots (P := P) (w := w) G
  exact callee_of (ps := ["chart", "value"]) F h G.g_has_lots fun _ _ _ _ _ _ us hl => match us, hl with | [_, _], _ => rfl
theorem S_weighed : FnScope ["size", "wishes", "weights", "used", "shares", "columns", "row", "place", "weight", "wish", "_", "column"] ["size", "wishes", "weights"] (defScope s_weighed) := ⟨rfl, rfl, rfl, by decide +kernel, rfl, by decide +kernel, by decide +kernel⟩
theorem fn_weighed (G : Gf K mg base) : ∃ fd, FunD K "weighed" "weighed" (defArgs s_weighed) (defBody s_weighed) (defScope s_weighed) [] [] (He.fAd K ("weighed", none)) fd ∧ FnG P w K mg base 3 (He.fAd K ("weighed", none)) fd ["size", "wishes", "weights"] (spD (WK K) 3 m_weighed) := by
  have C_product_of := ok_product_of (P := P) (w := w) G
  obtain ⟨fd, F⟩ := G.f_weighed
  have S := S_weighed
  have h := fn_D (P := P) (w := w) (mg := mg) (base := base) (W := WK K) (k := 2) (f := b_weighed) F S
  have h2 : FnG P w K mg base 3 (He.fAd K ("weighed", none)) fd ["size", "wishes", "weights"] (spD (WK K) 3 m_weighed) := by
    refine h ?_
    intro A outer s H E hr hG
    exact (dss_cons (dset 3 S.nd (de_lc rfl S.nd (own := [("weight", 8), ("wish", 9)]) (di_mx rfl rfl G.b_zip (da_cons (dv 2) (da_cons (dv 1) da_nil))) (blkOk_by (by kernel_rfl)) (fun s H C cl fp => (dgw_tup (n := 2) rfl rfl (dgsw_cons (dgwn 8 S.nd) (dgsw_cons (dgwn 9 S.nd) dgsw_nil)))) (fun s H C cl fp => (dts_one (dt_cmp (op_neA hr.units) dop_ne (de_ix rfl (dv 8) de_int (fun _ _ => rfl)) de_int (nomark _)))) (fun s H C cl fp => (de_tup (da_cons (dv 8) (da_cons (dv 9) da_nil))))))
  (dss_cons (dset 4 S.nd (de_lc rfl S.nd (own := [("weight", 8), ("_", 10)]) (di_seq rfl (dv 3)) (blkOk_by (by kernel_rfl)) (fun s H C cl fp => (dgw_tup (n := 2) rfl rfl (dgsw_cons (dgwn 8 S.nd) (dgsw_cons (dgwn 10 S.nd) dgsw_nil)))) (fun s H C cl fp => dts_nil) (fun s H C cl fp => (dv 8))))
  (dss_cons (ds_setLc (lc_rd (own := [("place", 7)])) rfl S.nd rfl rfl (sw_true rfl rfl rfl rfl) (own := [("place", 7)]) (di_rng1 rfl G.b_range (da_cons (dv 0) da_nil)) (blkOk_by (by kernel_rfl)) (fun s H C cl fp => (dgwn 7 S.nd)) (fun s H C cl fp => dts_nil) (fun s H C cl fp => (de_lc rfl S.nd (own := [("_", 10), ("wish", 9)]) (di_seq rfl (dv 3)) (blkOk_by (by kernel_rfl)) (fun s H C cl fp => (dgw_tup (n := 2) rfl rfl (dgsw_cons (dgwn 10 S.nd) (dgsw_cons (dgwn 9 S.nd) dgsw_nil)))) (fun s H C cl fp => dts_nil) (fun s H C cl fp => (de_ix rfl (de_ix rfl (dv 9) de_int (fun _ _ => rfl)) (dv 7) (fun _ _ => rfl))))))
  (dss_cons (dset 6 S.nd (de_callTy call_tuple_of dc_tuple rfl G.b_tuple boot_tuple' (da_cons (de_lc rfl S.nd (own := [("column", 11)]) (di_seq rfl (dv 5)) (blkOk_by (by kernel_rfl)) (fun s H C cl fp => (dgwn 11 S.nd)) (fun s H C cl fp => dts_nil) (fun s H C cl fp => (de_call (C_product_of.mono (by decide)) hr hG rfl (da_cons (dv 4) (da_cons (dv 11) da_nil))))) da_nil)))
  (dss_one (ds_ret (de_tup (da_cons (dv 6) (da_cons (de_call (C_product_of.mono (by decide)) hr hG rfl (da_cons (dv 4) (da_cons (de_lc rfl S.nd (own := [("_", 10), ("wish", 9)]) (di_seq rfl (dv 3)) (blkOk_by (by kernel_rfl)) (fun s H C cl fp => (dgw_tup (n := 2) rfl rfl (dgsw_cons (dgwn 10 S.nd) (dgsw_cons (dgwn 9 S.nd) dgsw_nil)))) (fun s H C cl fp => dts_nil) (fun s H C cl fp => (de_ix rfl (dv 9) de_int (fun _ _ => rfl)))) da_nil))) da_nil)))))))))
  exact ⟨fd, F, h2⟩
theorem ok_weighed (G : Gf K mg base) : Callee P w K mg base (WK K) 3 "weighed" 3 m_weighed := by
  obtain ⟨fd, F, h⟩ := fn_weighed (P := P) (w := w) G
  exact callee_of (ps := ["size", "wishes", "weights"]) F h G.g_weighed fun _ _ _ _ _ _ us hl => match us, hl with | [_, _, _], _ => rfl
theorem S_are_weights : FnScope ["many", "value", "weight"] ["many", "value"] (defScope s_are_weights) := ⟨rfl, rfl, rfl, by decide +kernel, rfl, by decide +kernel, by decide +kernel⟩
theorem fn_are_weights (G : Gf K mg base) : ∃ fd, FunD K "are_weights" "are_weights" (defArgs s_are_weights) (defBody s_are_weights) (defScope s_are_weights) [] [] (He.fAd K ("are_weights", none)) fd ∧ FnG P w K mg base 7 (He.fAd K ("are_weights", none)) fd ["many", "value"] (spD (WK K) 2 m_are_weights) := by
  have C_is_fraction := ok_is_fraction (P := P) (w := w) G
  obtain ⟨fd, F⟩ := G.f_are_weights
  have S := S_are_weights
  have h := fn_D (P := P) (w := w) (mg := mg) (base := base) (W := WK K) (k := 6) (f := b_are_weights) F S
  have h2 : FnG P w K mg base 7 (He.fAd K ("are_weights", none)) fd ["many", "value"] (spD (WK K) 2 m_are_weights) := by
    refine h ?_
    intro A outer s H E hr hG
    exact (dss_cons (ds_if (dt_w (dw_or (dt_not (dt_val (de_isi .tup rfl rfl G.b_isinstance rfl G.b_tuple (dv 1)))) (dw_or1 (dt_cmp (op_neA hr.units) dop_ne (de_callB call_len dc_len rfl G.b_len boot_len' (da_cons (dv 1) da_nil)) (dv 0) (nomark _)))))
  (dss_one (ds_ret de_bl)) dss_nil)
  (dss_one (ds_ret (de_allG (k := 2) (own := [("weight", 2)]) (by exact hr) rfl S.nd rfl G.b_all (List.mem_map.mpr ⟨("are_weights", none), by simp [tf], rfl⟩) G.t_are_weights rfl (di_seq rfl (dv 1)) (blkOk_by (by kernel_rfl)) rfl (by decide +kernel) rfl (fun s H C cl code fp pn => (dgwn 2 S.nd)) (fun s H C cl code fp pn hr' => (de_and (de_call (C_is_fraction.mono (by decide)) hr' hG rfl (da_cons (dv 2) da_nil)) (de_one (de_cmp op_ge dop_ge (de_ix rfl (dv 2) de_int (fun _ _ => rfl)) de_int (nomark _)))))))))
  exact ⟨fd, F, h2⟩
theorem ok_are_weights (G : Gf K mg base) : Callee P w K mg base (WK K) 7 "are_weights" 2 m_are_weights := by
  obtain ⟨fd, F, h⟩ := fn_are_weights (P := P) (w := w) G
  exact callee_of (ps := ["many", "value"]) F h G.g_are_weights fun _ _ _ _ _ _ us hl => match us, hl with | [_, _], _ => rfl
theorem S_is_up_to : FnScope ["number", "limit"] ["number", "limit"] (defScope s_is_up_to) := ⟨rfl, rfl, rfl, by decide +kernel, rfl, by decide +kernel, by decide +kernel⟩
theorem fn_is_up_to (G : Gf K mg base) : ∃ fd, FunD K "is_up_to" "is_up_to" (defArgs s_is_up_to) (defBody s_is_up_to) (defScope s_is_up_to) [] [] (He.fAd K ("is_up_to", none)) fd ∧ FnG P w K mg base 1 (He.fAd K ("is_up_to", none)) fd ["number", "limit"] (spD (WK K) 2 m_is_up_to) := by
  obtain ⟨fd, F⟩ := G.f_is_up_to
  have S := S_is_up_to
  have h := fn_D (P := P) (w := w) (mg := mg) (base := base) (W := WK K) (k := 0) (f := b_is_up_to) F S
  have h2 : FnG P w K mg base 1 (He.fAd K ("is_up_to", none)) fd ["number", "limit"] (spD (WK K) 2 m_is_up_to) := by
    refine h ?_
    intro A outer s H E hr hG
    exact (dss_one (ds_ret (de_cmp op_le dop_le (de_mul rfl (de_ix rfl (dv 0) de_int (fun _ _ => rfl)) (de_ix rfl (dv 1) de_int (fun _ _ => rfl))) (de_mul rfl (de_ix rfl (dv 1) de_int (fun _ _ => rfl)) (de_ix rfl (dv 0) de_int (fun _ _ => rfl))) (nomark _))))
  exact ⟨fd, F, h2⟩
theorem ok_is_up_to (G : Gf K mg base) : Callee P w K mg base (WK K) 1 "is_up_to" 2 m_is_up_to := by
  obtain ⟨fd, F, h⟩ := fn_is_up_to (P := P) (w := w) G
  exact callee_of (ps := ["number", "limit"]) F h G.g_is_up_to fun _ _ _ _ _ _ us hl => match us, hl with | [_, _], _ => rfl
theorem S_shows : FnScope ["lot", "row", "bound", "paper", "size", "wishes", "kind", "weights", "weighed_row", "weighed_bound"] ["lot", "row", "bound", "paper"] (defScope s_shows) := ⟨rfl, rfl, rfl, by decide +kernel, rfl, by decide +kernel, by decide +kernel⟩
theorem fn_shows (G : Gf K mg base) : ∃ fd, FunD K "shows" "shows" (defArgs s_shows) (defBody s_shows) (defScope s_shows) [] [] (He.fAd K ("shows", none)) fd ∧ FnG P w K mg base 8 (He.fAd K ("shows", none)) fd ["lot", "row", "bound", "paper"] (spD (WK K) 4 m_shows) := by
  have C_are_weights := ok_are_weights (P := P) (w := w) G
  have C_is_up_to := ok_is_up_to (P := P) (w := w) G
  have C_weighed := ok_weighed (P := P) (w := w) G
  obtain ⟨fd, F⟩ := G.f_shows
  have S := S_shows
  have h := fn_D (P := P) (w := w) (mg := mg) (base := base) (W := WK K) (k := 7) (f := b_shows) F S
  have h2 : FnG P w K mg base 8 (He.fAd K ("shows", none)) fd ["lot", "row", "bound", "paper"] (spD (WK K) 4 m_shows) := by
    refine h ?_
    intro A outer s H E hr hG
    exact (dss_cons (ds_asg (dv 0) (dg_tup (n := 2) rfl rfl (dgs_cons (dgn 4 S.nd) (dgs_cons (dgn 5 S.nd) dgs_nil))))
  (dss_cons (ds_if (dt_w (dw_or (dt_not (dt_val (de_isi .tup rfl rfl G.b_isinstance rfl G.b_tuple (dv 3)))) (dw_or (dt_cmp (op_neA hr.units) dop_ne (de_callB call_len dc_len rfl G.b_len boot_len' (da_cons (dv 3) da_nil)) de_int (nomark _)) (dw_or1 (dt_not (dt_val (de_call (C_are_weights.mono (by decide)) hr hG rfl (da_cons (de_callB call_len dc_len rfl G.b_len boot_len' (da_cons (dv 5) da_nil)) (da_cons (de_ix rfl (dv 3) de_int (fun _ _ => rfl)) da_nil)))))))))
  (dss_one (ds_ret de_bl)) dss_nil)
  (dss_cons (ds_asg (dv 3) (dg_tup (n := 2) rfl rfl (dgs_cons (dgn 6 S.nd) (dgs_cons (dgn 7 S.nd) dgs_nil))))
  (dss_cons (ds_if (dt_w (dw_or (dt_not (dt_val (de_isi .str rfl rfl G.b_isinstance rfl G.b_str (dv 6)))) (dw_or1 (dt_cmp op_notIn_seq (dop_inB true) (dv 6) (de_tup (da_cons de_str (da_cons de_str da_nil))) (by with_unfolding_all rfl)))))
  (dss_one (ds_ret de_bl)) dss_nil)
  (dss_cons (ds_asg (de_call (C_weighed.mono (by decide)) hr hG rfl (da_cons (dv 4) (da_cons (dv 5) (da_cons (dv 7) da_nil)))) (dg_tup (n := 2) rfl rfl (dgs_cons (dgn 8 S.nd) (dgs_cons (dgn 9 S.nd) dgs_nil))))
  (dss_cons (ds_if (dt_cmp (op_eqA hr.units) dop_eq (dv 6) de_str (nomark _))
  (dss_one (ds_ret (de_and (de_cmp (op_eqA hr.units) dop_eq (dv 8) (dv 1) (nomark _)) (de_one (de_call (C_is_up_to.mono (by decide)) hr hG rfl (da_cons (dv 9) (da_cons (dv 2) da_nil))))))) dss_nil)
  (dss_one (ds_ret (de_and (de_cmp (op_eqA hr.units) dop_eq (dv 8) (de_mul rfl (de_tup (da_cons (de_tup (da_cons de_int (da_cons de_int da_nil))) da_nil)) (dv 4)) (nomark _)) (de_one (de_cmp op_lt dop_lt (de_ix rfl (dv 9) de_int (fun _ _ => rfl)) de_int (nomark _))))))))))))
  exact ⟨fd, F, h2⟩
theorem ok_shows (G : Gf K mg base) : Callee P w K mg base (WK K) 8 "shows" 4 m_shows := by
  obtain ⟨fd, F, h⟩ := fn_shows (P := P) (w := w) G
  exact callee_of (ps := ["lot", "row", "bound", "paper"]) F h G.g_shows fun _ _ _ _ _ _ us hl => match us, hl with | [_, _, _, _], _ => rfl
theorem S_takes : FnScope ["chart", "paper", "told", "one", "lot", "row", "bound"] ["chart", "paper"] (defScope s_takes) := ⟨rfl, rfl, rfl, by decide +kernel, rfl, by decide +kernel, by decide +kernel⟩
theorem fn_takes (G : Gf K mg base) : ∃ fd, FunD K "takes" "takes" (defArgs s_takes) (defBody s_takes) (defScope s_takes) [] [] (He.fAd K ("takes", none)) fd ∧ FnG P w K mg base 22 (He.fAd K ("takes", none)) fd ["chart", "paper"] (spD (WK K) 2 m_takes) := by
  have C_all_wishes := ok_all_wishes (P := P) (w := w) G
  have C_check_chart := ok_check_chart (P := P) (w := w) G
  have C_has_lots := ok_has_lots (P := P) (w := w) G
  have C_is_tuple_of := ok_is_tuple_of (P := P) (w := w) G
  have C_shows := ok_shows (P := P) (w := w) G
  obtain ⟨fd, F⟩ := G.f_takes
  have S := S_takes
  have h := fn_D (P := P) (w := w) (mg := mg) (base := base) (W := WK K) (k := 21) (f := b_takes) F S
  have h2 : FnG P w K mg base 22 (He.fAd K ("takes", none)) fd ["chart", "paper"] (spD (WK K) 2 m_takes) := by
    refine h ?_
    intro A outer s H E hr hG
    exact (dss_cons (ds_expr (de_call (C_check_chart.mono (by decide)) hr hG rfl (da_cons (dv 0) da_nil)))
  (dss_cons (ds_if (dt_w (dw_or (dt_not (dt_val (de_call (C_is_tuple_of.mono (by decide)) hr hG rfl (da_cons (dv 1) (da_cons de_int (da_cons de_int da_nil)))))) (dw_or1 (dt_not (dt_val (de_call (C_has_lots.mono (by decide)) hr hG rfl (da_cons (dv 0) (da_cons (de_ix rfl (dv 1) de_int (fun _ _ => rfl)) da_nil))))))))
  (dss_one (ds_ret de_bl)) dss_nil)
  (dss_cons (dset 2 S.nd (de_call (C_all_wishes.mono (by decide)) hr hG rfl (da_cons (dv 0) (da_cons (de_ix rfl (dv 1) de_int (fun _ _ => rfl)) da_nil))))
  (dss_cons (ds_if (dt_not (dt_val (de_call (C_is_tuple_of.mono (by decide)) hr hG rfl (da_cons (de_ix rfl (dv 1) de_int (fun _ _ => rfl)) (da_cons (de_callB call_len dc_len rfl G.b_len boot_len' (da_cons (dv 2) da_nil)) (da_cons (de_callB call_len dc_len rfl G.b_len boot_len' (da_cons (dv 2) da_nil)) da_nil))))))
  (dss_one (ds_ret de_bl)) dss_nil)
  (dss_one (ds_ret (de_allG (k := 17) (own := [("one", 3), ("lot", 4), ("row", 5), ("bound", 6)]) (by exact hr) rfl S.nd rfl G.b_all (List.mem_map.mpr ⟨("takes", none), by simp [tf], rfl⟩) G.t_takes rfl (di_mx rfl rfl G.b_zip (da_cons (dv 2) (da_cons (de_ix rfl (dv 1) de_int (fun _ _ => rfl)) da_nil))) (blkOk_by (by kernel_rfl)) rfl (by decide +kernel) rfl (fun s H C cl code fp pn => (dgw_tup (n := 2) rfl rfl (dgsw_cons (dgw_tup (n := 3) rfl rfl (dgsw_cons (dgwn 4 S.nd) (dgsw_cons (dgwn 5 S.nd) (dgsw_cons (dgwn 6 S.nd) dgsw_nil)))) (dgsw_cons (dgwn 3 S.nd) dgsw_nil)))) (fun s H C cl code fp pn hr' => (de_call (C_shows.mono (by decide)) hr' hG rfl (da_cons (dv 4) (da_cons (dv 5) (da_cons (dv 6) (da_cons (dv 3) da_nil)))))))))))))
  exact ⟨fd, F, h2⟩
theorem ok_takes (G : Gf K mg base) : Callee P w K mg base (WK K) 22 "takes" 2 m_takes := by
  obtain ⟨fd, F, h⟩ := fn_takes (P := P) (w := w) G
  exact callee_of (ps := ["chart", "paper"]) F h G.g_takes fun _ _ _ _ _ _ us hl => match us, hl with | [_, _], _ => rfl
theorem kK_takes_0_paper_chart (G : Gf K mg base) : CalleeK P w K mg base (WK K) 22 "takes" 2 0 ["paper", "chart"] [1, 0] m_takes := by
  obtain ⟨fd, F, h⟩ := fn_takes (P := P) (w := w) G
  exact calleeK_of (ps := ["chart", "paper"]) F h G.g_takes fun _ _ _ _ _ _ us ws h1 h2 => match us, h1, ws, h2 with | [], _, [_, _], _ => rfl
theorem S__law_moved_weight : FnScope ["_law_well_here", "_law_papers", "_law_at", "_law_spot", "_law_more", "_law_kind", "_law_weights"] ["_law_well_here", "_law_papers"] (defScope s__law_moved_weight) := ⟨rfl, rfl, rfl, by decide +kernel, rfl, by decide +kernel, by decide +kernel⟩
theorem fn__law_moved_weight (G : Gf K mg base) : ∃ fd, FunD K "_law_moved_weight" "_law_moved_weight" (defArgs s__law_moved_weight) (defBody s__law_moved_weight) (defScope s__law_moved_weight) [] [] (He.fAd K ("_law_moved_weight", none)) fd ∧ FnG P w K mg base 3 (He.fAd K ("_law_moved_weight", none)) fd ["_law_well_here", "_law_papers"] (spD (WK K) 2 m__law_moved_weight) := by
  have C__law_draw := ok__law_draw (P := P) (w := w) G
  have C__law_of := ok__law_of (P := P) (w := w) G
  have C__law_plus := ok__law_plus (P := P) (w := w) G
  obtain ⟨fd, F⟩ := G.f__law_moved_weight
  have S := S__law_moved_weight
  have h := fn_D (P := P) (w := w) (mg := mg) (base := base) (W := WK K) (k := 2) (f := b__law_moved_weight) F S
  have h2 : FnG P w K mg base 3 (He.fAd K ("_law_moved_weight", none)) fd ["_law_well_here", "_law_papers"] (spD (WK K) 2 m__law_moved_weight) := by
    refine h ?_
    intro A outer s H E hr hG
    exact (dss_cons (dset 2 S.nd (de_call (C__law_draw.mono (by decide)) hr hG rfl (da_cons (dv 0) (da_cons (de_callB call_len dc_len rfl G.b_len boot_len' (da_cons (dv 1) da_nil)) da_nil))))
  (dss_cons (ds_asg (de_ix rfl (dv 1) (dv 2) (fun _ _ => rfl)) (dg_tup (n := 2) rfl rfl (dgs_cons (dgn 5 S.nd) (dgs_cons (dgn 6 S.nd) dgs_nil))))
  (dss_cons (ds_if (dt_cmp (op_eqA hr.units) dop_eq (dv 6) (de_tup da_nil) (nomark _))
  (dss_one (ds_ret (dv 1))) dss_nil)
  (dss_cons (dset 3 S.nd (de_call (C__law_draw.mono (by decide)) hr hG rfl (da_cons (dv 0) (da_cons (de_callB call_len dc_len rfl G.b_len boot_len' (da_cons (dv 6) da_nil)) da_nil))))
  (dss_cons (dset 4 S.nd (de_call (C__law_plus.mono (by decide)) hr hG rfl (da_cons (de_ix rfl (dv 6) (dv 3) (fun _ _ => rfl)) (da_cons (de_call (C__law_of.mono (by decide)) hr hG rfl (da_cons (dv 0) (da_cons (de_tup (da_cons (de_tup (da_cons de_int (da_cons de_int da_nil))) (da_cons (de_tup (da_cons de_int (da_cons de_int da_nil))) (da_cons (de_tup (da_cons (de_neg de_int) (da_cons de_int da_nil))) (da_cons (de_tup (da_cons de_int (da_cons de_int da_nil))) da_nil))))) da_nil))) da_nil))))
  (dss_one (ds_ret (de_add rfl (de_add rfl (de_slice rfl (dv 1) do_0 (do_1 (dv 2))) (de_tup (da_cons (de_tup (da_cons (dv 5) (da_cons (de_add rfl (de_add rfl (de_slice rfl (dv 6) do_0 (do_1 (dv 3))) (de_tup (da_cons (dv 4) da_nil))) (de_slice rfl (dv 6) (do_1 (de_add rfl (dv 3) de_int)) do_0)) da_nil))) da_nil))) (de_slice rfl (dv 1) (do_1 (de_add rfl (dv 2) de_int)) do_0)))))))))
  exact ⟨fd, F, h2⟩
theorem ok__law_moved_weight (G : Gf K mg base) : Callee P w K mg base (WK K) 3 "_law_moved_weight" 2 m__law_moved_weight := by
  obtain ⟨fd, F, h⟩ := fn__law_moved_weight (P := P) (w := w) G
  exact callee_of (ps := ["_law_well_here", "_law_papers"]) F h G.g__law_moved_weight fun _ _ _ _ _ _ us hl => match us, hl with | [_, _], _ => rfl
theorem S_is_table : FnScope ["chart", "value"] ["chart", "value"] (defScope s_is_table) := ⟨rfl, rfl, rfl, by decide +kernel, rfl, by decide +kernel, by decide +kernel⟩
theorem fn_is_table (G : Gf K mg base) : ∃ fd, FunD K "is_table" "is_table" (defArgs s_is_table) (defBody s_is_table) (defScope s_is_table) [] [] (He.fAd K ("is_table", none)) fd ∧ FnG P w K mg base 22 (He.fAd K ("is_table", none)) fd ["chart", "value"] (spD (WK K) 2 m_is_table) := by
  have C_check_chart := ok_check_chart (P := P) (w := w) G
  have C_has_lots := ok_has_lots (P := P) (w := w) G
  obtain ⟨fd, F⟩ := G.f_is_table
  have S := S_is_table
  have h := fn_D (P := P) (w := w) (mg := mg) (base := base) (W := WK K) (k := 21) (f := b_is_table) F S
  have h2 : FnG P w K mg base 22 (He.fAd K ("is_table", none)) fd ["chart", "value"] (spD (WK K) 2 m_is_table) := by
    refine h ?_
    intro A outer s H E hr hG
    exact (dss_cons (ds_expr (de_call (C_check_chart.mono (by decide)) hr hG rfl (da_cons (dv 0) da_nil)))
  (dss_one (ds_ret (de_call (C_has_lots.mono (by decide)) hr hG rfl (da_cons (dv 0) (da_cons (dv 1) da_nil))))))
  exact ⟨fd, F, h2⟩
theorem ok_is_table (G : Gf K mg base) : Callee P w K mg base (WK K) 22 "is_table" 2 m_is_table := by
  obtain ⟨fd, F, h⟩ := fn_is_table (P := P) (w := w) G
  exact callee_of (ps := ["chart", "value"]) F h G.g_is_table fun _ _ _ _ _ _ us hl => match us, hl with | [_, _], _ => rfl
theorem kK_is_table_0_value_chart (G : Gf K mg base) : CalleeK P w K mg base (WK K) 22 "is_table" 2 0 ["value", "chart"] [1, 0] m_is_table := by
  obtain ⟨fd, F, h⟩ := fn_is_table (P := P) (w := w) G
  exact calleeK_of (ps := ["chart", "value"]) F h G.g_is_table fun _ _ _ _ _ _ us ws h1 h2 => match us, h1, ws, h2 with | [], _, [_, _], _ => rfl
theorem S__law_right : FnScope ["_law_well_here", "_law_factors", "_law_chart", "_law_table", "_law_papers", "_law_own", "_law_near", "_law_tries", "_law_turn", "_law_thing", "_law_due"] ["_law_well_here"] (defScope s__law_right) := ⟨rfl, rfl, rfl, by decide +kernel, rfl, by decide +kernel, by decide +kernel⟩
theorem fn__law_right (G : Gf K mg base) : ∃ fd, FunD K "_law_right" "_law_right" (defArgs s__law_right) (defBody s__law_right) (defScope s__law_right) [] [] (He.fAd K ("_law_right", none)) fd ∧ FnG P w K mg base 23 (He.fAd K ("_law_right", none)) fd ["_law_well_here"] (spD (WK K) 1 m__law_right) := by
  have C__law_bent := ok__law_bent (P := P) (w := w) G 16
  have C__law_draw := ok__law_draw (P := P) (w := w) G
  have C__law_is_table := ok__law_is_table (P := P) (w := w) G
  have C__law_moved_weight := ok__law_moved_weight (P := P) (w := w) G
  have C__law_odd := ok__law_odd (P := P) (w := w) G
  have C__law_of := ok__law_of (P := P) (w := w) G
  have C__law_own_papers := ok__law_own_papers (P := P) (w := w) G
  have C__law_own_table := ok__law_own_table (P := P) (w := w) G
  have C__law_planned := ok__law_planned (P := P) (w := w) G
  have C__law_takes := ok__law_takes (P := P) (w := w) G
  have C_is_table := ok_is_table (P := P) (w := w) G
  have C_takes := ok_takes (P := P) (w := w) G
  have K_is_table_0_value_chart := kK_is_table_0_value_chart (P := P) (w := w) G
  have K_takes_0_paper_chart := kK_takes_0_paper_chart (P := P) (w := w) G
  obtain ⟨fd, F⟩ := G.f__law_right
  have S := S__law_right
  have h := fn_D (P := P) (w := w) (mg := mg) (base := base) (W := WK K) (k := 22) (f := b__law_right) F S
  have h2 : FnG P w K mg base 23 (He.fAd K ("_law_right", none)) fd ["_law_well_here"] (spD (WK K) 1 m__law_right) := by
    refine h ?_
    intro A outer s H E hr hG
    exact (dss_cons (dset 1 S.nd (de_tup (da_cons (de_tup (da_cons de_int (da_cons de_int da_nil))) (da_cons (de_tup (da_cons de_int (da_cons de_int da_nil))) (da_cons (de_tup (da_cons (de_neg de_int) (da_cons de_int da_nil))) (da_cons (de_tup (da_cons de_int (da_cons de_int da_nil))) (da_cons (de_tup (da_cons (de_neg de_int) (da_cons de_int da_nil))) da_nil)))))))
  (dss_cons (dset 2 S.nd (de_ix rfl (de_call (C__law_planned.mono (by decide)) hr hG rfl (da_cons (dv 0) (da_cons (dv 1) (da_cons (de_add rfl de_int (de_call (C__law_draw.mono (by decide)) hr hG rfl (da_cons (dv 0) (da_cons de_int da_nil)))) (da_cons de_int da_nil))))) de_int (fun _ _ => rfl)))
  (dss_cons (dset 3 S.nd (de_call (C__law_own_table.mono (by decide)) hr hG rfl (da_cons (dv 2) (da_cons de_int da_nil))))
  (dss_cons (dset 4 S.nd (de_call (C__law_own_papers.mono (by decide)) hr hG rfl (da_cons (dv 2) (da_cons (dv 3) da_nil))))
  (dss_cons (dset 5 S.nd (de_tup (da_cons (dv 3) (da_cons (dv 4) da_nil))))
  (dss_cons (ds_if (dt_w (dw_or (dt_not (dt_val (de_call (C__law_takes.mono (by decide)) hr hG rfl (da_cons (dv 2) (da_cons (dv 5) da_nil))))) (dw_or1 (dt_cmp op_isNotA dop_isNot (de_call (C_takes.mono (by decide)) hr hG rfl (da_cons (dv 2) (da_cons (dv 5) da_nil))) de_bl (nomark _)))))
  (dss_one (ds_ret de_bl)) dss_nil)
  (dss_cons (dset 6 S.nd (de_call (C__law_own_table.mono (by decide)) hr hG rfl (da_cons (dv 2) (da_cons (de_call (C__law_of.mono (by decide)) hr hG rfl (da_cons (dv 0) (da_cons (de_tup (da_cons de_int (da_cons de_int (da_cons de_int da_nil)))) da_nil))) da_nil))))
  (dss_cons (dset 7 S.nd (de_cell (da_cons (de_tup (da_cons (dv 3) (da_cons (de_call (C__law_moved_weight.mono (by decide)) hr hG rfl (da_cons (dv 0) (da_cons (dv 4) da_nil))) da_nil))) (da_cons (de_tup (da_cons (dv 3) (da_cons (de_slice rfl (dv 4) do_0 (do_1 (de_neg de_int))) da_nil))) (da_cons (de_tup (da_cons (dv 3) (da_cons (de_add rfl (dv 4) (de_slice rfl (dv 4) do_0 (do_1 de_int))) da_nil))) da_nil)))))
  (dss_cons (ds_expr (de_meth rfl PySem.F.slot_list_append PySem.F.type_list_append mt_append dm_append (dv 7) (da_cons (de_tup (da_cons (dv 6) (da_cons (dv 4) da_nil))) da_nil)))
  (dss_cons (ds_for .never rfl (di_rng1 rfl G.b_range (da_cons de_int da_nil)) (dgn 8 S.nd)
  (dss_one (ds_expr (de_meth rfl PySem.F.slot_list_append PySem.F.type_list_append mt_append dm_append (dv 7) (da_cons (de_call (C__law_bent.mono (by decide)) hr hG rfl (da_cons (dv 0) (da_cons (dv 5) da_nil))) da_nil)))))
  (dss_cons (ds_for .never rfl (di_seq rfl (de_add rfl (dv 7) (de_lst (da_cons (de_call (C__law_odd.mono (by decide)) hr hG rfl (da_cons (dv 0) da_nil)) (da_cons (de_tup (da_cons (dv 6) (da_cons (de_call (C__law_own_papers.mono (by decide)) hr hG rfl (da_cons (dv 2) (da_cons (dv 6) da_nil))) da_nil))) da_nil))))) (dgn 9 S.nd)
  (dss_cons (dset 10 S.nd (de_callB (call_reprA hG hr.units) dc_repr rfl G.b_repr boot_repr' (da_cons (de_call (C__law_takes.mono (by decide)) hr hG rfl (da_cons (dv 2) (da_cons (dv 9) da_nil))) da_nil)))
  (dss_one (ds_if (dt_w (dw_or (dt_cmp (op_neA hr.units) dop_ne (de_callB (call_reprA hG hr.units) dc_repr rfl G.b_repr boot_repr' (da_cons (de_call (C_takes.mono (by decide)) hr hG rfl (da_cons (dv 2) (da_cons (dv 9) da_nil))) da_nil)) (dv 10) (nomark _)) (dw_or1 (dt_cmp (op_neA hr.units) dop_ne (de_callB (call_reprA hG hr.units) dc_repr rfl G.b_repr boot_repr' (da_cons (de_callK0 (K_takes_0_paper_chart.mono (by decide)) hr hG rfl (dk_cons (dv 9) (dk_cons (dv 2) dk_nil))) da_nil)) (dv 10) (nomark _)))))
  (dss_one (ds_ret de_bl)) dss_nil))))
  (dss_cons (ds_for .never rfl (di_seq rfl (de_tup (da_cons (dv 3) (da_cons (dv 6) (da_cons (de_call (C__law_bent.mono (by decide)) hr hG rfl (da_cons (dv 0) (da_cons (dv 3) da_nil))) (da_cons (de_call (C__law_bent.mono (by decide)) hr hG rfl (da_cons (dv 0) (da_cons (dv 3) da_nil))) (da_cons (de_call (C__law_odd.mono (by decide)) hr hG rfl (da_cons (dv 0) da_nil)) (da_cons (dv 4) da_nil)))))))) (dgn 9 S.nd)
  (dss_cons (dset 10 S.nd (de_callB (call_reprA hG hr.units) dc_repr rfl G.b_repr boot_repr' (da_cons (de_call (C__law_is_table.mono (by decide)) hr hG rfl (da_cons (dv 2) (da_cons (dv 9) da_nil))) da_nil)))
  (dss_one (ds_if (dt_w (dw_or (dt_cmp (op_neA hr.units) dop_ne (de_callB (call_reprA hG hr.units) dc_repr rfl G.b_repr boot_repr' (da_cons (de_call (C_is_table.mono (by decide)) hr hG rfl (da_cons (dv 2) (da_cons (dv 9) da_nil))) da_nil)) (dv 10) (nomark _)) (dw_or1 (dt_cmp (op_neA hr.units) dop_ne (de_callB (call_reprA hG hr.units) dc_repr rfl G.b_repr boot_repr' (da_cons (de_callK0 (K_is_table_0_value_chart.mono (by decide)) hr hG rfl (dk_cons (dv 9) (dk_cons (dv 2) dk_nil))) da_nil)) (dv 10) (nomark _)))))
  (dss_one (ds_ret de_bl)) dss_nil))))
  (dss_one (ds_ret de_bl))))))))))))))
  exact ⟨fd, F, h2⟩
theorem ok__law_right (G : Gf K mg base) : Callee P w K mg base (WK K) 23 "_law_right" 1 m__law_right := by
  obtain ⟨fd, F, h⟩ := fn__law_right (P := P) (w := w) G
  exact callee_of (ps := ["_law_well_here"]) F h G.g__law_right fun _ _ _ _ _ _ us hl => match us, hl with | [_], _ => rfl
theorem S__law_well : FnScope ["_law_script", "_law_turn", "_law_own", "_law_seed", "_law_cell"] ["_law_script", "_law_turn"] (defScope s__law_well) := ⟨rfl, rfl, rfl, by decide +kernel, rfl, by decide +kernel, by decide +kernel⟩
theorem fn__law_well (G : Gf K mg base) : ∃ fd, FunD K "_law_well" "_law_well" (defArgs s__law_well) (defBody s__law_well) (defScope s__law_well) [] [] (He.fAd K ("_law_well", none)) fd ∧ FnG P w K mg base 1 (He.fAd K ("_law_well", none)) fd ["_law_script", "_law_turn"] (spD (WK K) 2 m__law_well) := by
  obtain ⟨fd, F⟩ := G.f__law_well
  have S := S__law_well
  have h := fn_D (P := P) (w := w) (mg := mg) (base := base) (W := WK K) (k := 0) (f := b__law_well) F S
  have h2 : FnG P w K mg base 1 (He.fAd K ("_law_well", none)) fd ["_law_script", "_law_turn"] (spD (WK K) 2 m__law_well) := by
    refine h ?_
    intro A outer s H E hr hG
    exact (dss_cons (dset 2 S.nd (de_if (dt_cmp op_lt dop_lt (dv 1) (de_callB call_len dc_len rfl G.b_len boot_len' (da_cons (dv 0) da_nil)) (nomark _)) (de_callTy call_int1 dc_int rfl G.b_int boot_int' (da_cons (de_ix rfl (dv 0) (dv 1) (fun _ _ => rfl)) da_nil)) de_int))
  (dss_cons (dset 3 S.nd (de_add rfl de_int (de_mul rfl de_int (dv 1))))
  (dss_cons (ds_for .never rfl (di_seq rfl (de_slice rfl (dv 0) do_0 (do_1 de_int))) (dgn 4 S.nd)
  (dss_one (dset 3 S.nd (de_mod (de_callTy call_int1 dc_int rfl G.b_int boot_int' (da_cons (de_add rfl (de_add rfl (de_mul rfl (dv 3) de_int) (de_mod (de_callTy call_int1 dc_int rfl G.b_int boot_int' (da_cons (dv 4) da_nil)) de_int)) de_int) da_nil)) de_int))))
  (dss_cons (dset 3 S.nd (de_mod (de_callTy call_int1 dc_int rfl G.b_int boot_int' (da_cons (de_add rfl (de_add rfl (de_mul rfl (dv 3) de_int) (de_mul rfl (de_mod (de_callTy call_int1 dc_int rfl G.b_int boot_int' (da_cons (dv 2) da_nil)) de_int) de_int)) de_int) da_nil)) de_int))
  (dss_one (ds_ret (de_cell (da_cons (de_if (dt_w (dw_or (dt_cmp op_lt dop_lt (dv 2) de_int (nomark _)) (dw_or1 (dt_cmp op_ge dop_ge (dv 2) (de_pow de_int de_int) (nomark _))))) (de_callB call_abs dc_abs rfl G.b_abs boot_abs' (da_cons (dv 2) da_nil)) de_int) (da_cons (dv 3) (da_cons de_int da_nil))))))))))
  exact ⟨fd, F, h2⟩
theorem ok__law_well (G : Gf K mg base) : Callee P w K mg base (WK K) 1 "_law_well" 2 m__law_well := by
  obtain ⟨fd, F, h⟩ := fn__law_well (P := P) (w := w) G
  exact callee_of (ps := ["_law_script", "_law_turn"]) F h G.g__law_well fun _ _ _ _ _ _ us hl => match us, hl with | [_, _], _ => rfl
theorem S_law : FnScope ["_law_script", "_law_turn"] ["_law_script"] (defScope s_law) := ⟨rfl, rfl, rfl, by decide +kernel, rfl, by decide +kernel, by decide +kernel⟩
theorem fn_law (G : Gf K mg base) : ∃ fd, FunD K "law" "law" (defArgs s_law) (defBody s_law) (defScope s_law) [] [] (He.fAd K ("law", none)) fd ∧ FnG P w K mg base 24 (He.fAd K ("law", none)) fd ["_law_script"] (spD (WK K) 1 m_law) := by
  have C__law_right := ok__law_right (P := P) (w := w) G
  have C__law_well := ok__law_well (P := P) (w := w) G
  obtain ⟨fd, F⟩ := G.f_law
  have S := S_law
  have h := fn_D (P := P) (w := w) (mg := mg) (base := base) (W := WK K) (k := 23) (f := b_law) F S
  have h2 : FnG P w K mg base 24 (He.fAd K ("law", none)) fd ["_law_script"] (spD (WK K) 1 m_law) := by
    refine h ?_
    intro A outer s H E hr hG
    exact (dss_one (ds_ret (de_callB (cr_all rfl) dc_all rfl G.b_all boot_all' (da_cons (de_lc rfl S.nd (own := [("_law_turn", 1)]) (di_rng1 rfl G.b_range (da_cons (de_callB (call_max2 rfl) dc_max2 rfl G.b_max boot_max' (da_cons de_int (da_cons (de_callB (call_min2 rfl) dc_min2 rfl G.b_min boot_min' (da_cons (de_callB call_len dc_len rfl G.b_len boot_len' (da_cons (dv 0) da_nil)) (da_cons de_int da_nil))) da_nil))) da_nil)) (blkOk_by (by kernel_rfl)) (fun s H C cl fp => (dgwn 1 S.nd)) (fun s H C cl fp => dts_nil) (fun s H C cl fp => (de_call (C__law_right.mono (by decide)) hr hG rfl (da_cons (de_call (C__law_well.mono (by decide)) hr hG rfl (da_cons (dv 0) (da_cons (dv 1) da_nil))) da_nil)))) da_nil))))
  exact ⟨fd, F, h2⟩
theorem ok_law (G : Gf K mg base) : Callee P w K mg base (WK K) 24 "law" 1 m_law := by
  obtain ⟨fd, F, h⟩ := fn_law (P := P) (w := w) G
  exact callee_of (ps := ["_law_script"]) F h G.g_law fun _ _ _ _ _ _ us hl => match us, hl with | [_], _ => rfl
end
end Law
set_option Elab.async false
set_option linter.all false
set_option maxRecDepth 100000
set_option maxHeartbeats 1000000
namespace Law
open PySem PySem.Spec PyProof.Rows L2 GxR Gx Dn
/-- the well's three numbers -/
def wl (a b c : Int) : Cell := .lst [.int a, .int b, .int c]
structure WOk (t : Nat) (c : Cell) : Prop where
  ex : ∃ a b k : Int, c = wl a b k ∧ 0 ≤ a ∧ 0 ≤ b ∧ b < 2147483587 ∧ 0 ≤ k ∧ k ≤ t
theorem log2_mul {i j : Int} {n : Nat} (hi : i.natAbs < 2 ^ n) (hn : 0 < n) (h : n + j.natAbs.log2 < 1000001) : cMul i j = true := by
  have := PySem.Flt.log2_lt_of hn hi
  unfold cMul
  simp
  omega
theorem mod_pos {i j : Int} (h : 0 < j) : i.fmod j = i % j := Int.fmod_eq_emod_of_nonneg i (by omega)
theorem div_pos {i j : Int} (h : 0 < j) : i.fdiv j = i / j := Int.fdiv_eq_ediv_of_nonneg i (by omega)
theorem lt_pow {i : Int} {n : Nat} (h0 : 0 ≤ i) (h : i < 2 ^ n) : i.natAbs < 2 ^ n := by
  have : (i.natAbs : Int) = i := by omega
  have h2 : ((i.natAbs : Nat) : Int) < ((2 ^ n : Nat) : Int) := by rw [this]; push_cast; exact h
  exact_mod_cast h2
theorem cMul_of {i j : Int} (a b : Nat) (ha : 0 < a) (hb : 0 < b) (hi : i.natAbs < 2 ^ a) (hj : j.natAbs < 2 ^ b) (h : a + b ≤ 1000000) : cMul i j = true := by
  have x := PySem.Flt.log2_lt_of ha hi
  have y := PySem.Flt.log2_lt_of hb hj
  unfold cMul
  simp
  omega
theorem take_set {S : Sto} {n : Nat} {c : Cell} : List.take (List.length S) (List.set S n c) = List.set S n c := List.take_of_length_le (by simp)
theorem draw_spec {n : Nat} {S : Sto} {t : Nat} {c : Cell} {m : Int} (hc : S[n]? = some c) (hw : WOk t c) (ht : t < 2 ^ 200) (hm : 0 < m) (hm2 : m < 1073741824) :
    Ok (m__law_draw [.r n, .d (.int m)] S) fun x S' => ∃ (i : Int) (c' : Cell), x = .d (.int i) ∧ 0 ≤ i ∧ i < m ∧ S' = S.set n c' ∧ WOk (t + 1) c' := by
  obtain ⟨a, b, k, rfl, ha, hb, hb2, hk, hkt⟩ := hw.ex
  have hn : n < S.length := (List.getElem?_eq_some_iff.mp hc).1
  have hk2 : k < 2 ^ 200 := by
    have h1 : ((t : Nat) : Int) < ((2 ^ 200 : Nat) : Int) := by exact_mod_cast ht
    have e : ((2 ^ 200 : Nat) : Int) = 2 ^ 200 := by decide
    omega
  have k1 : k + 1 < 2 ^ 201 := by
    have : (2 : Int) ^ 200 + 1 < 2 ^ 201 := by decide
    omega
  have c1 : cMul b 40014 = true := cMul_of 32 16 (by decide) (by decide) (by omega) (by decide) (by decide)
  have c2 : cMul (k + 1) 52387 = true := cMul_of 201 16 (by decide) (by decide) (lt_pow (by omega) k1) (by decide) (by decide)
  have hs : ∀ c : Cell, (S.set n c)[n]? = some c := fun c => List.getElem?_set_self hn
  generalize ex : (b * 40014 + (k + 1) * 52387 + 5) % 2147483587 = x
  have x0 : 0 ≤ x := by rw [← ex]; exact Int.emod_nonneg _ (by decide)
  have x1 : x < 2147483587 := by rw [← ex]; exact Int.emod_lt_of_pos _ (by decide)
  have y0 : 0 ≤ x % 6007 := Int.emod_nonneg _ (by decide)
  have y1 : x % 6007 < 6007 := Int.emod_lt_of_pos _ (by decide)
  have c3 : cMul x (x % 6007 + 30029) = true := cMul_of 32 17 (by decide) (by decide) (by omega) (by omega) (by decide)
  have cd : ∀ i : Int, cDiv i 127 = true := fun i => by unfold cDiv; decide
  unfold m__law_draw
  refine ok_fn ?_
  unfold b__law_draw
  simp (maxSteps := 20000) [hc, wl, ixN, hs, c1, c2, c3, cd, take_set, List.set_set, mod_pos, div_pos, ex, hm, hm2, Int.ne_of_gt hm]
  split
  · refine ⟨Int.emod_nonneg _ (by omega), Int.emod_lt_of_pos _ hm, _, rfl, ⟨_, _, _, rfl, Int.ediv_nonneg ha (by omega), hb, hb2, hk, by omega⟩⟩
  · exact ⟨Int.emod_nonneg _ (by omega), Int.emod_lt_of_pos _ hm, _, rfl, ⟨_, _, _, rfl, ha, x0, x1, by omega, by omega⟩⟩
/-! ### what the package's own looks say -/
def nob : D → Bool
  | .obj _ _ => false
  | _ => true
@[simp] theorem nob_int (i : Int) : nob (.int i) = true := rfl
@[simp] theorem nob_tup (ds : List D) : nob (.tup ds) = true := rfl
theorem gD_nob {b l : Nat} {d : D} (h : gD b l d = true) : nob d = true := by cases d <;> first | rfl | (simp [gD] at h)
theorem is_whole_eq {d : D} (S : Sto) (h : nob d = true) : m_is_whole [.d d] S = .ok (.d (.bl (wholeB d))) S := by
  refine ok_eq ?_
  unfold m_is_whole
  refine ok_fn ?_
  unfold b_is_whole
  cases d <;> simp [isi, wholeB]
  simp [nob] at h
theorem is_tuple_of_eq {d : D} {lo hi : Int} (S : Sto) (h : nob d = true) : m_is_tuple_of [.d d, .d (.int lo), .d (.int hi)] S = .ok (.d (.bl (tupB d lo hi))) S := by
  refine ok_eq ?_
  unfold m_is_tuple_of
  refine ok_fn ?_
  unfold b_is_tuple_of
  cases d <;> simp [isi, tupB]
  · split <;> rename_i c <;> simp [c]
  · simp [nob] at h
theorem is_whole_from_eq {d : D} {lo hi : Int} (S : Sto) (h : nob d = true) : m_is_whole_from [.d d, .d (.int lo), .d (.int hi)] S = .ok (.d (.bl (fromB d lo hi))) S := by
  refine ok_eq ?_
  unfold m_is_whole_from
  refine ok_fn ?_
  unfold b_is_whole_from
  cases d <;> simp [is_whole_eq, h, wholeB, fromB]
  split <;> rename_i c <;> simp [c]
theorem gD_pair {b l : Nat} {x y : D} (h : gD b l (.tup [x, y]) = true) : gD b l x = true ∧ gD b l y = true := by
  simp [gD, gDs] at h; exact h.2
theorem gD_items {b l : Nat} {ds : List D} (h : gD b l (.tup ds) = true) : ∀ d ∈ ds, gD b l d = true := by
  simp only [gD, Bool.and_eq_true] at h
  exact gDs_all.mp h.2
theorem fracB_else {ds : List D} (h : ds.length ≠ 2) : fracB (.tup ds) = false := by
  match ds, h with
  | [], _ => rfl
  | [x], _ => cases x <;> rfl
  | [x, y], h => exact absurd rfl h
  | x :: y :: z :: r, _ => cases x <;> cases y <;> rfl
theorem tup2 {ds : List D} : tupB (.tup ds) 2 2 = decide (ds.length = 2) := by
  simp only [tupB]
  rw [Bool.eq_iff_iff]
  simp
  omega
theorem is_fraction_eq {d : D} {b l : Nat} (S : Sto) (h : gD b l d = true) : m_is_fraction [.d d] S = .ok (.d (.bl (fracB d))) S := by
  have hn := gD_nob h
  refine ok_eq ?_
  unfold m_is_fraction
  refine ok_fn ?_
  unfold b_is_fraction
  cases d with
  | tup ds =>
    rcases pair_cases ds with ⟨x, y, rfl⟩ | hl
    · obtain ⟨hx, hy⟩ := gD_pair h
      have nx := gD_nob hx
      have ny := gD_nob hy
      simp [is_tuple_of_eq, hn, tup2, is_whole_eq, nx, ny]
      cases x <;> cases y <;> simp [wholeB, fracB]
      rename_i i j
      split <;> rename_i c <;> simp [c]
      omega
    · simp [is_tuple_of_eq, hn, tup2, hl, fracB_else hl]
  | _ => simp [is_tuple_of_eq, hn, tupB, fracB]
theorem is_row_of_eq {d : D} {n : Int} {b l : Nat} (S : Sto) (h : gD b l d = true) : m_is_row_of [.d (.int n), .d d] S = .ok (.d (.bl (rowB n d))) S := by
  have hn := gD_nob h
  refine ok_eq ?_
  unfold m_is_row_of
  refine ok_fn ?_
  unfold b_is_row_of
  cases d with
  | tup ds =>
    simp [isi]
    by_cases hl : (ds.length : Int) = n
    · simp [hl]
      refine ok_allG (ds := ds) (f := fracB) (by simp) (fun d hd => ?_) ?_
      · simp [wipeE, is_fraction_eq _ (gD_items h d hd)]
      · simp [rowB, hl]
    · simp [hl, rowB]
  | obj c fs => simp [nob] at hn
  | _ => simp [isi, rowB]
theorem is_wish_eq {d : D} {n : Int} {b l : Nat} (S : Sto) (h : gD b l d = true) : m_is_wish [.d (.int n), .d d] S = .ok (.d (.bl (wishB n d))) S := by
  have hn := gD_nob h
  refine ok_eq ?_
  unfold m_is_wish
  refine ok_fn ?_
  unfold b_is_wish
  cases d with
  | tup ds =>
    rcases pair_cases ds with ⟨x, y, rfl⟩ | hl
    · obtain ⟨hx, hy⟩ := gD_pair h
      simp [is_tuple_of_eq, hn, tup2, is_row_of_eq _ hx, is_fraction_eq _ hy, wishB]
      split <;> rename_i c <;> simp [c]
    · have e : wishB n (.tup ds) = false := by
        match ds, hl with
        | [], _ => rfl
        | [x], _ => rfl
        | [x, y], hl => exact absurd rfl hl
        | x :: y :: z :: r, _ => rfl
      simp [is_tuple_of_eq, hn, tup2, hl, e]
  | _ => simp [is_tuple_of_eq, hn, tupB, wishB]
theorem is_lot_eq {d : D} {b l : Nat} (S : Sto) (h : gD b l d = true) : m_is_lot [.d d] S = .ok (.d (.bl (lotB 100 d))) S := by
  have hn := gD_nob h
  refine ok_eq ?_
  unfold m_is_lot
  refine ok_fn ?_
  unfold b_is_lot
  cases d with
  | tup ds =>
    rcases pair_cases ds with ⟨x, y, rfl⟩ | hl
    · obtain ⟨hx, hy⟩ := gD_pair h
      have nx := gD_nob hx
      have ny := gD_nob hy
      simp [is_tuple_of_eq, hn, tup2, is_whole_from_eq, nx, ny]
      cases x with
      | int i =>
        cases y with
        | tup ws =>
          by_cases c : (1 ≤ i ∧ i ≤ 12) ∧ (ws.length : Int) ≤ 100
          · have c2 : ws.length ≤ 100 := by omega
            simp [fromB, tupB, c.1.1, c.1.2, c.2]
            refine ok_allG (ds := ws) (f := wishB i) (by simp) (fun d hd => ?_) ?_
            · simp [wipeE, is_wish_eq _ (gD_items hy d hd)]
            · simp [lotB, c.1.1, c.1.2, c.2]
          · have e : lotB 100 (.tup [.int i, .tup ws]) = false := by
              simp [lotB]
              intro h1 h2 h3
              exact absurd ⟨⟨h1, h2⟩, by omega⟩ c
            have c2 : ¬ ((1 ≤ i ∧ i ≤ 12) ∧ ws.length ≤ 100) := fun z => c ⟨z.1, by omega⟩
            simp [fromB, tupB, e]
            intro h1 h2 h3
            exact absurd ⟨⟨h1, h2⟩, h3⟩ c
        | _ => simp [fromB, tupB, lotB]
      | _ => simp [fromB, lotB]
    · have e : lotB 100 (.tup ds) = false := by
        match ds, hl with
        | [], _ => rfl
        | [x], _ => cases x <;> rfl
        | [x, y], hl => exact absurd rfl hl
        | x :: y :: z :: r, _ => cases x <;> cases y <;> rfl
      simp [is_tuple_of_eq, hn, tup2, hl, e]
  | _ => simp [is_tuple_of_eq, hn, tupB, lotB]
/-! ### the law's own looks -/
theorem cDiv_of {i j : Int} {b : Nat} (h0 : j ≠ 0) (hb : 0 < b) (h : j.natAbs < 2 ^ b) (h9 : b ≤ 9000) : cDiv i j = true := by
  have := PySem.Flt.log2_lt_of hb h
  unfold cDiv
  simp
  exact ⟨h0, by omega⟩
theorem frac_eq {i j : Int} {b : Nat} (S : Sto) (hj : 0 < j) (hb : 0 < b) (hjb : j.natAbs < 2 ^ b) (h9 : b ≤ 9000) :
    m__law_frac [.d (.int i), .d (.int j)] S = .ok (.d (.tup [.int (i / (Nat.gcd i.natAbs j.natAbs : Nat)), .int (j / (Nat.gcd i.natAbs j.natAbs : Nat))])) S := by
  refine ok_eq ?_
  unfold m__law_frac
  refine ok_fn ?_
  unfold b__law_frac
  have hj' : ¬ j < 0 := by omega
  generalize eg : Nat.gcd i.natAbs j.natAbs = g
  have g0 : 0 < g := by rw [← eg]; exact Nat.gcd_pos_of_pos_right _ (by omega)
  have gj : g ≤ j.natAbs := by rw [← eg]; exact Nat.gcd_le_right _ (by omega)
  have cg : ∀ x : Int, cDiv x g = true := fun x => cDiv_of (b := b) (by omega) hb (by simpa using Nat.lt_of_le_of_lt gj hjb) h9
  simp [hj']
  have ei : (if i < 0 then -i else i) = (i.natAbs : Int) := by split <;> omega
  have ej : j = (j.natAbs : Int) := by omega
  refine ok_while (fun n env S' => ∃ f : Nat, Nat.gcd f n = g ∧ env = [some (.d (.int i)), some (.d (.int j)), some (.d (.int f)), some (.d (.int n))] ∧ S' = S) j.natAbs ⟨i.natAbs, eg, by rw [ei, ← ej], rfl⟩ ?_
  rintro n env S' ⟨f, hf, rfl, rfl⟩
  simp
  by_cases hn : n = 0
  · subst hn
    have : f = g := by simpa using hf
    subst this
    simp [hj, cg, div_pos (show (0 : Int) < (f : Int) by omega), szL]
  · have hn' : (0 : Int) < (n : Int) := by omega
    simp [hn, mod_pos hn']
    rw [if_pos (by omega)]
    refine ⟨f % n, Nat.mod_lt _ (by omega), n, ?_, by simp⟩
    rw [Nat.gcd_comm, ← hf]
    exact (Nat.gcd_rec n f ▸ Nat.gcd_comm _ _)
theorem l_is_whole_eq {d : D} (S : Sto) (h : nob d = true) : m__law_is_whole [.d d] S = .ok (.d (.bl (wholeB d))) S := by
  refine ok_eq ?_
  unfold m__law_is_whole
  refine ok_fn ?_
  unfold b__law_is_whole
  cases d <;> simp [isi, wholeB]
  simp [nob] at h
/-- in lowest terms: what taking the common part out leaves alone -/
theorem lowest {a b : Int} (hb : 0 < b) : (a / (Nat.gcd a.natAbs b.natAbs : Nat) = a ∧ b / (Nat.gcd a.natAbs b.natAbs : Nat) = b) ↔ Nat.gcd a.natAbs b.natAbs = 1 := by
  constructor
  · rintro ⟨_, h⟩
    have g0 : 0 < Nat.gcd a.natAbs b.natAbs := Nat.gcd_pos_of_pos_right _ (by omega)
    generalize Nat.gcd a.natAbs b.natAbs = g at h g0
    by_cases hg : g = 1
    · exact hg
    · exfalso
      have h2 : (2 : Int) ≤ g := by omega
      have h3 : b / (g : Int) * g ≤ b := Int.ediv_mul_le b (by omega)
      rw [h] at h3
      have h4 : b * 2 ≤ b * g := Int.mul_le_mul_of_nonneg_left h2 (by omega)
      omega
  · intro h
    rw [h]
    simp
theorem py_tup_ints {a b : Int} : D.py (.tup [.int a, .int b]) = some (.tuple [.int a, .int b]) := by simp [D.py, pys]
theorem l_is_frac_eq {d : D} {b l : Nat} (S : Sto) (h : gD b l d = true) (hb : 0 < b) (h9 : b ≤ 9000) : m__law_is_frac [.d d] S = .ok (.d (.bl (fracB d))) S := by
  have hn := gD_nob h
  refine ok_eq ?_
  unfold m__law_is_frac
  refine ok_fn ?_
  unfold b__law_is_frac
  cases d with
  | tup ds =>
    rcases pair_cases ds with ⟨x, y, rfl⟩ | hl
    · obtain ⟨hx, hy⟩ := gD_pair h
      have nx := gD_nob hx
      have ny := gD_nob hy
      simp [isi, l_is_whole_eq, nx, ny]
      cases x <;> cases y <;> simp [wholeB, fracB]
      rename_i i j
      by_cases c : 0 < j
      · have hj : j.natAbs < 2 ^ b := by simpa [gD] using hy
        simp [c, frac_eq S c hb hj h9, oEqB, pyV, py_tup_ints, SeqAt.shaped, PyData.canLay0, PyData.canLayAll0, PyData.depth, PyData.depthAll, PyData.eqv, PyData.eqvAll]
        rw [Bool.eq_iff_iff]
        simp
        exact lowest c
      · simp [c]
    · simp [isi, hl, fracB_else hl]
      intro z; omega
  | obj c fs => simp [nob] at hn
  | _ => simp [isi, fracB]
theorem blsOf_map (f : D → Bool) : ∀ ds : List D, blsOf (ds.map fun d => D.bl (f d)) = some (ds.map f)
  | [] => rfl
  | d :: ds => by simp [blsOf, blsOf_map f ds]
theorem l_is_row_eq {d : D} {n : Int} {b l : Nat} (S : Sto) (h : gD b l d = true) (hb : 0 < b) (h9 : b ≤ 9000) (hl : l ≤ szL) : m__law_is_row [.d d, .d (.int n)] S = .ok (.d (.bl (rowB n d))) S := by
  have hn := gD_nob h
  refine ok_eq ?_
  unfold m__law_is_row
  refine ok_fn ?_
  unfold b__law_is_row
  cases d with
  | tup ds =>
    simp [isi]
    by_cases c : (ds.length : Int) = n
    · simp [c]
      have hz : ds.length ≤ l := by simp [gD] at h; exact h.1
      refine ok_lc (ds := ds) (f := fun d => .bl (fracB d)) (by simp) (by omega) (fun d hd c => ?_) ?_
      · simp [wipeE, l_is_frac_eq _ (gD_items h d hd) hb h9]
      · simp [bAll, seqL, blsOf_map, rowB, c, List.all_map, Function.comp_def]
    · simp [c, rowB]
  | obj c fs => simp [nob] at hn
  | _ => simp [isi, rowB]
theorem l_is_lot_eq {d : D} {b l : Nat} {m : Int} (S : Sto) (h : gD b l d = true) (hb : 0 < b) (h9 : b ≤ 9000) (hl : l ≤ szL) : m__law_is_lot [.d d, .d .non, .d (.int m)] S = .ok (.d (.bl (lotB m d))) S := by
  have hn := gD_nob h
  refine ok_eq ?_
  unfold m__law_is_lot
  refine ok_fn ?_
  unfold b__law_is_lot
  cases d with
  | tup ds =>
    rcases pair_cases ds with ⟨x, y, rfl⟩ | hl2
    · obtain ⟨hx, hy⟩ := gD_pair h
      have nx := gD_nob hx
      have ny := gD_nob hy
      simp [isi, l_is_whole_eq, nx, ny]
      cases x with
      | int i =>
        by_cases c : 0 < i ∧ i < 13
        · cases y with
          | tup ws =>
            by_cases c2 : m < ws.length
            · simp [wholeB, c.1, c.2, Dn.isNon, isi, c2, lotB]
              intro _ _ _; omega
            · simp [wholeB, c.1, c.2, Dn.isNon, isi, c2]
              have h1 : 1 ≤ i ∧ i ≤ 12 := ⟨by omega, by omega⟩
              have h3 : (ws.length : Int) ≤ m := by omega
              have no : ∀ d ∈ ws, wishB i d = false → lotB m (.tup [.int i, .tup ws]) = false := fun d hd hf => by
                simp [lotB]
                exact fun _ _ _ => ⟨d, hd, hf⟩
              refine ok_loop (I := fun k env S' => (∃ e3, env = [some (.d (.tup [.int i, .tup ws])), some (.d .non), some (.d (.int m)), e3]) ∧ S' = S ∧ (ws.take k).all (wishB i) = true) ⟨⟨_, rfl⟩, rfl, by simp⟩ (fun _ _ _ _ => wtOk_nil _) ?_ ?_
              · rintro k d env S' ed ⟨⟨e3, rfl⟩, rfl, hk⟩
                have hd : d ∈ ws := List.mem_of_getElem? ed
                have gd := gD_items hy d hd
                have nd := gD_nob gd
                have step : wishB i d = true → (ws.take (k + 1)).all (wishB i) = true := fun w => by
                  rw [List.take_add_one, ed, List.all_append, hk]
                  simp [w]
                cases d with
                | tup es =>
                  rcases pair_cases es with ⟨r, f, rfl⟩ | hl3
                  · obtain ⟨hr, hf⟩ := gD_pair gd
                    simp [isi, l_is_row_eq _ hr hb h9 hl, l_is_frac_eq _ hf hb h9]
                    by_cases w1 : rowB i r = true
                    · by_cases w2 : fracB f = true
                      · simp [w1, w2]
                        simpa using step (by simp [wishB, w1, w2])
                      · have w2' : fracB f = false := by simpa using w2
                        simp [w1, w2', no _ hd (by simp [wishB, w2'])]
                    · have w1' : rowB i r = false := by simpa using w1
                      simp [w1', no _ hd (by simp [wishB, w1'])]
                  · have e : wishB i (.tup es) = false := by
                      match es, hl3 with
                      | [], _ => rfl
                      | [x], _ => rfl
                      | [x, y], hl => exact absurd rfl hl
                      | x :: y :: z :: r, _ => rfl
                    have hl4 : ¬ ((es.length : Int) = 2) := by omega
                    simp [isi, hl4, no _ hd e]
                | obj c fs => simp [nob] at nd
                | _ => simp [isi, no _ hd rfl]
              · rintro env S' ⟨⟨e3, rfl⟩, rfl, hk⟩
                rw [List.take_length] at hk
                simp [lotB, h1.1, h1.2, h3]
                simpa using hk
          | obj c fs => simp [nob] at ny
          | _ => simp [wholeB, c.1, c.2, Dn.isNon, isi, lotB]
        · have e : lotB m (.tup [.int i, y]) = false := by
            cases y <;> simp [lotB]
            intro h1 h2
            exact absurd ⟨by omega, by omega⟩ c
          by_cases c1 : 0 < i
          · have c2 : ¬ i < 13 := fun z => c ⟨c1, z⟩
            simp [wholeB, e, c1, c2]
          · simp [wholeB, e, c1]
      | _ => simp [wholeB, lotB]
    · have e : lotB m (.tup ds) = false := by
        match ds, hl2 with
        | [], _ => rfl
        | [x], _ => cases x <;> rfl
        | [x, y], hl => exact absurd rfl hl
        | x :: y :: z :: r, _ => cases x <;> cases y <;> rfl
      simp [isi, e]
      intro z; omega
  | obj c fs => simp [nob] at hn
  | _ => simp [isi, lotB]
end Law
set_option Elab.async false
set_option linter.all false
set_option maxRecDepth 100000
set_option maxHeartbeats 2000000
namespace Law
open PySem PySem.Spec PyProof.Rows L2 GxR Gx Dn
/-! looks at charts -/
def idxB (d : D) (n : Int) : Bool := match d with
  | .int i => decide (0 ≤ i) && decide (i < n)
  | _ => false
def smallM (m z : Int) (d : D) : Bool := match d with
  | .tup [.int n, .tup ws] => decide (n = z) && lotB m (.tup [.int n, .tup ws])
  | _ => false
def startB (z p : Int) (d : D) : Bool := match d with
  | .tup [a, l] => idxB a p && smallM 40 z l
  | _ => false
def mapB (z w : Int) (d : D) : Bool := match d with
  | .tup ds => decide ((ds.length : Int) = z) && ds.all (wishB w)
  | _ => false
def caseB (z w p : Int) (d : D) : Bool := match d with
  | .tup [f, g, m, t] => idxB f p && idxB t p && (smallM 40 w g && mapB z w m)
  | _ => false
def lenB (d : D) (lo hi : Int) : Bool := tupB d lo hi
def chartB (d : D) : Bool := match d with
  | .tup [.int z, .int m, .tup st, .tup cs, .tup sf] => (decide (1 ≤ z) && decide (z ≤ 8)) && (decide (0 ≤ m) && decide (m ≤ 6)) && decide (z + m ≤ 12) && (tupB (.tup st) 1 12 && tupB (.tup cs) 0 120 && tupB (.tup sf) 1 12) &&
    (st.all (startB z sf.length) && cs.all (caseB z (z + m) sf.length) && sf.all (smallM 40 z))
  | _ => false
theorem lotB_inv {m : Int} {d : D} (h : lotB m d = true) : ∃ n ws, d = .tup [.int n, .tup ws] ∧ 1 ≤ n ∧ n ≤ 12 ∧ (ws.length : Int) ≤ m ∧ ws.all (wishB n) = true := by
  unfold lotB at h
  split at h
  · simp only [Bool.and_eq_true, decide_eq_true_eq] at h
    exact ⟨_, _, rfl, h.1.1.1, h.1.1.2, h.1.2, h.2⟩
  · cases h
theorem smallM_inv {m z : Int} {d : D} (h : smallM m z d = true) : ∃ ws, d = .tup [.int z, .tup ws] ∧ lotB m d = true := by
  unfold smallM at h
  split at h
  · simp only [Bool.and_eq_true, decide_eq_true_eq] at h
    obtain ⟨rfl, h2⟩ := h
    exact ⟨_, rfl, h2⟩
  · cases h
theorem is_index_eq {d : D} {n : Int} (S : Sto) (h : nob d = true) : m_is_index [.d d, .d (.int n)] S = .ok (.d (.bl (idxB d n))) S := by
  refine ok_eq ?_
  unfold m_is_index
  refine ok_fn ?_
  unfold b_is_index
  cases d <;> simp [is_whole_eq, h, wholeB, idxB]
  split <;> rename_i c <;> simp [c]
theorem is_small_lot_eq {d : D} {z : Int} {b l : Nat} (S : Sto) (h : gD b l d = true) : m_is_small_lot [.d (.int z), .d d] S = .ok (.d (.bl (smallM 40 z d))) S := by
  refine ok_eq ?_
  unfold m_is_small_lot
  refine ok_fn ?_
  unfold b_is_small_lot
  simp [is_lot_eq _ h]
  by_cases q : lotB 100 d = true
  · obtain ⟨n, ws, rfl, h1, h2, h3, h4⟩ := lotB_inv q
    simp [q]
    by_cases e : n = z
    · subst e
      simp [smallM, lotB, h1, h2]
      intro _ x hx
      exact List.all_eq_true.mp h4 x hx
    · simp [e, smallM]
  · have q' : lotB 100 d = false := by simpa using q
    have r : smallM 40 z d = false := by
      by_cases r : smallM 40 z d = true
      · obtain ⟨ws, rfl, r2⟩ := smallM_inv r
        obtain ⟨n, ws, e, h1, h2, h3, h4⟩ := lotB_inv r2
        cases e
        exact absurd (by simp only [lotB, Bool.and_eq_true, decide_eq_true_eq]; exact ⟨⟨⟨h1, h2⟩, by omega⟩, h4⟩) q
      · simpa using r
    simp [q', r]
theorem is_start_eq {d : D} {z p : Int} {b l : Nat} (S : Sto) (h : gD b l d = true) : m_is_start [.d (.int z), .d (.int p), .d d] S = .ok (.d (.bl (startB z p d))) S := by
  have hn := gD_nob h
  refine ok_eq ?_
  unfold m_is_start
  refine ok_fn ?_
  unfold b_is_start
  cases d with
  | tup ds =>
    rcases pair_cases ds with ⟨x, y, rfl⟩ | hl
    · obtain ⟨hx, hy⟩ := gD_pair h
      simp [is_tuple_of_eq, hn, tup2, is_index_eq, gD_nob hx, is_small_lot_eq _ hy, startB]
      split <;> rename_i c <;> simp [c]
    · have e : startB z p (.tup ds) = false := by
        match ds, hl with
        | [], _ => rfl
        | [x], _ => rfl
        | [x, y], hl => exact absurd rfl hl
        | x :: y :: z :: r, _ => rfl
      simp [is_tuple_of_eq, hn, tup2, hl, e]
  | _ => simp [is_tuple_of_eq, hn, tupB, startB]
theorem is_move_eq {d : D} {n : Int} {b l : Nat} (S : Sto) (h : gD b l d = true) : m_is_move [.d (.int n), .d d] S = .ok (.d (.bl (wishB n d))) S := by
  have hn := gD_nob h
  refine ok_eq ?_
  unfold m_is_move
  refine ok_fn ?_
  unfold b_is_move
  cases d with
  | tup ds =>
    rcases pair_cases ds with ⟨x, y, rfl⟩ | hl
    · obtain ⟨hx, hy⟩ := gD_pair h
      simp [is_tuple_of_eq, hn, tup2, is_row_of_eq _ hx, is_fraction_eq _ hy, wishB]
      split <;> rename_i c <;> simp [c]
    · have e : wishB n (.tup ds) = false := by
        match ds, hl with
        | [], _ => rfl
        | [x], _ => rfl
        | [x, y], hl => exact absurd rfl hl
        | x :: y :: z :: r, _ => rfl
      simp [is_tuple_of_eq, hn, tup2, hl, e]
  | _ => simp [is_tuple_of_eq, hn, tupB, wishB]
theorem tupN {ds : List D} {z : Int} : tupB (.tup ds) z z = decide ((ds.length : Int) = z) := by
  simp only [tupB]
  rw [Bool.eq_iff_iff]
  simp
  omega
theorem is_map_eq {d : D} {z m : Int} {b l : Nat} (S : Sto) (h : gD b l d = true) : m_is_map [.d (.int z), .d (.int m), .d d] S = .ok (.d (.bl (mapB z (z + m) d))) S := by
  have hn := gD_nob h
  refine ok_eq ?_
  unfold m_is_map
  refine ok_fn ?_
  unfold b_is_map
  simp [is_tuple_of_eq, hn]
  cases d with
  | tup ds =>
    rw [tupN]
    by_cases q : (ds.length : Int) = z
    · simp [q]
      refine ok_allG (ds := ds) (f := wishB (z + m)) (by simp) (fun d hd => ?_) ?_
      · simp [wipeE, is_move_eq _ (gD_items h d hd)]
      · simp [mapB, q]
    · simp [q, mapB]
  | _ => simp [tupB, mapB]
/-- four, or not -/
theorem four_cases (ds : List D) : (∃ x y u v, ds = [x, y, u, v]) ∨ ds.length ≠ 4 := by
  match ds with
  | [] => exact .inr (by simp)
  | [x] => exact .inr (by simp)
  | [x, y] => exact .inr (by simp)
  | [x, y, u] => exact .inr (by simp)
  | [x, y, u, v] => exact .inl ⟨x, y, u, v, rfl⟩
  | x :: y :: u :: v :: w :: r => exact .inr (by simp)
theorem five_cases (ds : List D) : (∃ x y u v w, ds = [x, y, u, v, w]) ∨ ds.length ≠ 5 := by
  match ds with
  | [] => exact .inr (by simp)
  | [x] => exact .inr (by simp)
  | [x, y] => exact .inr (by simp)
  | [x, y, u] => exact .inr (by simp)
  | [x, y, u, v] => exact .inr (by simp)
  | [x, y, u, v, w] => exact .inl ⟨x, y, u, v, w, rfl⟩
  | x :: y :: u :: v :: w :: q :: r => exact .inr (by simp)
theorem caseB_else {ds : List D} {z w p : Int} (h : ds.length ≠ 4) : caseB z w p (.tup ds) = false := by
  match ds, h with
  | [], _ => rfl
  | [x], _ => rfl
  | [x, y], _ => rfl
  | [x, y, u], _ => rfl
  | [x, y, u, v], h => exact absurd rfl h
  | x :: y :: u :: v :: w :: r, _ => rfl
theorem chartB_else {ds : List D} (h : ds.length ≠ 5) : chartB (.tup ds) = false := by
  unfold chartB
  split
  · rename_i e
    cases e
    exact absurd rfl h
  · rfl
theorem fromB_inv {d : D} {lo hi : Int} (h : fromB d lo hi = true) : ∃ i : Int, d = .int i ∧ lo ≤ i ∧ i ≤ hi := by
  unfold fromB at h
  split at h
  · simp at h; exact ⟨_, rfl, h⟩
  · cases h
theorem tupB_inv {d : D} {lo hi : Int} (h : tupB d lo hi = true) : ∃ ds, d = .tup ds ∧ lo ≤ ds.length ∧ (ds.length : Int) ≤ hi := by
  unfold tupB at h
  split at h
  · simp at h; exact ⟨_, rfl, h⟩
  · cases h
theorem chartB_inv {x y u v w : D} (h : chartB (.tup [x, y, u, v, w]) = true) : ∃ (z m : Int) (st cs sf : List D), x = .int z ∧ y = .int m ∧ u = .tup st ∧ v = .tup cs ∧ w = .tup sf ∧ fromB x 1 8 = true ∧ fromB y 0 6 = true ∧ z + m ≤ 12 ∧
    tupB u 1 12 = true ∧ tupB v 0 120 = true ∧ tupB w 1 12 = true ∧ st.all (startB z sf.length) = true ∧ cs.all (caseB z (z + m) sf.length) = true ∧ sf.all (smallM 40 z) = true := by
  unfold chartB at h
  split at h
  · rename_i e
    cases e
    simp only [Bool.and_eq_true, decide_eq_true_eq] at h
    obtain ⟨⟨⟨⟨⟨h1, h2⟩, h3, h4⟩, h5⟩, ⟨h6, h7⟩, h8⟩, ⟨h9, h10⟩, h11⟩ := h
    exact ⟨_, _, _, _, _, rfl, rfl, rfl, rfl, rfl, by simp [fromB, h1, h2], by simp [fromB, h3, h4], h5, h6, h7, h8, h9, h10, h11⟩
  · cases h
theorem chartB_no {x y u v w : D} (h : ¬ (fromB x 1 8 = true ∧ fromB y 0 6 = true ∧ tupB u 1 12 = true ∧ tupB v 0 120 = true ∧ tupB w 1 12 = true)) : chartB (.tup [x, y, u, v, w]) = false := by
  by_cases r : chartB (.tup [x, y, u, v, w]) = true
  · obtain ⟨z, m, st, cs, sf, _, _, _, _, _, h1, h2, _, h3, h4, h5, _⟩ := chartB_inv r
    exact absurd ⟨h1, h2, h3, h4, h5⟩ h
  · simpa using r
theorem is_case_eq {d : D} {z m p : Int} {b l : Nat} (S : Sto) (h : gD b l d = true) : m_is_case [.d (.int z), .d (.int m), .d (.int p), .d d] S = .ok (.d (.bl (caseB z (z + m) p d))) S := by
  have hn := gD_nob h
  refine ok_eq ?_
  unfold m_is_case
  refine ok_fn ?_
  unfold b_is_case
  simp [is_tuple_of_eq, hn]
  cases d with
  | tup ds =>
    have t4 : tupB (.tup ds) 4 4 = decide ((ds.length : Int) = 4) := tupN
    rw [t4]
    rcases four_cases ds with ⟨x, y, u, v, rfl⟩ | hl
    · have g := gD_items h
      have gx := g x (by simp)
      have gy := g y (by simp)
      have gu := g u (by simp)
      have gv := g v (by simp)
      simp [is_index_eq, gD_nob gx, gD_nob gv, is_small_lot_eq _ gy, is_map_eq _ gu, caseB]
      by_cases c1 : idxB x p = true <;> by_cases c2 : idxB v p = true <;> by_cases c3 : smallM 40 (z + m) y = true <;> simp [c1, c2, c3]
    · have hl' : ¬ ((ds.length : Int) = 4) := by omega
      simp [hl', caseB_else hl]
  | _ => simp [tupB, caseB]
theorem is_chart_eq {d : D} {b l : Nat} (S : Sto) (h : gD b l d = true) : m_is_chart [.d d] S = .ok (.d (.bl (chartB d))) S := by
  have hn := gD_nob h
  refine ok_eq ?_
  unfold m_is_chart
  refine ok_fn ?_
  unfold b_is_chart
  simp [is_tuple_of_eq, hn]
  cases d with
  | tup ds =>
    have t5 : tupB (.tup ds) 5 5 = decide ((ds.length : Int) = 5) := tupN
    rw [t5]
    rcases five_cases ds with ⟨x, y, u, v, w, rfl⟩ | hl
    · have g := gD_items h
      have gx := g x (by simp)
      have gy := g y (by simp)
      have gu := g u (by simp)
      have gv := g v (by simp)
      have gw := g w (by simp)
      simp [is_whole_from_eq, is_tuple_of_eq, gD_nob gx, gD_nob gy, gD_nob gu, gD_nob gv, gD_nob gw]
      by_cases c1 : fromB x 1 8 = true
      case neg => simp [c1, chartB_no (u := u) (v := v) (w := w) (y := y) fun z => c1 z.1]
      by_cases c2 : fromB y 0 6 = true
      case neg => simp [c1, c2, chartB_no (x := x) (u := u) (v := v) (w := w) fun z => c2 z.2.1]
      obtain ⟨z, rfl, z0, z1⟩ := fromB_inv c1
      obtain ⟨m, rfl, m0, m1⟩ := fromB_inv c2
      simp only [c1, c2, if_true, oAdd_int, ok_ok, oGt_int, toB_bl]
      by_cases c0 : 12 < z + m
      · have no : chartB (.tup [.int z, .int m, u, v, w]) = false := by
          by_cases r : chartB (.tup [.int z, .int m, u, v, w]) = true
          · obtain ⟨_, _, _, _, _, e1, e2, _, _, _, _, _, h3, _⟩ := chartB_inv r
            cases e1; cases e2
            omega
          · simpa using r
        simp [c0, no]
      have c0' : z + m ≤ 12 := by omega
      simp only [c0, decide_false, Bool.false_eq_true, if_false]
      by_cases c3 : tupB u 1 12 = true
      case neg => simp [c3, chartB_no (x := .int z) (y := .int m) (u := u) (v := v) (w := w) fun z => c3 z.2.2.1]
      by_cases c4 : tupB v 0 120 = true
      case neg => simp [c3, c4, chartB_no (x := .int z) (y := .int m) (u := u) (v := v) (w := w) fun z => c4 z.2.2.2.1]
      by_cases c5 : tupB w 1 12 = true
      case neg => simp [c3, c4, c5, chartB_no (x := .int z) (y := .int m) (u := u) (v := v) (w := w) fun z => c5 z.2.2.2.2]
      obtain ⟨st, rfl, _, _⟩ := tupB_inv c3
      obtain ⟨cs, rfl, _, _⟩ := tupB_inv c4
      obtain ⟨sf, rfl, _, _⟩ := tupB_inv c5
      simp only [c3, c4, c5, if_true, bLen_tup, ok_ok]
      have fin : chartB (.tup [.int z, .int m, .tup st, .tup cs, .tup sf]) = (st.all (startB z sf.length) && cs.all (caseB z (z + m) sf.length) && sf.all (smallM 40 z)) := by
        simp only [chartB, z0, z1, m0, m1, c0', c3, c4, c5, decide_true, Bool.and_true, Bool.true_and]
      rw [fin]
      refine ok_allG (ds := st) (f := startB z sf.length) (by simp) (fun d hd => by simp [wipeE, is_start_eq _ (gD_items gu d hd)]) ?_
      by_cases a1 : st.all (startB z sf.length) = true
      case neg => have a1' : st.all (startB z sf.length) = false := Bool.eq_false_iff.mpr a1
                  rw [a1']; simp
      rw [a1]
      simp only [toB_bl, ok_ok, if_true]
      refine ok_allG (ds := cs) (f := caseB z (z + m) sf.length) (by simp) (fun d hd => by simp [wipeE, is_case_eq _ (gD_items gv d hd)]) ?_
      by_cases a2 : cs.all (caseB z (z + m) sf.length) = true
      case neg => have a2' : cs.all (caseB z (z + m) sf.length) = false := Bool.eq_false_iff.mpr a2
                  rw [a2']; simp
      rw [a2]
      simp only [toB_bl, ok_ok, if_true]
      refine ok_allG (ds := sf) (f := smallM 40 z) (by simp) (fun d hd => by simp [wipeE, is_small_lot_eq _ (gD_items gw d hd)]) ?_
      simp
    · have hl' : ¬ ((ds.length : Int) = 5) := by omega
      simp [hl', chartB_else hl]
  | _ => simp [tupB, chartB]
end Law
set_option Elab.async false
set_option linter.all false
set_option maxRecDepth 100000
set_option maxHeartbeats 2000000
namespace Law
open PySem PySem.Spec PyProof.Rows L2 GxR Gx Dn
/-! the law's looks at charts -/
theorem l_is_lotZ_eq {d : D} {b l : Nat} {m z : Int} (S : Sto) (h : gD b l d = true) (hb : 0 < b) (h9 : b ≤ 9000) (hl : l ≤ szL) : m__law_is_lot [.d d, .d (.int z), .d (.int m)] S = .ok (.d (.bl (smallM m z d))) S := by
  have hn := gD_nob h
  refine ok_eq ?_
  unfold m__law_is_lot
  refine ok_fn ?_
  unfold b__law_is_lot
  cases d with
  | tup ds =>
    rcases pair_cases ds with ⟨x, y, rfl⟩ | hl2
    · obtain ⟨hx, hy⟩ := gD_pair h
      have nx := gD_nob hx
      have ny := gD_nob hy
      simp [isi, l_is_whole_eq, nx, ny]
      cases x with
      | int i =>
        by_cases c : 0 < i ∧ i < 13
        · by_cases cz : i = z
          case neg =>
            have e : smallM m z (.tup [.int i, y]) = false := by cases y <;> simp [smallM, cz]
            simp [wholeB, c.1, c.2, Dn.isNon, cz, e]
          subst cz
          cases y with
          | tup ws =>
            by_cases c2 : m < ws.length
            · simp [wholeB, c.1, c.2, Dn.isNon, isi, c2, smallM, lotB]
              intro _ _ _; omega
            · simp [wholeB, c.1, c.2, Dn.isNon, isi, c2]
              have h1 : 1 ≤ i ∧ i ≤ 12 := ⟨by omega, by omega⟩
              have h3 : (ws.length : Int) ≤ m := by omega
              have no : ∀ d ∈ ws, wishB i d = false → smallM m i (.tup [.int i, .tup ws]) = false := fun d hd hf => by
                simp [smallM, lotB]
                exact fun _ _ _ => ⟨d, hd, hf⟩
              refine ok_loop (I := fun k env S' => (∃ e3, env = [some (.d (.tup [.int i, .tup ws])), some (.d (.int i)), some (.d (.int m)), e3]) ∧ S' = S ∧ (ws.take k).all (wishB i) = true) ⟨⟨_, rfl⟩, rfl, by simp⟩ (fun _ _ _ _ => wtOk_nil _) ?_ ?_
              · rintro k d env S' ed ⟨⟨e3, rfl⟩, rfl, hk⟩
                have hd : d ∈ ws := List.mem_of_getElem? ed
                have gd := gD_items hy d hd
                have nd := gD_nob gd
                have step : wishB i d = true → (ws.take (k + 1)).all (wishB i) = true := fun w => by
                  rw [List.take_add_one, ed, List.all_append, hk]
                  simp [w]
                cases d with
                | tup es =>
                  rcases pair_cases es with ⟨r, f, rfl⟩ | hl3
                  · obtain ⟨hr, hf⟩ := gD_pair gd
                    simp [isi, l_is_row_eq _ hr hb h9 hl, l_is_frac_eq _ hf hb h9]
                    by_cases w1 : rowB i r = true
                    · by_cases w2 : fracB f = true
                      · simp [w1, w2]
                        simpa using step (by simp [wishB, w1, w2])
                      · have w2' : fracB f = false := by simpa using w2
                        simp [w1, w2', no _ hd (by simp [wishB, w2'])]
                    · have w1' : rowB i r = false := by simpa using w1
                      simp [w1', no _ hd (by simp [wishB, w1'])]
                  · have e : wishB i (.tup es) = false := by
                      match es, hl3 with
                      | [], _ => rfl
                      | [x], _ => rfl
                      | [x, y], hl => exact absurd rfl hl
                      | x :: y :: z :: r, _ => rfl
                    have hl4 : ¬ ((es.length : Int) = 2) := by omega
                    simp [isi, hl4, no _ hd e]
                | obj c fs => simp [nob] at nd
                | _ => simp [isi, no _ hd rfl]
              · rintro env S' ⟨⟨e3, rfl⟩, rfl, hk⟩
                rw [List.take_length] at hk
                simp [smallM, lotB, h1.1, h1.2, h3]
                simpa using hk
          | obj c fs => simp [nob] at ny
          | _ => simp [wholeB, c.1, c.2, Dn.isNon, isi, smallM]
        · have e : smallM m z (.tup [.int i, y]) = false := by
            cases y <;> simp [smallM, lotB]
            intro _ h1 h2
            exact absurd ⟨by omega, by omega⟩ c
          by_cases c1 : 0 < i
          · have c2 : ¬ i < 13 := fun z => c ⟨c1, z⟩
            simp [wholeB, e, c1, c2]
          · simp [wholeB, e, c1]
      | _ => simp [wholeB, smallM]
    · have e : smallM m z (.tup ds) = false := by
        match ds, hl2 with
        | [], _ => rfl
        | [x], _ => cases x <;> rfl
        | [x, y], hl => exact absurd rfl hl
        | x :: y :: z :: r, _ => cases x <;> cases y <;> rfl
      simp [isi, e]
      intro z; omega
  | obj c fs => simp [nob] at hn
  | _ => simp [isi, smallM]
def isTup (d : D) : Bool := match d with
  | .tup _ => true
  | _ => false
theorem isTup_inv {d : D} (h : isTup d = true) : ∃ ds, d = .tup ds := by
  unfold isTup at h
  split at h
  · exact ⟨_, rfl⟩
  · cases h
theorem isi_tup {d : D} (h : nob d = true) : isi d .tup = some (isTup d) := by cases d <;> first | rfl | simp [nob] at h
theorem wholeB_inv {d : D} (h : wholeB d = true) : ∃ i, d = .int i := by
  unfold wholeB at h
  split at h
  · exact ⟨_, rfl⟩
  · cases h
theorem fromB_whole {d : D} {lo hi : Int} (h : fromB d lo hi = true) : wholeB d = true := by
  obtain ⟨i, rfl, _⟩ := fromB_inv h
  rfl
theorem startB_else {ds : List D} {z p : Int} (h : ds.length ≠ 2) : startB z p (.tup ds) = false := by
  unfold startB
  split
  · rename_i e; cases e; exact absurd rfl h
  · rfl
end Law
set_option Elab.async false
set_option linter.all false
set_option maxRecDepth 100000
set_option maxHeartbeats 1000000
namespace Law
open PySem PySem.Spec PyProof.Rows L2 GxR Gx Dn
theorem WOk.mono {t t' : Nat} {c : Cell} (h : WOk t c) (l : t ≤ t') : WOk t' c := by
  obtain ⟨a, b, k, rfl, h1, h2, h3, h4, h5⟩ := h.ex
  exact ⟨a, b, k, rfl, h1, h2, h3, h4, by omega⟩
theorem atI_mem {α : Type} {xs : List α} {j : Int} (h0 : 0 ≤ j) (h1 : j < xs.length) : ∃ x, atI xs j = some x ∧ x ∈ xs := by
  obtain ⟨k, rfl⟩ := Int.eq_ofNat_of_zero_le h0
  rw [atI_cast]
  have h : k < xs.length := by omega
  exact ⟨xs[k], List.getElem?_eq_getElem h, List.getElem_mem h⟩
/-- a pair of small numbers -/
def numD (d : D) : Prop := ∃ a b : Int, d = .tup [.int a, .int b] ∧ a.natAbs < 64 ∧ b.natAbs < 64 ∧ 0 < b ∧ Nat.gcd a.natAbs b.natAbs = 1 ∧ b ∣ 12
theorem low_frac {i j : Int} (hj : 0 < j) : 0 < j / ((Nat.gcd i.natAbs j.natAbs : Nat) : Int) ∧ Nat.gcd (i / ((Nat.gcd i.natAbs j.natAbs : Nat) : Int)).natAbs (j / ((Nat.gcd i.natAbs j.natAbs : Nat) : Int)).natAbs = 1 := by
  have g0 : 0 < Int.gcd i j := Int.gcd_pos_of_ne_zero_right _ (by omega)
  exact ⟨Int.ediv_pos_of_pos_of_dvd hj (by omega) (Int.gcd_dvd_right ..), Int.gcd_ediv_gcd_ediv_gcd g0⟩
theorem numD_frac {d : D} (h : numD d) : fracB d = true := by
  obtain ⟨a, b, rfl, _, _, h1, h2, _⟩ := h
  simp [fracB, h1, h2]
theorem dvd_small {i j : Int} (h0 : 2 ≤ j) (h1 : j ≤ 4) : j / ((Nat.gcd i.natAbs j.natAbs : Nat) : Int) ∣ 12 := by
  have h : j ∣ 12 := by
    have : j = 2 ∨ j = 3 ∨ j = 4 := by omega
    rcases this with rfl | rfl | rfl <;> decide
  have g : ((Nat.gcd i.natAbs j.natAbs : Nat) : Int) ∣ j := Int.gcd_dvd_right ..
  exact Int.dvd_trans ⟨_, (Int.ediv_mul_cancel g).symm⟩ h
theorem div_small {a : Int} {g b : Nat} (h : a.natAbs < b) : (a / (g : Int)).natAbs < b := Nat.lt_of_le_of_lt (Int.natAbs_ediv_le_natAbs _ _) h
/-- drawn: a value with P, the well at n another -/
structure Dw (n : Nat) (S : Sto) (t : Nat) (P : D → Prop) (x : Val) (S' : Sto) : Prop where
  ex : ∃ d c', x = .d d ∧ P d ∧ S' = S.set n c' ∧ WOk t c'
def rowD (z : Nat) (d : D) : Prop := ∃ ds, d = .tup ds ∧ ds.length = z ∧ ∀ x ∈ ds, numD x
section
variable {n t : Nat} {S : Sto} {c : Cell}
theorem lt_of (hc : S[n]? = some c) : n < S.length := (List.getElem?_eq_some_iff.mp hc).1
theorem set_at (hc : S[n]? = some c) (d : Cell) : (S.set n d)[n]? = some d := List.getElem?_set_self (lt_of hc)
theorem set_same (hc : S[n]? = some c) : S.set n c = S := by
  apply List.ext_getElem?
  intro m
  by_cases hm : n = m
  · subst hm; rw [set_at hc, hc]
  · rw [List.getElem?_set_ne hm]
theorem number_spec (hc : S[n]? = some c) (hw : WOk t c) (ht : t < 2 ^ 100) :
    Ok (m__law_number [.r n] S) (Dw n S (t + 3) numD) := by
  unfold m__law_number
  refine ok_fn ?_
  unfold b__law_number
  simp
  refine (draw_spec hc hw (by omega) (by decide) (by decide)).mono ?_
  rintro _ _ ⟨i, c1, rfl, i0, i1, rfl, w1⟩
  simp
  by_cases h : 0 < i
  · simp [h, szL]
    refine (draw_spec (set_at hc c1) w1 (by omega) (by decide) (by decide)).mono ?_
    rintro _ _ ⟨j, c2, rfl, j0, j1, rfl, w2⟩
    simp
    obtain ⟨x, e, hx⟩ := atI_mem (xs := [D.tup [.int 0, .int 1], .tup [.int 1, .int 1], .tup [.int (-1), .int 1], .tup [.int 2, .int 1], .tup [.int 0, .int 1], .tup [.int (-2), .int 1], .tup [.int 3, .int 1], .tup [.int 1, .int 1]]) j0 j1
    simp [e, take_set, List.set_set]
    refine ⟨x, c2, rfl, ?_, rfl, w2.mono (by omega)⟩
    simp at hx
    rcases hx with rfl | rfl | rfl | rfl | rfl | rfl | rfl | rfl <;> exact ⟨_, _, rfl, by decide, by decide, by decide, by decide⟩
  · simp [h]
    refine (draw_spec (set_at hc c1) w1 (by omega) (by decide) (by decide)).mono ?_
    rintro _ _ ⟨j, c2, rfl, j0, j1, rfl, w2⟩
    simp
    refine (draw_spec (by simpa using set_at hc c2) w2 (by omega) (by decide) (by decide)).mono ?_
    rintro _ _ ⟨k, c3, rfl, k0, k1, rfl, w3⟩
    simp
    rw [frac_eq (b := 4) _ (by omega) (by decide) (by omega) (by decide)]
    simp [take_set, List.set_set]
    exact ⟨_, c3, rfl, ⟨_, _, rfl, div_small (by omega), div_small (by omega), (low_frac (by omega)).1, (low_frac (by omega)).2, dvd_small (by omega) (by omega)⟩, rfl, w3.mono (by omega)⟩
/-! a cell behind -/
theorem push_at {T : Sto} {L : Nat} (h : T.length = L) (d : Cell) : (T ++ [d])[L]? = some d := by subst h; simp
theorem push_in {T : Sto} {L m : Nat} (h : T.length = L) (hm : m < L) (d : Cell) : (T ++ [d])[m]? = T[m]? := List.getElem?_append_left (by omega)
theorem push_set {T : Sto} {L m : Nat} (h : T.length = L) (hm : m < L) (d e : Cell) : (T ++ [d]).set m e = T.set m e ++ [d] := by
  subst h; rw [List.set_append_left _ _ hm]
theorem push_put {T : Sto} {L : Nat} (h : T.length = L) (d e : Cell) : (T ++ [d]).set L e = T ++ [e] := by
  subst h; simp
theorem push_take {T : Sto} {L : Nat} (h : T.length = L) (R : Sto) : (T ++ R).take L = T := by
  subst h; simp
theorem cell_nil (env : Dn.Env) (S : Sto) : dCall oCell dNil env S = .ok (.r S.length) (S ++ [.lst []]) := (mkC_some [] S).trans (if_pos (show ([] : List D).length ≤ szL from Nat.zero_le _))
theorem asg_cell (i : Nat) (env : Dn.Env) (S : Sto) : dAsg (dCall oCell dNil) (dgName i) env S = .ok (.nx (env.set i (some (.r S.length)))) (S ++ [.lst []]) := by
  rw [dAsg_eq, cell_nil]
  rfl
theorem iRng1_sm {j : Int} (h : smallI j = true) (S : Sto) : iRng1 [.d (.int j)] S = .ok ⟨rngD 0 j.toNat, []⟩ S := by rw [iRng1_eq, h]; simp
theorem row_spec {z : Nat} (hc : S[n]? = some c) (hw : WOk t c) (ht : t < 2 ^ 99) (hz : z ≤ 100) :
    Ok (m__law_row [.r n, .d (.int z)] S) (Dw n S (t + 3 * z) (rowD z)) := by
  have hn := lt_of hc
  unfold m__law_row
  refine ok_fn ?_
  unfold b__law_row
  have sm : smallI (z : Int) = true := by unfold smallI; simp; omega
  rw [dSeq_eq, asg_cell]
  simp [sm]
  have hl : ∀ c', (S.set n c').length = S.length := fun c' => by simp
  obtain ⟨I, hI⟩ : ∃ I : Nat → Dn.Env → Sto → Prop, ∀ k env S', I k env S' ↔ ∃ acc c' e3, env = [some (.r n), some (.d (.int z)), some (.r S.length), e3] ∧ S' = S.set n c' ++ [.lst acc] ∧ acc.length = k ∧ (∀ d ∈ acc, numD d) ∧ WOk (t + 3 * k) c' := ⟨_, fun _ _ _ => Iff.rfl⟩
  refine ok_loop (I := I) ((hI _ _ _).mpr ⟨[], c, _, rfl, by rw [set_same hc], rfl, by simp, hw⟩) (fun _ _ _ _ => wtOk_nil _) ?_ ?_
  · rintro k d env S' ed h
    obtain ⟨acc, c', e3, rfl, rfl, hk, ha, w⟩ := (hI _ _ _).mp h
    have hkz : k < z := by simpa [rngD] using (List.getElem?_eq_some_iff.mp ed).1
    simp [push_at (hl c')]
    refine (number_spec (by rw [push_in (hl c') hn]; exact set_at hc c') w (by omega)).mono ?_
    rintro _ _ ⟨x, c2, rfl, hx, rfl, w2⟩
    have hz2 : acc.length < 16777216 := by omega
    simp [push_set (hl c') hn, push_at (hl c2), push_put (hl c2), List.set_set, szL, hz2]
    refine (hI _ _ _).mpr ⟨acc ++ [x], c2, _, rfl, rfl, by simp [hk], ?_, w2.mono (by omega)⟩
    intro d hd
    simp at hd
    rcases hd with hd | rfl
    · exact ha d hd
    · exact hx
  · rintro env S' h
    obtain ⟨acc, c', e3, rfl, rfl, hk, ha, w⟩ := (hI _ _ _).mp h
    simp [push_at (hl c'), push_take (hl c')]
    simp [rngD] at hk
    exact ⟨_, c', rfl, ⟨acc, rfl, hk, ha⟩, rfl, by simpa [rngD] using w⟩
end
end Law
set_option Elab.async false
set_option linter.all false
set_option maxRecDepth 100000
set_option maxHeartbeats 1000000
namespace Law
open PySem PySem.Spec PyProof.Rows L2 GxR Gx Dn
/-- ints below 2^b and tuples not longer than l, not deeper than h -/
def pD (b l : Nat) : Nat → D → Prop
  | 0, d => ∃ i : Int, d = .int i ∧ i.natAbs < 2 ^ b
  | h + 1, d => (∃ i : Int, d = .int i ∧ i.natAbs < 2 ^ b) ∨ ∃ ds, d = .tup ds ∧ ds.length ≤ l ∧ ∀ x ∈ ds, pD b l h x
theorem pD_int {b l : Nat} {i : Int} (hi : i.natAbs < 2 ^ b) : ∀ h, pD b l h (.int i)
  | 0 => ⟨i, rfl, hi⟩
  | h + 1 => .inl ⟨i, rfl, hi⟩
theorem pD_tup {b l h : Nat} {ds : List D} (hl : ds.length ≤ l) (hd : ∀ x ∈ ds, pD b l h x) : pD b l (h + 1) (.tup ds) := .inr ⟨ds, rfl, hl, hd⟩
theorem pD_up {b l : Nat} : ∀ {h : Nat} {d : D}, pD b l h d → pD b l (h + 1) d
  | 0, d, h => .inl h
  | h + 1, d, .inl e => .inl e
  | h + 1, d, .inr ⟨ds, e, hl, hx⟩ => .inr ⟨ds, e, hl, fun x m => pD_up (hx x m)⟩
theorem pD_le {b l h : Nat} {d : D} (p : pD b l h d) : ∀ k, pD b l (h + k) d
  | 0 => p
  | k + 1 => pD_up (pD_le p k)
theorem pD_wide {b l b' l' : Nat} (hb : b ≤ b') (hl : l ≤ l') : ∀ {h : Nat} {d : D}, pD b l h d → pD b' l' h d
  | 0, d, ⟨i, e, h⟩ => ⟨i, e, Nat.lt_of_lt_of_le h (Nat.pow_le_pow_right (by decide) hb)⟩
  | h + 1, d, .inl ⟨i, e, h'⟩ => .inl ⟨i, e, Nat.lt_of_lt_of_le h' (Nat.pow_le_pow_right (by decide) hb)⟩
  | h + 1, d, .inr ⟨ds, e, hl', hx⟩ => .inr ⟨ds, e, Nat.le_trans hl' hl, fun x m => pD_wide hb hl (hx x m)⟩
theorem pD_gD {b l : Nat} : ∀ {h : Nat} {d : D}, pD b l h d → gD b l d = true
  | 0, d, ⟨i, e, h⟩ => by subst e; simpa [gD] using h
  | h + 1, d, .inl ⟨i, e, h'⟩ => by subst e; simpa [gD] using h'
  | h + 1, d, .inr ⟨ds, e, hl, hx⟩ => by
    subst e
    simp only [gD, Bool.and_eq_true, decide_eq_true_eq]
    exact ⟨hl, gDs_all.mpr fun x m => pD_gD (hx x m)⟩
theorem pys_of {Q : PyData → Prop} : ∀ {ds : List D}, (∀ x ∈ ds, ∃ p, x.py = some p ∧ Q p) → ∃ ps, pys ds = some ps ∧ ps.length = ds.length ∧ ∀ p ∈ ps, Q p
  | [], _ => ⟨[], rfl, rfl, by simp⟩
  | d :: ds, h => by
    obtain ⟨p, e, q⟩ := h d List.mem_cons_self
    obtain ⟨ps, e2, l2, q2⟩ := pys_of fun x m => h x (List.mem_cons_of_mem _ m)
    refine ⟨p :: ps, by simp [pys, e, e2], by simp [l2], ?_⟩
    intro x hx
    simp at hx
    rcases hx with rfl | hx
    · exact q
    · exact q2 x hx
theorem can_all : ∀ {ps : List PyData}, (∀ p ∈ ps, p.canLay0 = true) → PyData.canLayAll0 ps = true
  | [], _ => by simp [PyData.canLayAll0]
  | p :: ps, h => by simp [PyData.canLayAll0, h p List.mem_cons_self, can_all fun x m => h x (List.mem_cons_of_mem _ m)]
theorem depth_all {k : Nat} : ∀ {ps : List PyData}, (∀ p ∈ ps, p.depth ≤ k) → PyData.depthAll ps ≤ k
  | [], _ => by simp [PyData.depthAll]
  | p :: ps, h => by
    have := h p List.mem_cons_self
    have := depth_all fun x m => h x (List.mem_cons_of_mem _ m)
    simp only [PyData.depthAll]
    omega
theorem pD_py {b l : Nat} : ∀ {h : Nat} {d : D}, pD b l h d → ∃ p, d.py = some p ∧ p.canLay0 = true ∧ p.depth ≤ h
  | 0, d, ⟨i, e, h⟩ => by subst e; exact ⟨.int i, by simp [D.py], by simp [PyData.canLay0], by simp [PyData.depth]⟩
  | h + 1, d, .inl ⟨i, e, h'⟩ => by subst e; exact ⟨.int i, by simp [D.py], by simp [PyData.canLay0], by simp [PyData.depth]⟩
  | h + 1, d, .inr ⟨ds, e, hl, hx⟩ => by
    subst e
    obtain ⟨ps, e2, l2, q⟩ := pys_of (Q := fun p => p.canLay0 = true ∧ p.depth ≤ h) fun x m => pD_py (hx x m)
    refine ⟨.tuple ps, by simp [D.py, e2], by simpa [PyData.canLay0] using can_all fun p m => (q p m).1, ?_⟩
    have := depth_all fun p m => (q p m).2
    simp only [PyData.depth]
    omega
theorem eqv_nil_t (ps : List PyData) : PyData.eqv (.tuple ps) (.tuple []) = decide (ps = []) := by cases ps <;> simp [PyData.eqv, PyData.eqvAll]
theorem eqv_nil_l (ps : List PyData) : PyData.eqv (.list ps) (.list []) = decide (ps = []) := by cases ps <;> simp [PyData.eqv, PyData.eqvAll]
/-- a tuple beside () -/
theorem ne_nil {neg : Bool} {b l h : Nat} {ds : List D} (hx : ∀ x ∈ ds, pD b l h x) (hh : h ≤ 60) (S : Sto) : oEqB neg (.d (.tup ds)) (.d (.tup [])) S = .ok (.d (.bl (xor neg (decide (ds = []))))) S := by
  obtain ⟨ps, e2, l2, q⟩ := pys_of (Q := fun p => p.canLay0 = true ∧ p.depth ≤ h) fun x m => pD_py (hx x m)
  have c := can_all fun p m => (q p m).1
  have dd := depth_all fun p m => (q p m).2
  have s1 : SeqAt.shaped (.tuple ps) = true := by simp [SeqAt.shaped, PyData.canLay0, c, PyData.depth]; omega
  have s2 : SeqAt.shaped (.tuple []) = true := by decide
  have en : (ps = []) = (ds = []) := propext (by rw [← List.length_eq_zero_iff, ← List.length_eq_zero_iff (l := ds), l2])
  simp only [oEqB, pyV, D.py, e2, pys, Option.map_some, s1, s2, Bool.and_self, if_true, eqv_nil_t, en]
/-- a place beside [] -/
theorem ne_cell {neg : Bool} {b l h L : Nat} {ds : List D} {S : Sto} (hL : S[L]? = some (.lst ds)) (hx : ∀ x ∈ ds, pD b l h x) (hh : h ≤ 60) : oEqB neg (.r L) (.d (.lst [])) S = .ok (.d (.bl (xor neg (decide (ds = []))))) S := by
  obtain ⟨ps, e2, l2, q⟩ := pys_of (Q := fun p => p.canLay0 = true ∧ p.depth ≤ h) fun x m => pD_py (hx x m)
  have c := can_all fun p m => (q p m).1
  have dd := depth_all fun p m => (q p m).2
  have s1 : SeqAt.shaped (.list ps) = true := by simp [SeqAt.shaped, PyData.canLay0, c, PyData.depth]; omega
  have s2 : SeqAt.shaped (.list []) = true := by decide
  have en : (ps = []) = (ds = []) := propext (by rw [← List.length_eq_zero_iff, ← List.length_eq_zero_iff (l := ds), l2])
  simp only [oEqB, pyV, hL, D.py, e2, pys, Option.map_some, s1, s2, Bool.and_self, if_true, eqv_nil_l, en]
theorem numD_pD {d : D} (h : numD d) : pD 8 102 1 d := by
  obtain ⟨a, b, rfl, ha, hb, _⟩ := h
  refine pD_tup (by simp) fun x hx => ?_
  simp at hx
  rcases hx with rfl | rfl
  · exact pD_int (by omega) 0
  · exact pD_int (by omega) 0
theorem rowD_pD {z : Nat} {d : D} (h : rowD z d) (hz : z ≤ 102) : pD 8 102 2 d := by
  obtain ⟨ds, rfl, hl, hx⟩ := h
  exact pD_tup (by omega) fun x m => numD_pD (hx x m)
def wishD (z : Nat) (d : D) : Prop := ∃ r f, d = .tup [r, f] ∧ rowD z r ∧ numD f
theorem wishD_pD {z : Nat} {d : D} (h : wishD z d) (hz : z ≤ 102) : pD 8 102 3 d := by
  obtain ⟨r, f, rfl, hr, hf⟩ := h
  refine pD_tup (by simp) fun x hx => ?_
  simp at hx
  rcases hx with rfl | rfl
  · exact rowD_pD hr hz
  · exact pD_up (numD_pD hf)
def lotD (z m : Nat) (d : D) : Prop := ∃ ws, d = .tup [.int z, .tup ws] ∧ ws.length ≤ m ∧ ∀ x ∈ ws, wishD z x
theorem lotD_pD {z m : Nat} {d : D} (h : lotD z m d) (hz : z ≤ 102) (hm : m ≤ 102) : pD 8 102 5 d := by
  obtain ⟨ws, rfl, hl, hx⟩ := h
  refine pD_tup (by simp) fun x hx' => ?_
  simp at hx'
  rcases hx' with rfl | rfl
  · exact pD_int (by simp; omega) 4
  · exact pD_tup (by omega) fun x m => wishD_pD (hx x m) hz
theorem rowD_row {z : Nat} {d : D} (h : rowD z d) : rowB z d = true := by
  obtain ⟨ds, rfl, hl, hx⟩ := h
  simp only [rowB, Bool.and_eq_true, decide_eq_true_eq, List.all_eq_true]
  exact ⟨by omega, fun x m => numD_frac (hx x m)⟩
theorem wishD_wish {z : Nat} {d : D} (h : wishD z d) : wishB z d = true := by
  obtain ⟨r, f, rfl, hr, hf⟩ := h
  simp [wishB, rowD_row hr, numD_frac hf]
theorem lotD_lot {z m : Nat} {d : D} {k : Int} (h : lotD z m d) (h0 : 1 ≤ z) (h1 : z ≤ 12) (hk : (m : Int) ≤ k) : lotB k d = true := by
  obtain ⟨ws, rfl, hl, hx⟩ := h
  simp only [lotB, Bool.and_eq_true, decide_eq_true_eq, List.all_eq_true]
  exact ⟨⟨⟨by omega, by omega⟩, by omega⟩, fun x m => wishD_wish (hx x m)⟩
section
variable {n t : Nat} {S : Sto} {c : Cell}
/-- one of a tuple -/
theorem of_spec {ds : List D} (hc : S[n]? = some c) (hw : WOk t c) (ht : t < 2 ^ 100) (h0 : ds ≠ []) (hl : ds.length < 1000000) :
    Ok (m__law_of [.r n, .d (.tup ds)] S) (Dw n S (t + 1) (· ∈ ds)) := by
  unfold m__law_of
  refine ok_fn ?_
  unfold b__law_of
  simp
  have hp : 0 < ds.length := List.length_pos_iff.mpr h0
  refine (draw_spec hc hw (by omega) (by omega) (by omega)).mono ?_
  rintro _ _ ⟨i, c1, rfl, i0, i1, rfl, w1⟩
  obtain ⟨x, e, hx⟩ := atI_mem i0 i1
  simp [e, take_set]
  exact ⟨x, c1, rfl, hx, rfl, w1⟩
/-- one of a list that is a place -/
theorem of_cell {L : Nat} {ds : List D} (hc : S[n]? = some c) (hL : S[L]? = some (.lst ds)) (hne : n ≠ L) (hw : WOk t c) (ht : t < 2 ^ 100) (h0 : ds ≠ []) (hl : ds.length < 1000000) :
    Ok (m__law_of [.r n, .r L] S) (Dw n S (t + 1) (· ∈ ds)) := by
  unfold m__law_of
  refine ok_fn ?_
  unfold b__law_of
  simp [hL]
  have hp : 0 < ds.length := List.length_pos_iff.mpr h0
  refine (draw_spec hc hw (by omega) (by omega) (by omega)).mono ?_
  rintro _ _ ⟨i, c1, rfl, i0, i1, rfl, w1⟩
  obtain ⟨x, e, hx⟩ := atI_mem i0 i1
  simp [List.getElem?_set_ne hne, hL, e, take_set]
  exact ⟨x, c1, rfl, hx, rfl, w1⟩
end
end Law
set_option Elab.async false
set_option linter.all false
set_option maxRecDepth 100000
set_option maxHeartbeats 2000000
namespace Law
open PySem PySem.Spec PyProof.Rows L2 GxR Gx Dn
theorem ok_lc2 {it : DIf} {g : DGf} {te : DEf} {vs : List Nat} {env : Dn.Env} {S S1 : Sto} {ds : List D} {f : D → D} {Q : Val → Sto → Prop} (hi : it env S = .ok ⟨ds, []⟩ S1) (hl : ds.length ≤ szL)
    (hf : ∀ d ∈ ds, ∀ c, Ok (g (.d d) (wipeE env vs) (S1 ++ [c])) fun env1 S2 => Ok (te env1 S2) fun z S3 => z = .d (f d) ∧ S3 = S1 ++ [c]) (q : Q (.d (.lst (ds.map f))) S1) : Ok (dLc it g dYes te vs env S) Q := by
  have e : dLc it g dYes te vs env S = dLc (fun _ T => .ok ⟨ds, []⟩ T) g dYes te vs env S1 := by
    unfold dLc
    rw [hi]
  rw [e]
  exact ok_lc (by rfl) hl hf q
theorem rng_mem {z : Nat} {d : D} (h : d ∈ rngD 0 z) : ∃ i : Int, d = .int i ∧ 0 ≤ i ∧ i < z := by
  simp [rngD] at h
  obtain ⟨i, hi, rfl⟩ := h
  exact ⟨_, rfl, by omega, by omega⟩
@[simp] theorem rng_len {z : Nat} : (rngD 0 z).length = z := by simp [rngD]
theorem sm_of {i : Int} (h0 : 0 ≤ i) (h : i < 1000000) : smallI i = true := by unfold smallI; simp; omega
section
variable {n t : Nat} {S : Sto} {c : Cell}
def unitF (way spot : Int) (d : D) : D := match d with
  | .int i => if i = spot then .tup [.int (1 - 2 * way), .int 1] else .tup [.int 0, .int 1]
  | _ => .non
def backF (d : D) : D := match d with
  | .tup [.int a, .int b] => .tup [.int (0 - a), .int b]
  | _ => .non
end
end Law
set_option Elab.async false
set_option linter.all false
set_option maxRecDepth 100000
set_option maxHeartbeats 2000000
namespace Law
open PySem PySem.Spec PyProof.Rows L2 GxR Gx Dn
theorem cutL_mem {α : Type} {xs : List α} {lo hi : Option Int} {x : α} (h : x ∈ cutL xs lo hi) : x ∈ xs := List.mem_of_mem_drop (List.mem_of_mem_take h)
theorem cutL_len {α : Type} {xs : List α} {lo hi : Option Int} : (cutL xs lo hi).length ≤ xs.length := by
  unfold cutL
  simp
  omega
theorem pow_up {b : Nat} : 2 ^ (b + 1) = 2 * 2 ^ b := by rw [Nat.pow_succ, Nat.mul_comm]
end Law
set_option Elab.async false
set_option linter.all false
set_option maxRecDepth 100000
set_option maxHeartbeats 2000000
namespace Law
open PySem PySem.Spec PyProof.Rows L2 GxR Gx Dn
/-- a comprehension whose items leave new places behind the list's -/
theorem ok_lcR {it : DIf} {g : DGf} {te : DEf} {vs : List Nat} {env : Dn.Env} {S : Sto} {ds : List D} {f : D → D} {Q : Val → Sto → Prop} (hi : it env S = .ok ⟨ds, []⟩ S) (hl : ds.length ≤ szL)
    (hf : ∀ d ∈ ds, ∀ c R, Ok (g (.d d) (wipeE env vs) (S ++ c :: R)) fun env1 S1 => Ok (te env1 S1) fun z S2 => ∃ R', z = .d (f d) ∧ S2 = S ++ c :: R') (q : Q (.d (.lst (ds.map f))) S) : Ok (dLc it g dYes te vs env S) Q := by
  have at_ : ∀ c R, (S ++ c :: R)[S.length]? = some c := fun c R => by simp
  have put : ∀ c c' R, (S ++ c :: R).set S.length c' = S ++ c' :: R := fun c c' R => by simp
  have key : ∀ (es acc : List D) (R : Sto), (∀ d ∈ es, d ∈ ds) → acc.length + es.length ≤ szL → ∃ R', lcLoop g dYes te [] (wipeE env vs) S.length es acc (S ++ .lst acc :: R) = .ok (acc ++ es.map f) (S ++ .lst (acc ++ es.map f) :: R') := by
    intro es
    induction es with
    | nil =>
      intro acc R _ _
      unfold lcLoop
      rw [if_pos ⟨wtOk_nil _, at_ _ _⟩]
      exact ⟨R, by simp⟩
    | cons d es ih =>
      intro acc R hm hz
      unfold lcLoop
      rw [if_pos (wtOk_nil _)]
      obtain ⟨env1, S1, e1, z, S2, e2, R', rfl, rfl⟩ := hf d (hm d List.mem_cons_self) (.lst acc) R
      rw [e1]
      simp only [Out.bind_ok, dYes, if_true, e2]
      rw [if_pos ⟨by simp at hz; omega, at_ _ _⟩, put]
      obtain ⟨R2, e3⟩ := ih (acc ++ [f d]) R' (fun x hx => hm x (List.mem_cons_of_mem _ hx)) (by simp at hz ⊢; omega)
      rw [e3]
      exact ⟨R2, by simp⟩
  unfold dLc
  rw [hi]
  simp only [Out.bind_ok]
  obtain ⟨R, e⟩ := key ds [] [] (fun _ h => h) (by simpa using hl)
  rw [e]
  simpa using q
theorem dFin_new {S : Sto} {c : Cell} : dFin S (.r S.length) (S ++ [c]) = .ok (.r S.length) (S ++ [c]) := by
  unfold dFin
  simp
/-- a new place -/
structure Nw (S : Sto) (P : Cell → Prop) (x : Val) (S' : Sto) : Prop where
  ex : ∃ c, x = .r S.length ∧ S' = S ++ [c] ∧ P c
theorem well_spec {ns : List Int} {k : Nat} {S : Sto} (hk : k ≤ 2) (hl : ns.length ≤ 63) : Ok (m__law_well [.d (.con (ns.map .int)), .d (.int k)] S) (Nw S (WOk 0)) := by
  have c1 : cMul 131 k = true := cMul_of 8 8 (by decide) (by decide) (by decide) (by omega) (by decide)
  have cp : cPow 10 16 = true := by decide
  unfold m__law_well
  refine ok_fn ?_
  unfold b__law_well
  rw [dSeq_eq, ok_bind]
  obtain ⟨Q, hQ⟩ : ∃ Q : Dn.Fl → Sto → Prop, ∀ fl S2, Q fl S2 ↔ ∃ own : Int, fl = .nx [some (.d (.con (ns.map .int))), some (.d (.int k)), some (.d (.int own)), none, none] ∧ S2 = S := ⟨_, fun _ _ => Iff.rfl⟩
  refine Ok.mono (Q := Q) ?_ ?_
  · simp
    by_cases q : k < ns.length
    · obtain ⟨x, e, hx⟩ := atI_mem (xs := ns.map D.int) (j := (k : Int)) (by omega) (by simp; omega)
      obtain ⟨i, hi, rfl⟩ := List.mem_map.mp hx
      simp [q, e]
      exact (hQ _ _).mpr ⟨_, rfl, rfl⟩
    · simp [q]
      exact (hQ _ _).mpr ⟨_, rfl, rfl⟩
  · rintro fl S2 h
    obtain ⟨own, rfl, rfl⟩ := (hQ _ _).mp h
    simp [-dFor_eq, c1]
    rw [dFor_eq, ok_bind]
    simp
    obtain ⟨I, hI⟩ : ∃ I : Nat → Dn.Env → Sto → Prop, ∀ i env S', I i env S' ↔ ∃ (seed : Int) (e4 : Option Val), env = [some (.d (.con (ns.map .int))), some (.d (.int k)), some (.d (.int own)), some (.d (.int seed)), e4] ∧ S' = S2 ∧ 0 ≤ seed ∧ seed < 2147483587 := ⟨_, fun _ _ _ => Iff.rfl⟩
    refine ok_loop (I := I) ((hI _ _ _).mpr ⟨_, _, rfl, rfl, by omega, by omega⟩) (fun _ _ _ _ => wtOk_nil _) ?_ ?_
    · rintro i d env S' ed h
      obtain ⟨seed, e4, rfl, rfl, s0, s1⟩ := (hI _ _ _).mp h
      obtain ⟨z, hz, rfl⟩ := List.mem_map.mp (cutL_mem (List.mem_of_getElem? ed))
      have c2 : cMul seed 57349 = true := cMul_of 32 16 (by decide) (by decide) (by omega) (by decide) (by decide)
      simp [c2]
      refine (hI _ _ _).mpr ⟨_, _, rfl, rfl, ?_, ?_⟩
      · rw [mod_pos (by decide)]; exact Int.emod_nonneg _ (by decide)
      · rw [mod_pos (by decide)]; exact Int.emod_lt_of_pos _ (by decide)
    · rintro env S' h
      obtain ⟨seed, e4, rfl, rfl, s0, s1⟩ := (hI _ _ _).mp h
      have m0 : 0 ≤ own.fmod 2147483399 := by rw [mod_pos (by decide)]; exact Int.emod_nonneg _ (by decide)
      have m1 : own.fmod 2147483399 < 2147483399 := by rw [mod_pos (by decide)]; exact Int.emod_lt_of_pos _ (by decide)
      have c2 : cMul seed 37 = true := cMul_of 32 16 (by decide) (by decide) (by omega) (by decide) (by decide)
      have c3 : cMul (own.fmod 2147483399) 20011 = true := cMul_of 32 16 (by decide) (by decide) (by omega) (by decide) (by decide)
      have fin : ∀ a b : Int, 0 ≤ a → Ok (dFin S' (.r S'.length) (S' ++ [.lst [.int a, .int (b.fmod 2147483587), .int 0]])) (Nw S' (WOk 0)) := fun a b ha => by
        rw [dFin_new, ok_ok]
        refine ⟨_, rfl, rfl, a, _, 0, rfl, ha, ?_, ?_, by decide, by decide⟩
        · rw [mod_pos (by decide)]; exact Int.emod_nonneg _ (by decide)
        · rw [mod_pos (by decide)]; exact Int.emod_lt_of_pos _ (by decide)
      simp [c2, c3, cp, szL]
      by_cases q1 : own < 0
      · simp [q1]
        exact fin _ _ (by omega)
      · by_cases q2 : 10000000000000000 ≤ own
        · simp [q1, q2]
          exact fin _ _ (by omega)
        · simp [q1, q2]
          exact fin _ _ (by omega)
end Law
set_option Elab.async false
set_option linter.all false
set_option maxRecDepth 100000
set_option maxHeartbeats 2000000
namespace Law
open PySem PySem.Spec PyProof.Rows L2 GxR Gx Dn
/-! fractions -/
def dq (q : Rat) : D := .tup [.int q.num, .int (q.den : Int)]
structure qb (k : Nat) (q : Rat) : Prop where
  n : q.num.natAbs < 2 ^ k
  d : q.den < 2 ^ k
theorem qb_pos {k : Nat} {q : Rat} (h : qb k q) : 0 < k := by
  cases k with
  | zero => have := h.d; have := q.den_pos; omega
  | succ k => omega
theorem qb_mono {k l : Nat} {q : Rat} (h : qb k q) (hl : k ≤ l) : qb l q :=
  ⟨Nat.lt_of_lt_of_le h.n (Nat.pow_le_pow_right (by decide) hl), Nat.lt_of_lt_of_le h.d (Nat.pow_le_pow_right (by decide) hl)⟩
theorem dq_divInt {i j : Int} (hj : 0 < j) : D.tup [.int (i / (Nat.gcd i.natAbs j.natAbs : Nat)), .int (j / (Nat.gcd i.natAbs j.natAbs : Nat))] = dq (Rat.divInt i j) := by
  have hs : j.sign = 1 := Int.sign_eq_one_of_pos hj
  have g : j.gcd i = Nat.gcd i.natAbs j.natAbs := Nat.gcd_comm ..
  have e1 : (Rat.divInt i j).num = i / (Nat.gcd i.natAbs j.natAbs : Nat) := by rw [Rat.num_divInt, hs, g, Int.one_mul]
  have e2 : ((Rat.divInt i j).den : Int) = j / (Nat.gcd i.natAbs j.natAbs : Nat) := by
    rw [Rat.den_divInt, if_neg (by omega), g]
    have : (j.natAbs : Int) = j := by omega
    rw [Int.natCast_ediv, this]
  unfold dq
  rw [e1, e2]
theorem qb_divInt {i j : Int} {k : Nat} (hj : 0 < j) (h1 : i.natAbs < 2 ^ k) (h2 : j.natAbs < 2 ^ k) : qb k (Rat.divInt i j) := by
  refine ⟨?_, ?_⟩
  · rw [Rat.num_divInt, Int.sign_eq_one_of_pos hj, Int.one_mul]
    exact div_small h1
  · rw [Rat.den_divInt, if_neg (by omega)]
    exact Nat.lt_of_le_of_lt (Nat.div_le_self _ _) h2
theorem add_divInt (p q : Rat) : p + q = Rat.divInt (p.num * q.den + q.num * p.den) ((p.den : Int) * (q.den : Int)) := by
  rw [Rat.add_def', ← Rat.divInt_ofNat, Int.natCast_mul]
theorem mul_divInt (p q : Rat) : p * q = Rat.divInt (p.num * q.num) ((p.den : Int) * (q.den : Int)) := by
  rw [Rat.mul_def', ← Rat.divInt_ofNat, Int.natCast_mul]
theorem natAbs_mul_lt {a b : Int} {k l : Nat} (ha : a.natAbs < 2 ^ k) (hb : b.natAbs < 2 ^ l) : (a * b).natAbs < 2 ^ (k + l) := by
  rw [Int.natAbs_mul, Nat.pow_add]
  exact Nat.mul_lt_mul'' ha hb
theorem natAbs_add_lt {a b : Int} {k : Nat} (ha : a.natAbs < 2 ^ k) (hb : b.natAbs < 2 ^ k) : (a + b).natAbs < 2 ^ (k + 1) := by
  rw [Nat.pow_succ]; omega
theorem den_lt {q : Rat} {k : Nat} (h : qb k q) : ((q.den : Int)).natAbs < 2 ^ k := by simpa using h.d
theorem den0 (q : Rat) : 0 < (q.den : Int) := by have := q.den_pos; omega
theorem pow_le {a b : Nat} (h : a ≤ b) : 2 ^ a ≤ 2 ^ b := Nat.pow_le_pow_right (by decide) h
theorem lt_up {x a b : Nat} (h : x < 2 ^ a) (hl : a ≤ b) : x < 2 ^ b := Nat.lt_of_lt_of_le h (pow_le hl)
theorem qb_add {p q : Rat} {a b : Nat} (hp : qb a p) (hq : qb b q) : qb (a + b + 1) (p + q) := by
  rw [add_divInt]
  refine qb_divInt (Int.mul_pos (den0 p) (den0 q)) (natAbs_add_lt (natAbs_mul_lt hp.n (den_lt hq)) ?_) (lt_up (natAbs_mul_lt (den_lt hp) (den_lt hq)) (by omega))
  rw [Nat.add_comm a b]
  exact natAbs_mul_lt hq.n (den_lt hp)
theorem qb_mul {p q : Rat} {a b : Nat} (hp : qb a p) (hq : qb b q) : qb (a + b) (p * q) := by
  rw [mul_divInt]
  exact qb_divInt (Int.mul_pos (den0 p) (den0 q)) (natAbs_mul_lt hp.n hq.n) (natAbs_mul_lt (den_lt hp) (den_lt hq))
theorem qb_neg {p : Rat} {a : Nat} (hp : qb a p) : qb a (-p) := ⟨by simpa using hp.n, by simpa using hp.d⟩
theorem qb_zero : qb 1 (0 : Rat) := ⟨by decide, by decide⟩
theorem dq_frac (q : Rat) : fracB (dq q) = true := by
  have := q.reduced
  have h := den0 q
  simp [dq, fracB]
  exact ⟨q.den_pos, this⟩
theorem frac_dq {d : D} (h : fracB d = true) : ∃ q : Rat, d = dq q := by
  unfold fracB at h
  split at h
  · rename_i a b
    simp at h
    obtain ⟨k, rfl⟩ := Int.eq_ofNat_of_zero_le (Int.le_of_lt h.1)
    exact ⟨⟨a, k, by omega, by simpa using h.2⟩, rfl⟩
  · cases h
theorem numD_dq {d : D} (h : numD d) : ∃ q : Rat, d = dq q ∧ qb 6 q := by
  obtain ⟨a, b, rfl, ha, hb, h0, hg⟩ := h
  obtain ⟨k, rfl⟩ := Int.eq_ofNat_of_zero_le (Int.le_of_lt h0)
  exact ⟨⟨a, k, by omega, by simpa using hg.1⟩, rfl, by simpa using ha, by simpa using hb⟩
theorem dq_inj {p q : Rat} (h : dq p = dq q) : p = q := by
  unfold dq at h
  simp at h
  exact Rat.ext h.1 (by omega)
/-! the law's sums -/
theorem lfrac_eq {i j : Int} {b : Nat} (S : Sto) (hj : 0 < j) (hb : 0 < b) (hjb : j.natAbs < 2 ^ b) (h9 : b ≤ 9000) : m__law_frac [.d (.int i), .d (.int j)] S = .ok (.d (dq (Rat.divInt i j))) S := by
  rw [frac_eq S hj hb hjb h9, dq_divInt hj]
theorem cM {i j : Int} {a b : Nat} (hi : i.natAbs < 2 ^ a) (hj : j.natAbs < 2 ^ b) (h : a + b ≤ 999990) : cMul i j = true :=
  cMul_of (a + 1) (b + 1) (by omega) (by omega) (lt_up hi (by omega)) (lt_up hj (by omega)) (by omega)
theorem plus_eq {p q : Rat} {a b : Nat} (S : Sto) (hp : qb a p) (hq : qb b q) (h : a + b ≤ 8000) : m__law_plus [.d (dq p), .d (dq q)] S = .ok (.d (dq (p + q))) S := by
  refine ok_eq ?_
  unfold m__law_plus
  refine ok_fn ?_
  unfold b__law_plus
  have c1 := cM hp.n (den_lt hq) (by omega)
  have c2 := cM hq.n (den_lt hp) (by omega)
  have c3 := cM (den_lt hp) (den_lt hq) (by omega)
  simp [dq, c1, c2, c3]
  rw [lfrac_eq (b := a + b + 1) S (Int.mul_pos (den0 p) (den0 q)) (by omega) (lt_up (natAbs_mul_lt (den_lt hp) (den_lt hq)) (by omega)) (by omega), ← add_divInt]
  simp [dq]
theorem times_eq {p q : Rat} {a b : Nat} (S : Sto) (hp : qb a p) (hq : qb b q) (h : a + b ≤ 8000) : m__law_times [.d (dq p), .d (dq q)] S = .ok (.d (dq (p * q))) S := by
  refine ok_eq ?_
  unfold m__law_times
  refine ok_fn ?_
  unfold b__law_times
  have c1 := cM hp.n hq.n (by omega)
  have c3 := cM (den_lt hp) (den_lt hq) (by omega)
  simp [dq, c1, c3]
  rw [lfrac_eq (b := a + b + 1) S (Int.mul_pos (den0 p) (den0 q)) (by omega) (lt_up (natAbs_mul_lt (den_lt hp) (den_lt hq)) (by omega)) (by omega), ← mul_divInt]
  simp [dq]
theorem upto_eq {p q : Rat} {a b : Nat} (S : Sto) (hp : qb a p) (hq : qb b q) (h : a + b ≤ 100000) : m__law_up_to [.d (dq p), .d (dq q)] S = .ok (.d (.bl (decide (p ≤ q)))) S := by
  refine ok_eq ?_
  unfold m__law_up_to
  refine ok_fn ?_
  unfold b__law_up_to
  have c1 := cM hp.n (den_lt hq) (by omega)
  have c2 := cM hq.n (den_lt hp) (by omega)
  simp [dq, c1, c2, Rat.le_iff]
def dotQ (l : List (Rat × Rat)) : Rat := l.foldl (fun a x => a + x.1 * x.2) 0
theorem dotQ_take {l : List (Rat × Rat)} {k : Nat} {x : Rat × Rat} (h : l[k]? = some x) : dotQ (l.take (k + 1)) = dotQ (l.take k) + x.1 * x.2 := by
  unfold dotQ
  rw [List.take_add_one, h, List.foldl_append]
  rfl
/-- the pairs of two rows, as zip tells them -/
def zipD (l : List (Rat × Rat)) : List D := l.map fun x => .tup [dq x.1, dq x.2]
theorem zip_eq (ps qs : List Rat) : ((ps.map dq).zip (qs.map dq)).map (fun p => D.tup [p.1, p.2]) = zipD (ps.zip qs) := by
  unfold zipD
  rw [List.zip_map, List.map_map]
  rfl
/-- what two rows are -/
inductive rows2 : D → D → List Rat → List Rat → Prop where
  | tt (ps qs : List Rat) : rows2 (.tup (ps.map dq)) (.tup (qs.map dq)) ps qs
  | ll (ps qs : List Rat) : rows2 (.lst (ps.map dq)) (.lst (qs.map dq)) ps qs
  | tl (ps qs : List Rat) : rows2 (.tup (ps.map dq)) (.lst (qs.map dq)) ps qs
theorem iZip_eq {x y : D} {ps qs : List Rat} (h : rows2 x y ps qs) (S : Sto) : Dn.iMx [.d x, .d y] S = .ok ⟨zipD (ps.zip qs), []⟩ S := by
  cases h <;> simp only [Dn.iMx, seqK, seqT, seqL, wtV, List.append_nil] <;> rw [zip_eq]
@[simp] theorem diMx_eq (As : DAf) (env : Dn.Env) (S : Sto) : diMx As env S = (As env S).bind fun xs S1 => Dn.iMx xs S1 := (rfl)
theorem dot_bound {l : List (Rat × Rat)} {k : Nat} (h : ∀ x ∈ l, qb k x.1 ∧ qb k x.2) : ∀ j, qb (1 + (2 * k + 2) * j) (dotQ (l.take j))
  | 0 => by simpa [dotQ] using qb_zero
  | j + 1 => by
    have ih := dot_bound h j
    cases e : l[j]? with
    | none =>
      have hl : l.length ≤ j := List.getElem?_eq_none_iff.mp e
      rw [List.take_of_length_le (by omega)]
      rw [List.take_of_length_le hl] at ih
      exact qb_mono ih (by rw [Nat.mul_add]; omega)
    | some x =>
      rw [dotQ_take e]
      have hx := h x (List.mem_of_getElem? e)
      exact qb_mono (qb_add ih (qb_mul hx.1 hx.2)) (by rw [Nat.mul_add]; omega)
theorem dot_eq {x y : D} {ps qs : List Rat} {k : Nat} (S : Sto) (h : rows2 x y ps qs) (hb : ∀ z ∈ ps.zip qs, qb k z.1 ∧ qb k z.2) (hl : (2 * k + 2) * (ps.zip qs).length ≤ 6000) (hk : k ≤ 900) : m__law_dot [.d x, .d y] S = .ok (.d (dq (dotQ (ps.zip qs)))) S := by
  refine ok_eq ?_
  unfold m__law_dot
  refine ok_fn ?_
  unfold b__law_dot
  simp [szL, iZip_eq h]
  obtain ⟨I, hI⟩ : ∃ I : Nat → Dn.Env → Sto → Prop, ∀ j env S', I j env S' ↔ ∃ e3 e4, env = [some (.d x), some (.d y), some (.d (dq (dotQ ((ps.zip qs).take j)))), e3, e4] ∧ S' = S := ⟨_, fun _ _ _ => Iff.rfl⟩
  refine ok_loop (I := I) ((hI _ _ _).mpr ⟨none, none, by simp [dotQ, dq], rfl⟩) (fun _ _ _ _ => wtOk_nil _) ?_ ?_
  · rintro j d env S' ed h'
    obtain ⟨e3, e4, rfl, rfl⟩ := (hI _ _ _).mp h'
    unfold zipD at ed
    rw [List.getElem?_map] at ed
    obtain ⟨z, ez, rfl⟩ := Option.map_eq_some_iff.mp ed
    have hz := hb z (List.mem_of_getElem? ez)
    have hj : j < (ps.zip qs).length := (List.getElem?_eq_some_iff.mp ez).1
    have hB := dot_bound hb j
    have hm : (2 * k + 2) * j ≤ 6000 := Nat.le_trans (Nat.mul_le_mul_left _ (Nat.le_of_lt hj)) hl
    simp [times_eq _ hz.1 hz.2 (by omega), plus_eq _ hB (qb_mul hz.1 hz.2) (by omega)]
    exact (hI _ _ _).mpr ⟨_, _, by rw [dotQ_take ez], rfl⟩
  · rintro env S' h'
    obtain ⟨e3, e4, rfl, rfl⟩ := (hI _ _ _).mp h'
    have e : (zipD (ps.zip qs)).length = (ps.zip qs).length := by simp [zipD]
    rw [e, List.take_length]
    simp [dq]
/-! the program's sums -/
theorem fraction_eq {i j : Int} {b : Nat} (S : Sto) (hj : 0 < j) (hb : 0 < b) (hjb : j.natAbs < 2 ^ b) (h9 : b ≤ 9000) : m_fraction [.d (.int i), .d (.int j)] S = .ok (.d (dq (Rat.divInt i j))) S := by
  refine ok_eq ?_
  unfold m_fraction
  refine ok_fn ?_
  unfold b_fraction
  rw [← dq_divInt hj]
  generalize eg : Nat.gcd i.natAbs j.natAbs = g
  have g0 : 0 < g := by rw [← eg]; exact Nat.gcd_pos_of_pos_right _ (by omega)
  have gj : g ≤ j.natAbs := by rw [← eg]; exact Nat.gcd_le_right _ (by omega)
  have cg : ∀ x : Int, cDiv x g = true := fun x => cDiv_of (b := b) (by omega) hb (by simpa using Nat.lt_of_le_of_lt gj hjb) h9
  simp [eg, cg, div_pos (show (0 : Int) < (g : Int) by omega), szL]
theorem total_eq {p q : Rat} {a b : Nat} (S : Sto) (hp : qb a p) (hq : qb b q) (h : a + b ≤ 8000) : m_total [.d (dq p), .d (dq q)] S = .ok (.d (dq (p + q))) S := by
  refine ok_eq ?_
  unfold m_total
  refine ok_fn ?_
  unfold b_total
  have c1 := cM hp.n (den_lt hq) (by omega)
  have c2 := cM hq.n (den_lt hp) (by omega)
  have c3 := cM (den_lt hp) (den_lt hq) (by omega)
  simp [dq, c1, c2, c3]
  rw [fraction_eq (b := a + b + 1) S (Int.mul_pos (den0 p) (den0 q)) (by omega) (lt_up (natAbs_mul_lt (den_lt hp) (den_lt hq)) (by omega)) (by omega), ← add_divInt]
  simp [dq]
theorem opposite_eq {p : Rat} (S : Sto) : m_opposite [.d (dq p)] S = .ok (.d (dq (-p))) S := by
  refine ok_eq ?_
  unfold m_opposite
  refine ok_fn ?_
  unfold b_opposite
  simp [dq, szL]
theorem is_up_to_eq {p q : Rat} {a b : Nat} (S : Sto) (hp : qb a p) (hq : qb b q) (h : a + b ≤ 100000) : m_is_up_to [.d (dq p), .d (dq q)] S = .ok (.d (.bl (decide (p ≤ q)))) S := by
  refine ok_eq ?_
  unfold m_is_up_to
  refine ok_fn ?_
  unfold b_is_up_to
  have c1 := cM hp.n (den_lt hq) (by omega)
  have c2 := cM hq.n (den_lt hp) (by omega)
  simp [dq, c1, c2, Rat.le_iff]
theorem step_div {t b f s u l : Int} (hb : 0 < b) (hu : 0 < u) (hl : 0 < l) : Rat.divInt (t * (u * l) + f * s * b) (b * (u * l)) = Rat.divInt t b + Rat.divInt f u * Rat.divInt s l := by
  have h1 : b ≠ 0 := by omega
  have h2 : u * l ≠ 0 := by have := Int.mul_pos hu hl; omega
  rw [Rat.divInt_mul_divInt, Rat.divInt_add_divInt _ _ h1 h2]
theorem product_of_eq {x y : D} {ps qs : List Rat} {k : Nat} (S : Sto) (h : rows2 x y ps qs) (hb : ∀ z ∈ ps.zip qs, qb k z.1 ∧ qb k z.2) (hl : (2 * k + 2) * (ps.zip qs).length ≤ 6000) (hk : k ≤ 900) : m_product_of [.d x, .d y] S = .ok (.d (dq (dotQ (ps.zip qs)))) S := by
  refine ok_eq ?_
  unfold m_product_of
  refine ok_fn ?_
  unfold b_product_of
  simp [szL, iZip_eq h]
  obtain ⟨I, hI⟩ : ∃ I : Nat → Dn.Env → Sto → Prop, ∀ j env S', I j env S' ↔ ∃ (t b : Int) (e4 e5 e6 e7 e8 : Option Val), env = [some (.d x), some (.d y), some (.d (.int t)), some (.d (.int b)), e4, e5, e6, e7, e8] ∧ S' = S ∧ 0 < b ∧ Rat.divInt t b = dotQ ((ps.zip qs).take j) ∧
    t.natAbs < 2 ^ (1 + (2 * k + 2) * j) ∧ b.natAbs < 2 ^ (1 + (2 * k + 2) * j) := ⟨_, fun _ _ _ => Iff.rfl⟩
  refine ok_loop (I := I) ((hI _ _ _).mpr ⟨0, 1, _, _, _, _, _, rfl, rfl, by decide, by simp [dotQ], by simp, by simp⟩) (fun _ _ _ _ => wtOk_nil _) ?_ ?_
  · rintro j d env S' ed h'
    obtain ⟨t, b, e4, e5, e6, e7, e8, rfl, rfl, hb0, ht, b1, b2⟩ := (hI _ _ _).mp h'
    unfold zipD at ed
    rw [List.getElem?_map] at ed
    obtain ⟨z, ez, rfl⟩ := Option.map_eq_some_iff.mp ed
    have hz := hb z (List.mem_of_getElem? ez)
    have hj : j < (ps.zip qs).length := (List.getElem?_eq_some_iff.mp ez).1
    have hm : (2 * k + 2) * j ≤ 6000 := Nat.le_trans (Nat.mul_le_mul_left _ (Nat.le_of_lt hj)) hl
    have sh := natAbs_mul_lt (den_lt hz.1) (den_lt hz.2)
    have c1 := cM (den_lt hz.1) (den_lt hz.2) (by omega)
    have c2 := cM b1 sh (by omega)
    have c3 := cM hz.1.n hz.2.n (by omega)
    have c4 := cM (natAbs_mul_lt hz.1.n hz.2.n) b2 (by omega)
    have c5 := cM b2 sh (by omega)
    have e1 : (2 * k + 2) * (j + 1) = (2 * k + 2) * j + (2 * k + 2) := by rw [Nat.mul_add, Nat.mul_one]
    simp [dq]
    by_cases q1 : z.1 = 0
    · have v0 := q1
      simp [q1]
      refine (hI (j + 1) _ _).mpr ⟨t, b, _, _, _, _, _, rfl, rfl, hb0, ?_, lt_up b1 (by omega), lt_up b2 (by omega)⟩
      rw [dotQ_take ez, ht, v0, Rat.zero_mul, Rat.add_zero]
    · by_cases q2 : z.2 = 0
      · have v0 := q2
        simp [q1, q2]
        refine (hI (j + 1) _ _).mpr ⟨t, b, _, _, _, _, _, rfl, rfl, hb0, ?_, lt_up b1 (by omega), lt_up b2 (by omega)⟩
        rw [dotQ_take ez, ht, v0, Rat.mul_zero, Rat.add_zero]
      · simp [q1, q2, c1, c2, c3, c4, c5]
        refine (hI (j + 1) _ _).mpr ⟨_, _, _, _, _, _, _, rfl, rfl, Int.mul_pos hb0 (Int.mul_pos (den0 _) (den0 _)), ?_, ?_, ?_⟩
        · rw [step_div hb0 (den0 _) (den0 _), dotQ_take ez, ht, Rat.num_divInt_den, Rat.num_divInt_den]
        · refine lt_up (a := 1 + (2 * k + 2) * j + (k + k) + 1) (natAbs_add_lt (natAbs_mul_lt b1 sh) ?_) (by omega)
          exact lt_up (natAbs_mul_lt (natAbs_mul_lt hz.1.n hz.2.n) b2) (by omega)
        · exact lt_up (natAbs_mul_lt b2 sh) (by omega)
  · rintro env S' h'
    obtain ⟨t, b, e4, e5, e6, e7, e8, rfl, rfl, hb0, ht, b1, b2⟩ := (hI _ _ _).mp h'
    have e : (zipD (ps.zip qs)).length = (ps.zip qs).length := by simp [zipD]
    rw [e] at ht b1 b2
    rw [List.take_length] at ht
    simp
    rw [fraction_eq S' hb0 (by omega) b2 (by omega), ht]
    simp [dq]
end Law
set_option Elab.async false
set_option linter.all false
set_option maxRecDepth 100000
set_option maxHeartbeats 2000000
namespace Law
open PySem PySem.Spec PyProof.Rows L2 GxR Gx Dn
/-! what can be shown as a text: h deep, m long -/
structure shl (h m : Nat) (d : D) : Prop where
  ex : ∃ p, d.py = some p ∧ p.showable = true ∧ p.hasDict = false ∧ p.depth ≤ h ∧ p.shown.length ≤ m
theorem shl_int {i : Int} {k : Nat} (h : i.natAbs < 2 ^ k) (h0 : 0 < k) (hk : k ≤ 1900) : shl 0 (k + 1) (.int i) := by
  have hl := PySem.Flt.log2_lt_of h0 h
  refine ⟨.int i, by simp [D.py], by simp only [PyData.showable, decide_eq_true_eq]; omega, by simp only [PyData.hasDict], by simp [PyData.depth], ?_⟩
  have q := int_text_length_le h0 hl
  simp only [PyData.shown]
  rw [PySem.ofString_length]
  exact q
theorem shl_bl (b : Bool) : shl 0 5 (.bl b) := by
  refine ⟨.bool b, by simp [D.py], by simp only [PyData.showable], by simp only [PyData.hasDict], by simp [PyData.depth], ?_⟩
  cases b <;> decide +kernel
theorem shown_all : ∀ {ps : List PyData} {m : Nat}, (∀ p ∈ ps, p.shown.length ≤ m) → (PyData.shownAll ps).length = ps.length ∧ piled (PyData.shownAll ps) ≤ ps.length * (m + 2)
  | [], m, _ => by simp [PyData.shownAll, piled]
  | p :: ps, m, h => by
    obtain ⟨h1, h2⟩ := shown_all fun x hx => h x (List.mem_cons_of_mem _ hx)
    have := h p List.mem_cons_self
    refine ⟨by simp [PyData.shownAll, h1], ?_⟩
    simp only [PyData.shownAll, piled_cons, List.length_cons, Nat.add_mul, Nat.one_mul]
    omega
theorem show_all : ∀ {ps : List PyData}, (∀ p ∈ ps, p.showable = true ∧ p.hasDict = false) → PyData.showableAll ps = true ∧ PyData.hasDictAll ps = false
  | [], _ => by simp [PyData.showableAll, PyData.hasDictAll]
  | p :: ps, h => by
    obtain ⟨h1, h2⟩ := show_all fun x hx => h x (List.mem_cons_of_mem _ hx)
    have := h p List.mem_cons_self
    simp [PyData.showableAll, PyData.hasDictAll, h1, h2, this.1, this.2]
theorem shl_tup {h m : Nat} {ds : List D} (hx : ∀ x ∈ ds, shl h m x) : shl (h + 1) (ds.length * (m + 2) + 3) (.tup ds) := by
  obtain ⟨ps, e, el, q⟩ := pys_of (Q := fun p => p.showable = true ∧ p.hasDict = false ∧ p.depth ≤ h ∧ p.shown.length ≤ m) fun x hm => (hx x hm).ex
  obtain ⟨s1, s2⟩ := show_all fun p hp => ⟨(q p hp).1, (q p hp).2.1⟩
  obtain ⟨l1, l2⟩ := shown_all fun p hp => (q p hp).2.2.2
  have dd := depth_all fun p hp => (q p hp).2.2.1
  refine ⟨.tuple ps, by simp [D.py, e], by simpa only [PyData.showable] using s1, by simpa only [PyData.hasDict] using s2, by simp only [PyData.depth]; omega, ?_⟩
  simp only [PyData.shown, tupleText]
  rw [strLen_append, strLen_append]
  have e1 : ((if (PyData.shownAll ps).length == 1 then ",)" else ")" : String) : Str).length ≤ 2 := by split <;> decide
  have e2 : ("(" : Str).length = 1 := rfl
  have e3 : (Str.join ", " (PyData.shownAll ps)).length ≤ piled (PyData.shownAll ps) := by
    by_cases z : PyData.shownAll ps = []
    · rw [z]; decide
    · have := join_length_add _ z
      omega
  rw [el] at l2
  omega
theorem shl_up {h m h' m' : Nat} {d : D} (p : shl h m d) (hh : h ≤ h') (hm : m ≤ m') : shl h' m' d :=
  let ⟨⟨q, a, b, c, e, f⟩⟩ := p; ⟨q, a, b, c, Nat.le_trans e hh, Nat.le_trans f hm⟩
theorem shl_pair {h m : Nat} {x y : D} (hx : shl h m x) (hy : shl h m y) : shl (h + 1) (2 * (m + 2) + 3) (.tup [x, y]) :=
  shl_tup (ds := [x, y]) fun z hz => by
    simp at hz
    rcases hz with rfl | rfl
    · exact hx
    · exact hy
/-- what repr tells -/
theorem repr_of {h m : Nat} {d : D} (p : shl h m d) (hh : h ≤ 30) (hm : m ≤ szL) : ∃ s : Str, ∀ S, bRepr (.d d) S = .ok (.d (.str s)) S := by
  obtain ⟨q, a, b, c, e, f⟩ := p.ex
  refine ⟨q.shown, fun S => ?_⟩
  unfold bRepr
  simp only [pyV, a]
  rw [if_pos ⟨b, c, Nat.le_trans e hh, Nat.le_trans f hm⟩]
theorem repr_bl (a : Bool) (S : Sto) : bRepr (.d (.bl a)) S = .ok (.d (.str (PyData.bool a).shown)) S := by
  have h : (PyData.bool a).showable = true ∧ (PyData.bool a).hasDict = false ∧ (PyData.bool a).depth ≤ 30 ∧ (PyData.bool a).shown.length ≤ szL := by
    cases a <;> decide +kernel
  unfold bRepr
  simp only [pyV, D.py]
  rw [if_pos h]
end Law
set_option Elab.async false
set_option linter.all false
set_option maxRecDepth 100000
set_option maxHeartbeats 2000000
namespace Law
open PySem PySem.Spec PyProof.Rows L2 GxR Gx Dn
/-! lots of fractions -/
abbrev Wish := List Rat × Rat
def drow (xs : List Rat) : D := .tup (xs.map dq)
def dwish (w : Wish) : D := .tup [drow w.1, dq w.2]
def dlot (z : Nat) (ws : List Wish) : D := .tup [.int z, .tup (ws.map dwish)]
def inside (ws : List Wish) (xs : List Rat) : Bool := ws.all fun w => decide (dotQ (w.1.zip xs) ≤ w.2)
/-- each number below 2^k, each row of z -/
structure wb (z k : Nat) (w : Wish) : Prop where
  l : w.1.length = z
  r : ∀ q ∈ w.1, qb k q
  b : qb k w.2
theorem row_of {z k : Nat} {P : D → Prop} (hP : ∀ d, P d → ∃ q, d = dq q ∧ qb k q) : ∀ {ds : List D}, (∀ x ∈ ds, P x) → ∃ qs : List Rat, ds = qs.map dq ∧ ∀ q ∈ qs, qb k q
  | [], _ => ⟨[], rfl, by simp⟩
  | d :: ds, h => by
    obtain ⟨q, rfl, hq⟩ := hP d (h d List.mem_cons_self)
    obtain ⟨qs, rfl, hqs⟩ := row_of (z := z) hP fun x m => h x (List.mem_cons_of_mem _ m)
    refine ⟨q :: qs, rfl, fun x hx => ?_⟩
    simp at hx
    rcases hx with rfl | hx
    · exact hq
    · exact hqs x hx
theorem rowD_of {z : Nat} {d : D} (h : rowD z d) : ∃ qs : List Rat, d = drow qs ∧ qs.length = z ∧ ∀ q ∈ qs, qb 6 q := by
  obtain ⟨ds, rfl, hl, hx⟩ := h
  obtain ⟨qs, rfl, hq⟩ := row_of (z := z) (fun d hd => numD_dq hd) hx
  exact ⟨qs, rfl, by simpa using hl, hq⟩
theorem wishD_of {z : Nat} {d : D} (h : wishD z d) : ∃ w : Wish, d = dwish w ∧ wb z 6 w := by
  obtain ⟨r, f, rfl, hr, hf⟩ := h
  obtain ⟨qs, rfl, hl, hq⟩ := rowD_of hr
  obtain ⟨b, rfl, hb⟩ := numD_dq hf
  exact ⟨(qs, b), rfl, hl, hq, hb⟩
theorem wishes_of {z : Nat} : ∀ {ds : List D}, (∀ x ∈ ds, wishD z x) → ∃ ws : List Wish, ds = ws.map dwish ∧ ∀ w ∈ ws, wb z 6 w
  | [], _ => ⟨[], rfl, by simp⟩
  | d :: ds, h => by
    obtain ⟨w, rfl, hw⟩ := wishD_of (h d List.mem_cons_self)
    obtain ⟨ws, rfl, hws⟩ := wishes_of fun x m => h x (List.mem_cons_of_mem _ m)
    refine ⟨w :: ws, rfl, fun x hx => ?_⟩
    simp at hx
    rcases hx with rfl | hx
    · exact hw
    · exact hws x hx
theorem lotD_of {z m : Nat} {d : D} (h : lotD z m d) : ∃ ws : List Wish, d = dlot z ws ∧ ws.length ≤ m ∧ ∀ w ∈ ws, wb z 6 w := by
  obtain ⟨ds, rfl, hl, hx⟩ := h
  obtain ⟨ws, rfl, hw⟩ := wishes_of hx
  exact ⟨ws, rfl, by simpa using hl, hw⟩
theorem drow_row {z : Nat} {xs : List Rat} (h : xs.length = z) : rowB z (drow xs) = true := by
  simp only [drow, rowB, Bool.and_eq_true, decide_eq_true_eq, List.all_eq_true, List.length_map]
  refine ⟨by omega, fun x hx => ?_⟩
  obtain ⟨q, _, rfl⟩ := List.mem_map.mp hx
  exact dq_frac q
theorem dwish_wish {z k : Nat} {w : Wish} (h : wb z k w) : wishB z (dwish w) = true := by
  simp [dwish, wishB, drow_row h.l, dq_frac]
theorem dlot_lot {z k : Nat} {ws : List Wish} {m : Int} (h : ∀ w ∈ ws, wb z k w) (h0 : 1 ≤ z) (h1 : z ≤ 12) (hm : (ws.length : Int) ≤ m) : lotB m (dlot z ws) = true := by
  simp only [dlot, lotB, Bool.and_eq_true, decide_eq_true_eq, List.all_eq_true, List.length_map]
  refine ⟨⟨⟨by omega, by omega⟩, hm⟩, fun x hx => ?_⟩
  obtain ⟨w, hw, rfl⟩ := List.mem_map.mp hx
  exact dwish_wish (h w hw)
theorem qb_gD {k l : Nat} {q : Rat} (h : qb k q) (hl : 2 ≤ l) : gD k l (dq q) = true := by
  have := h.n
  have := h.d
  simp [dq, gD, gDs, hl]
  exact ⟨h.n, h.d⟩
theorem drow_gD {k l : Nat} {xs : List Rat} (h : ∀ q ∈ xs, qb k q) (hx : xs.length ≤ l) (hl : 2 ≤ l) : gD k l (drow xs) = true := by
  simp only [drow, gD, Bool.and_eq_true, decide_eq_true_eq, List.length_map]
  refine ⟨hx, gDs_all.mpr fun d hd => ?_⟩
  obtain ⟨q, hq, rfl⟩ := List.mem_map.mp hd
  exact qb_gD (h q hq) hl
theorem dwish_gD {z k l : Nat} {w : Wish} (h : wb z k w) (hz : z ≤ l) (hl : 2 ≤ l) : gD k l (dwish w) = true := by
  have a := drow_gD h.r (by rw [h.l]; exact hz) hl
  have b := qb_gD h.b hl
  simp [dwish, gD, gDs, hl, a, b]
theorem dlot_gD {z k l : Nat} {ws : List Wish} (h : ∀ w ∈ ws, wb z k w) (hz : z ≤ l) (hw : ws.length ≤ l) (hl : 2 ≤ l) (hk : z < 2 ^ k) : gD k l (dlot z ws) = true := by
  have a : gDs k l (ws.map dwish) = true := gDs_all.mpr fun d hd => by
    obtain ⟨w, hw, rfl⟩ := List.mem_map.mp hd
    exact dwish_gD (h w hw) hz hl
  simp [dlot, gD, gDs, hl, hw, hk, a]
theorem dq_shl {k : Nat} {q : Rat} (h : qb k q) (hk : k ≤ 1900) : shl 1 (2 * (k + 3) + 3) (dq q) :=
  shl_pair (m := k + 1) (shl_int h.n (qb_pos h) hk) (shl_int (den_lt h) (qb_pos h) hk)
theorem drow_shl {k z : Nat} {xs : List Rat} (h : ∀ q ∈ xs, qb k q) (hk : k ≤ 1900) (hz : xs.length = z) : shl 2 (z * (2 * (k + 3) + 5) + 3) (drow xs) := by
  have s := shl_tup (ds := xs.map dq) (h := 1) (m := 2 * (k + 3) + 3) fun d hd => by
    obtain ⟨q, hq, rfl⟩ := List.mem_map.mp hd
    exact dq_shl (h q hq) hk
  rw [List.length_map, hz] at s
  exact s
theorem dwish_shl {k z : Nat} {w : Wish} (h : wb z k w) (hk : k ≤ 100) (hz : z ≤ 12) : shl 3 6000 (dwish w) := by
  have h1 := drow_shl h.r (by omega) h.l
  have e : z * (2 * (k + 3) + 5) ≤ 12 * (2 * (k + 3) + 5) := Nat.mul_le_mul_right _ hz
  exact shl_up (shl_pair (m := 2700) (shl_up h1 (Nat.le_refl _) (by omega)) (shl_up (dq_shl h.b (by omega)) (by decide) (by omega))) (Nat.le_refl _) (by decide)
theorem dlot_shl {k z : Nat} {ws : List Wish} (h : ∀ w ∈ ws, wb z k w) (hk : k ≤ 100) (hz : z ≤ 12) (hw : ws.length ≤ 60) : shl 5 800000 (dlot z ws) := by
  have s := shl_tup (ds := ws.map dwish) (h := 3) (m := 6000) fun d hd => by
    obtain ⟨w, hw, rfl⟩ := List.mem_map.mp hd
    exact dwish_shl (h w hw) hk hz
  rw [List.length_map] at s
  have i : shl 0 11 (.int (z : Int)) := shl_int (k := 10) (by simp; omega) (by decide) (by decide)
  have e : ws.length * (6000 + 2) ≤ 60 * 6002 := Nat.mul_le_mul_right _ hw
  exact shl_up (shl_pair (h := 4) (m := 370000) (shl_up i (by decide) (by decide)) (shl_up s (by decide) (by omega))) (by decide) (by decide)
/-! the program's looks and sums on lots -/
@[simp] theorem diEnum_eq (As : DAf) (env : Dn.Env) (S : Sto) : diEnum As env S = (As env S).bind fun xs S1 => Dn.iEnum xs S1 := (rfl)
@[simp] theorem iEnum_tup (ds : List D) (S : Sto) : Dn.iEnum [.d (.tup ds)] S = .ok ⟨enD ds, []⟩ S := (rfl)
theorem enD_at {ds : List D} {i : Nat} {d : D} (h : (enD ds)[i]? = some d) : ∃ x, ds[i]? = some x ∧ d = .tup [.int i, x] := by
  unfold enD at h
  rw [List.getElem?_map] at h
  obtain ⟨p, hp, rfl⟩ := Option.map_eq_some_iff.mp h
  rw [List.getElem?_zip_eq_some] at hp
  have hi : i < ds.length := (List.getElem?_eq_some_iff.mp hp.2).1
  rw [rng_at hi] at hp
  exact ⟨p.2, hp.2, by cases p; simp at hp ⊢; exact hp.1.symm⟩
@[simp] theorem enD_len {ds : List D} : (enD ds).length = ds.length := by simp [enD, rngD]
theorem zip_qb {xs ys : List Rat} {k : Nat} (h : ∀ q ∈ xs, qb k q) (h' : ∀ q ∈ ys, qb k q) : ∀ z ∈ xs.zip ys, qb k z.1 ∧ qb k z.2 := fun z hz => by
  have := List.of_mem_zip (a := z.1) (b := z.2) (by simpa using hz)
  exact ⟨h _ this.1, h' _ this.2⟩
theorem zip_le {xs ys : List Rat} {z : Nat} (h : xs.length = z) : (xs.zip ys).length ≤ z := by simp; omega
theorem ok_allM {α : Type} {it : DIf} {g : DGf} {te : DEf} {vs : List Nat} {env : Dn.Env} {S : Sto} {e : α → D} {ws : List α} {f : α → Bool} {Q : Val → Sto → Prop} (hi : it env S = .ok ⟨ws.map e, []⟩ S)
    (hf : ∀ w ∈ ws, Ok (g (.d (e w)) (wipeE env vs) S) fun env1 S1 => Ok (te env1 S1) fun z S2 => z = .d (.bl (f w)) ∧ S2 = S) (q : Q (.d (.bl (ws.all f))) S) : Ok (dAllG it g te vs env S) Q := by
  have key : ∀ (es : List α), (∀ d ∈ es, d ∈ ws) → allLoop g te [] (wipeE env vs) (es.map e) S = .ok (.d (.bl (es.all f))) S := by
    intro es
    induction es with
    | nil => intro _; simp only [List.map_nil]; unfold allLoop; rw [if_pos (wtOk_nil _)]; rfl
    | cons d es ih =>
      intro hm
      simp only [List.map_cons]
      unfold allLoop
      rw [if_pos (wtOk_nil _)]
      obtain ⟨env1, S1, e1, z, S2, e2, rfl, rfl⟩ := hf d (hm d List.mem_cons_self)
      rw [e1]
      simp only [Out.bind_ok, e2]
      cases hb : f d with
      | true => simp only [List.all_cons, hb, Bool.true_and]; exact ih fun x hx => hm x (List.mem_cons_of_mem _ hx)
      | false => simp [hb]
  unfold dAllG
  rw [hi]
  simp only [Out.bind_ok]
  rw [key ws fun _ h => h]
  exact ok_ok.mpr q
theorem ok_lcM {α : Type} {it : DIf} {g : DGf} {te : DEf} {vs : List Nat} {env : Dn.Env} {S : Sto} {e : α → D} {ws : List α} {f : α → D} {Q : Val → Sto → Prop} (hi : it env S = .ok ⟨ws.map e, []⟩ S) (hl : ws.length ≤ szL)
    (hf : ∀ w ∈ ws, ∀ c, Ok (g (.d (e w)) (wipeE env vs) (S ++ [c])) fun env1 S1 => Ok (te env1 S1) fun z S2 => z = .d (f w) ∧ S2 = S ++ [c]) (q : Q (.d (.lst (ws.map f))) S) : Ok (dLc it g dYes te vs env S) Q := by
  have key : ∀ (es : List α) (acc : List D), (∀ d ∈ es, d ∈ ws) → acc.length + es.length ≤ szL → lcLoop g dYes te [] (wipeE env vs) S.length (es.map e) acc (S ++ [.lst acc]) = .ok (acc ++ es.map f) (S ++ [.lst (acc ++ es.map f)]) := by
    intro es
    induction es with
    | nil =>
      intro acc _ _
      simp only [List.map_nil]
      unfold lcLoop
      rw [if_pos ⟨wtOk_nil _, by simp⟩]
      simp
    | cons d es ih =>
      intro acc hm hz
      simp only [List.map_cons]
      unfold lcLoop
      rw [if_pos (wtOk_nil _)]
      obtain ⟨env1, S1, e1, z, S2, e2, rfl, rfl⟩ := hf d (hm d List.mem_cons_self) (.lst acc)
      rw [e1]
      simp only [Out.bind_ok, dYes, if_true, e2]
      rw [if_pos ⟨by simp at hz; omega, by simp⟩]
      have e3 : (S ++ [Cell.lst acc]).set S.length (.lst (acc ++ [f d])) = S ++ [.lst (acc ++ [f d])] := by simp
      rw [e3, ih (acc ++ [f d]) (fun x hx => hm x (List.mem_cons_of_mem _ hx)) (by simp at hz ⊢; omega)]
      simp
  unfold dLc
  rw [hi]
  simp only [Out.bind_ok]
  rw [key ws [] (fun _ h => h) (by simpa using hl)]
  simpa using q
end Law
set_option Elab.async false
set_option linter.all false
set_option maxRecDepth 100000
set_option maxHeartbeats 4000000
namespace Law
open PySem PySem.Spec PyProof.Rows L2 GxR Gx Dn
/-! values bent that may have texts within -/
def pS (b l : Nat) : Nat → D → Prop
  | 0, d => (∃ i : Int, d = .int i ∧ i.natAbs < 2 ^ b) ∨ ∃ s, d = .str s ∧ PyData.strOk s = true
  | h + 1, d => ((∃ i : Int, d = .int i ∧ i.natAbs < 2 ^ b) ∨ ∃ s, d = .str s ∧ PyData.strOk s = true) ∨ ∃ ds, d = .tup ds ∧ ds.length ≤ l ∧ ∀ x ∈ ds, pS b l h x
theorem pS_of {b l : Nat} : ∀ {h : Nat} {d : D}, pD b l h d → pS b l h d
  | 0, d, h => .inl h
  | h + 1, d, .inl e => .inl (.inl e)
  | h + 1, d, .inr ⟨ds, e, hl, hx⟩ => .inr ⟨ds, e, hl, fun x m => pS_of (hx x m)⟩
theorem pS_str {b l : Nat} {s : Str} (hs : PyData.strOk s = true) : ∀ h, pS b l h (.str s)
  | 0 => .inr ⟨s, rfl, hs⟩
  | h + 1 => .inl (.inr ⟨s, rfl, hs⟩)
theorem pS_tup {b l h : Nat} {ds : List D} (hl : ds.length ≤ l) (hd : ∀ x ∈ ds, pS b l h x) : pS b l (h + 1) (.tup ds) := .inr ⟨ds, rfl, hl, hd⟩
theorem pS_up {b l : Nat} : ∀ {h : Nat} {d : D}, pS b l h d → pS b l (h + 1) d
  | 0, d, h => .inl h
  | h + 1, d, .inl e => .inl e
  | h + 1, d, .inr ⟨ds, e, hl, hx⟩ => .inr ⟨ds, e, hl, fun x m => pS_up (hx x m)⟩
theorem pS_le {b l h : Nat} {d : D} (p : pS b l h d) : ∀ k, pS b l (h + k) d
  | 0 => p
  | k + 1 => pS_up (pS_le p k)
theorem pS_gD {b l : Nat} : ∀ {h : Nat} {d : D}, pS b l h d → gD b l d = true
  | 0, d, .inl ⟨i, e, h⟩ => by subst e; simpa [gD] using h
  | 0, d, .inr ⟨s, e, _⟩ => by subst e; rfl
  | h + 1, d, .inl (.inl ⟨i, e, h'⟩) => by subst e; simpa [gD] using h'
  | h + 1, d, .inl (.inr ⟨s, e, _⟩) => by subst e; rfl
  | h + 1, d, .inr ⟨ds, e, hl, hx⟩ => by
    subst e
    simp only [gD, Bool.and_eq_true, decide_eq_true_eq]
    exact ⟨hl, gDs_all.mpr fun x m => pS_gD (hx x m)⟩
theorem pS_py {b l : Nat} : ∀ {h : Nat} {d : D}, pS b l h d → ∃ p, d.py = some p ∧ p.canLay0 = true ∧ p.depth ≤ h
  | 0, d, .inl ⟨i, e, h⟩ => by subst e; exact ⟨.int i, by simp [D.py], by simp [PyData.canLay0], by simp [PyData.depth]⟩
  | 0, d, .inr ⟨s, e, hs⟩ => by subst e; exact ⟨.str s, by simp [D.py], by simp [PyData.canLay0, hs], by simp [PyData.depth]⟩
  | h + 1, d, .inl (.inl ⟨i, e, h'⟩) => by subst e; exact ⟨.int i, by simp [D.py], by simp [PyData.canLay0], by simp [PyData.depth]⟩
  | h + 1, d, .inl (.inr ⟨s, e, hs⟩) => by subst e; exact ⟨.str s, by simp [D.py], by simp [PyData.canLay0, hs], by simp [PyData.depth]⟩
  | h + 1, d, .inr ⟨ds, e, hl, hx⟩ => by
    subst e
    obtain ⟨ps, e2, l2, q⟩ := pys_of (Q := fun p => p.canLay0 = true ∧ p.depth ≤ h) fun x m => pS_py (hx x m)
    refine ⟨.tuple ps, by simp [D.py, e2], by simpa [PyData.canLay0] using can_all fun p m => (q p m).1, ?_⟩
    have := depth_all fun p m => (q p m).2
    simp only [PyData.depth]
    omega
theorem neS_nil {neg : Bool} {b l h : Nat} {ds : List D} (hx : ∀ x ∈ ds, pS b l h x) (hh : h ≤ 60) (S : Sto) : oEqB neg (.d (.tup ds)) (.d (.tup [])) S = .ok (.d (.bl (xor neg (decide (ds = []))))) S := by
  obtain ⟨ps, e2, l2, q⟩ := pys_of (Q := fun p => p.canLay0 = true ∧ p.depth ≤ h) fun x m => pS_py (hx x m)
  have c := can_all fun p m => (q p m).1
  have dd := depth_all fun p m => (q p m).2
  have s1 : SeqAt.shaped (.tuple ps) = true := by simp [SeqAt.shaped, PyData.canLay0, c, PyData.depth]; omega
  have s2 : SeqAt.shaped (.tuple []) = true := by decide
  have en : (ps = []) = (ds = []) := propext (by rw [← List.length_eq_zero_iff, ← List.length_eq_zero_iff (l := ds), l2])
  simp only [oEqB, pyV, D.py, e2, pys, Option.map_some, s1, s2, Bool.and_self, if_true, eqv_nil_t, en]
section
variable {n t : Nat} {S : Sto} {c : Cell}
theorem bentS_step (hodd : ∀ {n t : Nat} {S : Sto} {c : Cell}, S[n]? = some c → WOk t c → t < 2 ^ 99 → Ok (m__law_odd [.r n] S) (Dw n S (t + 1) (gD 90 3 · = true))) {b l N n t : Nat} {S : Sto} {c : Cell} {d : D} (hb : 90 ≤ b) (hb2 : b ≤ 1000) (hl : 3 ≤ l) (hl2 : l ≤ 1000) (hN : N ≤ 50) (hc : S[n]? = some c) (hw : WOk t c) (ht : t + 3 * N < 2 ^ 97) (hp : pS b l N d)
    (ih : ∀ ds x, d = .tup ds → x ∈ ds → ∀ {t' : Nat} {S : Sto} {c : Cell}, S[n]? = some c → WOk t' c → t' ≤ t + 2 → Ok (m__law_bent N [.r n, .d x] S) (Dw n S (t' + 3 * N) (gD (b + 1) (2 * l + 1) · = true))) :
    Ok (m__law_bent (N + 1) [.r n, .d d] S) (Dw n S (t + 3 * (N + 1)) (gD (b + 1) (2 * l + 1) · = true)) := by
  have hn := lt_of hc
  have two : 2 ^ (b + 1) = 2 * 2 ^ b := pow_up
  have one : 1 ≤ 2 ^ b := Nat.one_le_two_pow
  show Ok (dFn 4 (b__law_bent (fun _ => m__law_bent N) N) [.r n, .d d] S) _
  refine ok_fn ?_
  unfold b__law_bent
  simp [-dIfS_eq]
  have form : ((∃ i : Int, d = .int i ∧ i.natAbs < 2 ^ b) ∨ ∃ s, d = .str s ∧ PyData.strOk s = true) ∨ ∃ ds h, d = .tup ds ∧ ds.length ≤ l ∧ h ≤ 50 ∧ ∀ x ∈ ds, pS b l h x := by
    cases N with
    | zero => exact .inl hp
    | succ h =>
      rcases hp with hp | ⟨ds, e, h1, h2⟩
      · exact .inl hp
      · exact .inr ⟨ds, h, e, h1, by omega, h2⟩
  obtain ⟨Q, hQ⟩ : ∃ Q : Dn.Fl → Sto → Prop, ∀ fl S2, Q fl S2 ↔ (∃ x c', fl = .ret (.d x) ∧ gD (b + 1) (2 * l + 1) x = true ∧ S2 = S.set n c' ∧ WOk (t + 3 * (N + 1)) c') ∨ ∃ c', fl = .nx [some (.r n), some (.d d), none, none] ∧ S2 = S.set n c' ∧ WOk (t + 1) c' := ⟨_, fun _ _ => Iff.rfl⟩
  have same : Q (.nx [some (.r n), some (.d d), none, none]) S := (hQ _ _).mpr (.inr ⟨c, rfl, (set_same hc).symm, hw.mono (by omega)⟩)
  refine Ok.mono (Q := Q) ?_ ?_
  · rcases form with (⟨i, rfl, hi⟩ | ⟨s, rfl, _⟩) | ⟨ds, h, rfl, hdl, hh, hx⟩
    · simpa [isi] using same
    · simpa [isi] using same
    · by_cases he : ds = []
      · subst he
        have e := neS_nil (neg := true) (ds := []) hx (by omega) S
        simpa [isi, e] using same
      · simp [isi, neS_nil hx (by omega), he]
        refine (draw_spec hc hw (by omega) (by decide) (by decide)).mono ?_
        rintro _ _ ⟨i, c1, rfl, i0, i1, rfl, w1⟩
        simp
        by_cases hi : 0 < i
        · simp [hi]
          have hpos : 0 < ds.length := List.length_pos_iff.mpr he
          refine (draw_spec (set_at hc c1) w1 (by omega) (by omega) (by omega)).mono ?_
          rintro _ _ ⟨j, c2, rfl, j0, j1, rfl, w2⟩
          obtain ⟨x, e, hxm⟩ := atI_mem j0 j1
          simp [List.set_set, e]
          refine (ih ds x rfl hxm (set_at hc c2) w2 (by omega)).mono ?_
          rintro _ _ ⟨y, c3, rfl, hy, rfl, w3⟩
          have k1 := cutL_len (xs := ds) (lo := none) (hi := some j)
          have k2 := cutL_len (xs := ds) (lo := some (j + 1)) (hi := none)
          have z1 : (cutL ds none (some j)).length + 1 ≤ 16777216 := by omega
          have z2 : (cutL ds none (some j)).length + ((cutL ds (some (j + 1)) none).length + 1) ≤ 16777216 := by omega
          simp [List.set_set, szL, z1, z2]
          have z3 : (cutL ds none (some j)).length + 1 + (cutL ds (some (j + 1)) none).length ≤ 16777216 := by omega
          simp [z3]
          refine (hQ _ _).mpr (.inl ⟨_, c3, rfl, ?_, rfl, w3.mono (by omega)⟩)
          simp only [gD, Bool.and_eq_true, decide_eq_true_eq]
          refine ⟨by simp; omega, gDs_all.mpr fun z hz => ?_⟩
          simp at hz
          rcases hz with hz | rfl | hz
          · exact gD_mono (by omega) (by omega) _ (pS_gD (hx z (cutL_mem hz)))
          · exact hy
          · exact gD_mono (by omega) (by omega) _ (pS_gD (hx z (cutL_mem hz)))
        · simp [hi]
          exact (hQ _ _).mpr (.inr ⟨c1, rfl, rfl, w1⟩)
  · rintro fl S2 h
    rcases (hQ _ _).mp h with ⟨x, c1, rfl, hx, rfl, w1⟩ | ⟨c1, rfl, rfl, w1⟩
    · simp [take_set]
      exact ⟨x, c1, rfl, hx, rfl, w1⟩
    · simp
      refine (draw_spec (set_at hc c1) w1 (by omega) (by decide) (by decide)).mono ?_
      rintro _ _ ⟨way, c2, rfl, y0, y1, rfl, w2⟩
      have odd : Ok (m__law_odd [.r n] (S.set n c2)) (Dw n (S.set n c2) (t + 3) (gD 90 3 · = true)) := (hodd (set_at hc c2) w2 (by omega)).mono fun x S' ⟨⟨d', c', a1, a2, a3, a4⟩⟩ => ⟨d', c', a1, a2, a3, a4.mono (by omega)⟩
      have fin : ∀ x S', Dw n (S.set n c2) (t + 3) (gD 90 3 · = true) x S' → Ok (dFin S x S') (Dw n S (t + 3 * (N + 1)) (gD (b + 1) (2 * l + 1) · = true)) := by
        rintro _ _ ⟨d', c', rfl, a2, rfl, a4⟩
        simp [List.set_set, take_set]
        exact ⟨d', c', rfl, gD_mono (by omega) (by omega) _ a2, rfl, a4.mono (by omega)⟩
      rcases form with (⟨i, rfl, hi⟩ | ⟨s, rfl, _⟩) | ⟨ds, h, rfl, hdl, hh, hx⟩
      rotate_left
      · simp [isi, List.set_set]
        exact odd.mono fin
      rotate_left
      · simp [isi, List.set_set]
        by_cases q : way < 4
        · have cm : cMul 2 i = true := cMul_of 3 b (by decide) (by omega) (by decide) hi (by omega)
          simp [q, cm, szL]
          obtain ⟨x, e, hx⟩ := atI_mem (xs := [D.int (i + 1), .int (0 - i), .int (2 * i), .bl (decide (i = 1))]) y0 (by simpa using q)
          simp at e
          simp [e, take_set]
          refine ⟨x, c2, rfl, ?_, rfl, w2.mono (by omega)⟩
          simp at hx
          rcases hx with rfl | rfl | rfl | rfl <;> simp only [gD, decide_eq_true_eq] <;> omega
        · simp [q]
          exact odd.mono fin
      · simp [isi, List.set_set]
        by_cases q : way < 5
        · have k1 := cutL_len (xs := ds) (lo := none) (hi := some (-1))
          have k2 := cutL_len (xs := ds) (lo := none) (hi := some 1)
          have k3 := cutL_len (xs := ds) (lo := some 1) (hi := none)
          have z1 : ds.length + (cutL ds none (some 1)).length ≤ 16777216 := by omega
          simp [q, szL, z1]
          obtain ⟨x, e, hm⟩ := atI_mem (xs := [D.lst ds, .tup (cutL ds none (some (-1))), .tup (ds ++ cutL ds none (some 1)), .tup ds.reverse, .tup (cutL ds (some 1) none)]) y0 (by simpa using q)
          simp [e, take_set]
          refine ⟨x, c2, rfl, ?_, rfl, w2.mono (by omega)⟩
          have all : ∀ z ∈ ds, gD (b + 1) (2 * l + 1) z = true := fun z hz => gD_mono (by omega) (by omega) _ (pS_gD (hx z hz))
          simp at hm
          rcases hm with rfl | rfl | rfl | rfl | rfl <;> simp only [gD, Bool.and_eq_true, decide_eq_true_eq]
          · exact ⟨by omega, gDs_all.mpr all⟩
          · exact ⟨by omega, gDs_all.mpr fun z hz => all z (cutL_mem hz)⟩
          · refine ⟨by simp; omega, gDs_all.mpr fun z hz => ?_⟩
            simp at hz
            exact hz.elim (all z) fun hz => all z (cutL_mem hz)
          · exact ⟨by simp; omega, gDs_all.mpr fun z hz => all z (by simpa using hz)⟩
          · exact ⟨by omega, gDs_all.mpr fun z hz => all z (cutL_mem hz)⟩
        · simp [q]
          exact odd.mono fin
theorem bentS_spec (hodd : ∀ {n t : Nat} {S : Sto} {c : Cell}, S[n]? = some c → WOk t c → t < 2 ^ 99 → Ok (m__law_odd [.r n] S) (Dw n S (t + 1) (gD 90 3 · = true))) {b l : Nat} (hb : 90 ≤ b) (hb2 : b ≤ 1000) (hl : 3 ≤ l) (hl2 : l ≤ 1000) : ∀ (N : Nat) {n t : Nat} {S : Sto} {c : Cell} {d : D}, N ≤ 50 → S[n]? = some c → WOk t c → t + 3 * N < 2 ^ 97 → pS b l N d →
    Ok (m__law_bent (N + 1) [.r n, .d d] S) (Dw n S (t + 3 * (N + 1)) (gD (b + 1) (2 * l + 1) · = true)) := by
  intro N
  induction N with
  | zero =>
    intro n t S c d hN hc hw ht hp
    refine bentS_step hodd hb hb2 hl hl2 hN hc hw (by omega) hp ?_
    rintro ds x rfl
    rcases hp with ⟨i, e, _⟩ | ⟨s, e, _⟩ <;> cases e
  | succ N ih =>
    intro n t S c d hN hc hw ht hp
    refine bentS_step hodd hb hb2 hl hl2 hN hc hw (by omega) hp ?_
    rintro ds x rfl hx t' S c hc hw ht'
    refine ih (by omega) hc hw (by omega) ?_
    rcases hp with (⟨i, e, _⟩ | ⟨s, e, _⟩) | ⟨es, e, _, h⟩
    · cases e
    · cases e
    · cases e; exact h x hx
end
end Law
set_option Elab.async false
set_option linter.all false
set_option maxRecDepth 100000
set_option maxHeartbeats 4000000
namespace Law
open PySem PySem.Spec PyProof.Rows L2 GxR Gx Dn
/-! comprehensions with a test -/
theorem ok_lcF {α : Type} {it : DIf} {g : DGf} {tt : DTf} {te : DEf} {vs : List Nat} {env : Dn.Env} {S : Sto} {e : α → D} {xs : List α} {p : α → Bool} {f : α → D} {Q : Val → Sto → Prop} (hi : it env S = .ok ⟨xs.map e, []⟩ S) (hl : xs.length ≤ szL)
    (hf : ∀ x ∈ xs, ∀ c, Ok (g (.d (e x)) (wipeE env vs) (S ++ [c])) fun env1 S1 => Ok (tt env1 S1) fun b S2 => b = p x ∧ S2 = S ++ [c] ∧ (p x = true → Ok (te env1 S2) fun z S3 => z = .d (f x) ∧ S3 = S ++ [c])) (q : Q (.d (.lst ((xs.filter p).map f))) S) : Ok (dLc it g tt te vs env S) Q := by
  have key : ∀ (es : List α) (acc : List D), (∀ d ∈ es, d ∈ xs) → acc.length + es.length ≤ szL → lcLoop g tt te [] (wipeE env vs) S.length (es.map e) acc (S ++ [.lst acc]) = .ok (acc ++ (es.filter p).map f) (S ++ [.lst (acc ++ (es.filter p).map f)]) := by
    intro es
    induction es with
    | nil =>
      intro acc _ _
      simp only [List.map_nil]
      unfold lcLoop
      rw [if_pos ⟨wtOk_nil _, by simp⟩]
      simp
    | cons d es ih =>
      intro acc hm hz
      simp only [List.map_cons]
      unfold lcLoop
      rw [if_pos (wtOk_nil _)]
      obtain ⟨env1, S1, e1, b, S2, e2, rfl, rfl, h3⟩ := hf d (hm d List.mem_cons_self) (.lst acc)
      rw [e1]
      simp only [Out.bind_ok, e2]
      cases hp : p d with
      | false =>
        simp only [Bool.false_eq_true, if_false]
        rw [ih acc (fun x hx => hm x (List.mem_cons_of_mem _ hx)) (by simp at hz ⊢; omega)]
        simp [hp]
      | true =>
        obtain ⟨z, S3, e3, rfl, rfl⟩ := h3 hp
        simp only [if_true, e3, Out.bind_ok]
        rw [if_pos ⟨by simp at hz; omega, by simp⟩]
        have e4 : (S ++ [Cell.lst acc]).set S.length (.lst (acc ++ [f d])) = S ++ [.lst (acc ++ [f d])] := by simp
        rw [e4, ih (acc ++ [f d]) (fun x hx => hm x (List.mem_cons_of_mem _ hx)) (by simp at hz ⊢; omega)]
        simp [hp]
  unfold dLc
  rw [hi]
  simp only [Out.bind_ok]
  rw [key xs [] (fun _ h => h) (by simpa using hl)]
  simpa using q
end Law
set_option Elab.async false
set_option linter.all false
set_option maxRecDepth 100000
set_option maxHeartbeats 4000000
namespace Law
open PySem PySem.Spec PyProof.Rows L2 GxR Gx Dn
/-! rows beside one another -/
def pf (q : Rat) : PyData := .tuple [.int q.num, .int (q.den : Int)]
theorem dq_py (q : Rat) : (dq q).py = some (pf q) := by simp [dq, D.py, pys, pf]
theorem row_py : ∀ xs : List Rat, pys (xs.map dq) = some (xs.map pf)
  | [] => rfl
  | x :: xs => by simp [pys, dq_py, row_py xs]
theorem pf_eq (a b : Rat) : PyData.eqv (pf a) (pf b) = decide (a = b) := by
  rw [Bool.eq_iff_iff]
  simp [pf, PyData.eqv, PyData.eqvAll]
  constructor
  · rintro ⟨h1, h2⟩
    exact Rat.ext h1 (by omega)
  · rintro rfl
    exact ⟨rfl, rfl⟩
theorem pfs_eq : ∀ xs ys : List Rat, PyData.eqvAll (xs.map pf) (ys.map pf) = decide (xs = ys)
  | [], [] => by simp [PyData.eqvAll]
  | [], y :: ys => by simp [PyData.eqvAll]
  | x :: xs, [] => by simp [PyData.eqvAll]
  | x :: xs, y :: ys => by
    rw [Bool.eq_iff_iff]
    simp [PyData.eqvAll, pf_eq, pfs_eq xs ys]
theorem pf_can : ∀ xs : List Rat, PyData.canLayAll0 (xs.map pf) = true
  | [] => by simp [PyData.canLayAll0]
  | x :: xs => by simp [PyData.canLayAll0, pf, PyData.canLay0, pf_can xs]
theorem pf_depth (xs : List Rat) : PyData.depthAll (xs.map pf) ≤ 1 := depth_all fun p hp => by
  obtain ⟨x, _, rfl⟩ := List.mem_map.mp hp
  simp [pf, PyData.depth, PyData.depthAll]
theorem row_shaped (xs : List Rat) : SeqAt.shaped (.tuple (xs.map pf)) = true := by
  have := pf_depth xs
  simp [SeqAt.shaped, PyData.canLay0, pf_can xs, PyData.depth]
  omega
theorem row_eq (neg : Bool) (xs ys : List Rat) (S : Sto) : oEqB neg (.d (drow xs)) (.d (drow ys)) S = .ok (.d (.bl (xor neg (decide (xs = ys))))) S := by
  simp only [oEqB, drow, pyV, D.py, row_py, Option.map_some, row_shaped, Bool.and_self, if_true, PyData.eqv, pfs_eq]
/-! papers -/
def nn (d : D) : Bool := match d with
  | .tup [.int a, _] => decide (0 ≤ a)
  | _ => false
def wgtB (n : Int) (d : D) : Bool := match d with
  | .tup ds => decide ((ds.length : Int) = n) && ds.all fun x => fracB x && nn x
  | _ => false
def qD (d : D) : Rat := match d with
  | .tup [.int a, .int b] => Rat.divInt a b
  | _ => 0
theorem qD_dq (q : Rat) : qD (dq q) = q := Rat.num_divInt_den q
def mixC (qs : List Rat) (ws : List Wish) (i : Nat) : Rat := dotQ (qs.zip (ws.map fun w => w.1.getD i 0))
def mixR (qs : List Rat) (ws : List Wish) (z : Nat) : List Rat := (List.range z).map (mixC qs ws)
def mixB (qs : List Rat) (ws : List Wish) : Rat := dotQ (qs.zip (ws.map (·.2)))
def judged (z : Nat) (ws : List Wish) (row : List Rat) (b : Rat) (s : Str) (qs : List Rat) : Bool :=
  if s = "bound" then decide (mixR qs ws z = row) && decide (mixB qs ws ≤ b) else decide (mixR qs ws z = List.replicate z 0) && decide (mixB qs ws < 0)
def papB (z : Nat) (ws : List Wish) (row : List Rat) (b : Rat) (d : D) : Bool := match d with
  | .tup [.str s, .tup ds] => (decide (s = "bound") || decide (s = "void")) && wgtB ws.length (.tup ds) && judged z ws row b s (ds.map qD)
  | _ => false
theorem wgt_rows {n : Int} {b l : Nat} {ds : List D} (h : wgtB n (.tup ds) = true) (g : gD b l (.tup ds) = true) : ∃ qs : List Rat, ds = qs.map dq ∧ ds.map qD = qs ∧ (qs.length : Int) = n ∧ (∀ q ∈ qs, qb b q) ∧ ∀ q ∈ qs, 0 ≤ q.num := by
  simp only [wgtB, Bool.and_eq_true, decide_eq_true_eq, List.all_eq_true] at h
  obtain ⟨hl, ha⟩ := h
  obtain ⟨qs, rfl, hq⟩ := row_of (z := 0) (k := b) (P := fun d => fracB d = true ∧ gD b l d = true) (fun d ⟨h1, h2⟩ => by
    obtain ⟨q, rfl⟩ := frac_dq h1
    refine ⟨q, rfl, ?_, ?_⟩
    · have := gD_items h2 (.int q.num) (by simp [dq]); simpa [gD] using this
    · have := gD_items h2 (.int (q.den : Int)) (by simp [dq]); simpa [gD] using this) fun x hx => ⟨(ha x hx).1, gD_items g x hx⟩
  refine ⟨qs, rfl, ?_, by simpa using hl, hq, fun q hqs => ?_⟩
  · rw [List.map_map]
    have : qD ∘ dq = id := funext qD_dq
    rw [this, List.map_id]
  · have := (ha (dq q) (List.mem_map.mpr ⟨q, hqs, rfl⟩)).2
    simpa [nn, dq] using this
theorem zip_cut {α β : Type} (p : α × β → Bool) : ∀ l : List (α × β), (l.filter p) = l.filter p := fun _ => rfl
/-- what has the weight 0 counts nothing -/
theorem dotQ_filter : ∀ (l : List (Rat × Rat)) (a : Rat), l.foldl (fun a x => a + x.1 * x.2) a = (l.filter fun x => decide (x.1.num ≠ 0)).foldl (fun a x => a + x.1 * x.2) a
  | [], a => rfl
  | x :: l, a => by
    have ih := dotQ_filter l
    by_cases h : x.1 = 0
    · rw [List.filter_cons, if_neg (by simp [h]), List.foldl_cons, h, Rat.zero_mul, Rat.add_zero]
      exact ih a
    · rw [List.filter_cons, if_pos (by simp [h]), List.foldl_cons, List.foldl_cons]
      exact ih _
end Law
set_option Elab.async false
set_option linter.all false
set_option maxRecDepth 100000
set_option maxHeartbeats 4000000
namespace Law
open PySem PySem.Spec PyProof.Rows L2 GxR Gx Dn
theorem rng_mapP (j : Nat) : rngD 0 j = (List.range j).map fun i : Nat => D.int (i : Nat) := by simp [rngD]
theorem col_qbP {ws : List Wish} {z k i : Nat} (h : ∀ x ∈ ws, wb z k x) (hi : i < z) : ∀ q ∈ ws.map fun x => x.1.getD i 0, qb k q := fun q hq => by
  obtain ⟨x, hx, rfl⟩ := List.mem_map.mp hq
  have hb := h x hx
  have hl : i < x.1.length := by rw [hb.l]; exact hi
  have : x.1.getD i 0 = x.1[i] := by simp [hl]
  rw [this]
  exact hb.r _ (List.getElem_mem hl)
theorem snd_qbP {ws : List Wish} {z k : Nat} (h : ∀ x ∈ ws, wb z k x) : ∀ q ∈ ws.map (·.2), qb k q := fun q hq => by
  obtain ⟨x, hx, rfl⟩ := List.mem_map.mp hq
  exact (h x hx).b
theorem dot_qbP {r c : List Rat} {k z : Nat} (h : ∀ q ∈ r, qb k q) (h' : ∀ q ∈ c, qb k q) (hl : r.length = z) : qb (1 + (2 * k + 2) * z) (dotQ (r.zip c)) := by
  have d := dot_bound (zip_qb h h') (r.zip c).length
  rw [List.take_length] at d
  refine qb_mono d ?_
  have : (2 * k + 2) * (r.zip c).length ≤ (2 * k + 2) * z := Nat.mul_le_mul_left _ (zip_le hl)
  omega
def usedL (qs : List Rat) (ws : List Wish) : List (Rat × Wish) := (qs.zip ws).filter fun p => !decide (p.1.num = 0)
theorem used_mem {qs : List Rat} {ws : List Wish} {p : Rat × Wish} (h : p ∈ usedL qs ws) : p.1 ∈ qs ∧ p.2 ∈ ws := by
  have := List.of_mem_zip (a := p.1) (b := p.2) (List.mem_filter.mp h).1
  exact this
theorem used_len {qs : List Rat} {ws : List Wish} : (usedL qs ws).length ≤ ws.length := by
  have := List.length_filter_le (fun p : Rat × Wish => !decide (p.1.num = 0)) (qs.zip ws)
  simp at this
  unfold usedL
  simp
  omega
theorem mix_used (qs : List Rat) (ws : List Wish) (g : Wish → Rat) : dotQ (((usedL qs ws).map (·.1)).zip ((usedL qs ws).map fun p => g p.2)) = dotQ (qs.zip (ws.map g)) := by
  have e : ((usedL qs ws).map (·.1)).zip ((usedL qs ws).map fun p => g p.2) = (qs.zip (ws.map g)).filter fun x => decide (x.1.num ≠ 0) := by
    rw [List.zip_map', List.zip_map_right, List.filter_map]
    unfold usedL
    have : ((fun x : Rat × Rat => decide (x.1.num ≠ 0)) ∘ Prod.map id g) = fun p : Rat × Wish => !decide (p.1.num = 0) := by
      funext p
      simp [Prod.map]
    rw [this]
    rfl
  rw [e]
  exact (dotQ_filter _ _).symm
theorem zip_pw {qs : List Rat} {ws : List Wish} : ((qs.map dq).zip (ws.map dwish)).map (fun p => D.tup [p.1, p.2]) = (qs.zip ws).map fun p => D.tup [dq p.1, dwish p.2] := by
  rw [List.zip_map, List.map_map]
  rfl
theorem zip_wp {qs : List Rat} {ws : List Wish} : ((ws.map dwish).zip (qs.map dq)).map (fun p => D.tup [p.1, p.2]) = (ws.zip qs).map fun p => D.tup [dwish p.1, dq p.2] := by
  rw [List.zip_map, List.map_map]
  rfl
theorem weighed_eq {z k : Nat} {qs : List Rat} {ws : List Wish} (S : Sto) (hq : ∀ q ∈ qs, qb k q) (hw : ∀ w ∈ ws, wb z k w) (hz : z ≤ 12) (hl : (2 * k + 2) * ws.length ≤ 6000) (hk : k ≤ 900) :
    m_weighed [.d (.int (z : Nat)), .d (.tup (ws.map dwish)), .d (.tup (qs.map dq))] S = .ok (.d (.tup [drow (mixR qs ws z), dq (mixB qs ws)])) S := by
  have wl : ws.length ≤ 6000 := by
    have : 1 * ws.length ≤ (2 * k + 2) * ws.length := Nat.mul_le_mul_right _ (by omega)
    omega
  have ul := used_len (qs := qs) (ws := ws)
  have uq : ∀ q ∈ (usedL qs ws).map (·.1), qb k q := fun q h => by
    obtain ⟨p, hp, rfl⟩ := List.mem_map.mp h
    exact hq _ (used_mem hp).1
  have uw : ∀ w ∈ (usedL qs ws).map (·.2), wb z k w := fun w h => by
    obtain ⟨p, hp, rfl⟩ := List.mem_map.mp h
    exact hw _ (used_mem hp).2
  have len : ∀ c : List Rat, (2 * k + 2) * (((usedL qs ws).map (·.1)).zip c).length ≤ 6000 := fun c => by
    have : (((usedL qs ws).map (·.1)).zip c).length ≤ ws.length := by simp; omega
    exact Nat.le_trans (Nat.mul_le_mul_left _ this) hl
  refine ok_eq ?_
  unfold m_weighed
  refine ok_fn ?_
  unfold b_weighed
  try simp [-List.map_map]
  refine ok_lcF (e := fun p : Rat × Wish => D.tup [dq p.1, dwish p.2]) (xs := qs.zip ws) (p := fun p => !decide (p.1.num = 0)) (f := fun p => D.tup [dq p.1, dwish p.2]) (by simp [Dn.iMx, seqK, seqT, wtV, zip_pw]) (by simp [szL]; omega) (fun p hp c => ?_) ?_
  · simp [wipeE, dq, szL]
  have eu : ((qs.zip ws).filter fun p => !decide (p.1.num = 0)) = usedL qs ws := rfl
  rw [eu]
  generalize hU : D.lst ((usedL qs ws).map fun p => D.tup [dq p.1, dwish p.2]) = U
  try simp [-List.map_map]
  refine ok_lcM (e := fun p : Rat × Wish => D.tup [dq p.1, dwish p.2]) (ws := usedL qs ws) (f := fun p => dq p.1) (by simp [← hU]) (by simp [szL]; omega) (fun p hp c => ?_) ?_
  · simp [wipeE]
  try simp [-List.map_map]
  have sm : smallI (z : Int) = true := by unfold smallI; simp; omega
  refine ok_lcM (e := fun i : Nat => D.int (i : Nat)) (ws := List.range z) (f := fun i => D.lst ((usedL qs ws).map fun p => dq (p.2.1.getD i 0))) (by simp [sm, rng_mapP]) (by simp [szL]; omega) (fun i hi c => ?_) ?_
  · have hi : i < z := List.mem_range.mp hi
    simp [wipeE]
    refine ok_lcM (e := fun p : Rat × Wish => D.tup [dq p.1, dwish p.2]) (ws := usedL qs ws) (f := fun p => dq (p.2.1.getD i 0)) (by simp [← hU]) (by simp [szL]; omega) (fun p hp c => ?_) ?_
    · have hb := hw _ (used_mem hp).2
      have hl : i < p.2.1.length := by rw [hb.l]; exact hi
      simp [wipeE, dwish, drow, atI_cast, List.getElem?_eq_getElem hl]
    · simp
  try simp [-List.map_map]
  have es : ((usedL qs ws).map fun p => dq p.1) = ((usedL qs ws).map (·.1)).map dq := by simp
  refine ok_lcM (e := fun i : Nat => D.lst ((usedL qs ws).map fun p => dq (p.2.1.getD i 0))) (ws := List.range z) (f := fun i => dq (mixC qs ws i)) (by simp) (by simp [szL]; omega) (fun i hi c => ?_) ?_
  · have hi : i < z := List.mem_range.mp hi
    have cq : ∀ q ∈ (usedL qs ws).map (fun p => p.2.1.getD i 0), qb k q := by
      have := col_qbP uw hi
      rwa [List.map_map] at this
    have ec : ((usedL qs ws).map fun p => dq (p.2.1.getD i 0)) = ((usedL qs ws).map fun p => p.2.1.getD i 0).map dq := by simp
    have p := product_of_eq (S ++ [c]) (rows2.ll ((usedL qs ws).map (·.1)) ((usedL qs ws).map fun p => p.2.1.getD i 0)) (zip_qb uq cq) (len _) hk
    rw [mix_used qs ws (fun w => w.1.getD i 0)] at p
    rw [es, ec]
    simp [wipeE, -List.map_map, -List.getD_eq_getElem?_getD, p, mixC]
  try simp [-List.map_map]
  refine ok_lcM (e := fun p : Rat × Wish => D.tup [dq p.1, dwish p.2]) (ws := usedL qs ws) (f := fun p => dq p.2.2) (by simp [← hU]) (by simp [szL]; omega) (fun p hp c => ?_) ?_
  · simp [wipeE, dwish]
  have eb : ((usedL qs ws).map fun p => dq p.2.2) = ((usedL qs ws).map fun p => p.2.2).map dq := by simp
  have cq : ∀ q ∈ (usedL qs ws).map (fun p => p.2.2), qb k q := by
    have := snd_qbP uw
    rwa [List.map_map] at this
  have p := product_of_eq S (rows2.ll ((usedL qs ws).map (·.1)) ((usedL qs ws).map fun p => p.2.2)) (zip_qb uq cq) (len _) hk
  rw [mix_used qs ws (fun w => w.2)] at p
  rw [es, eb]
  simp [-List.map_map, p, szL]
  simp [drow, mixR, mixB]
theorem are_weights_eq {d : D} {n b l : Nat} (S : Sto) (h : gD b l d = true) : m_are_weights [.d (.int (n : Nat)), .d d] S = .ok (.d (.bl (wgtB n d))) S := by
  have hn := gD_nob h
  refine ok_eq ?_
  unfold m_are_weights
  refine ok_fn ?_
  unfold b_are_weights
  cases d with
  | tup ds =>
    simp [isi]
    by_cases hl : ds.length = n
    · simp [hl]
      refine ok_allG (ds := ds) (f := fun x => fracB x && nn x) (by simp) (fun d hd => ?_) ?_
      · simp [wipeE, is_fraction_eq _ (gD_items h d hd)]
        by_cases hf : fracB d = true
        · obtain ⟨q, rfl⟩ := frac_dq hf
          have e := dq_frac q
          simp only [dq] at e
          simp [e, dq, nn]
        · simp [hf]
      · simp [wgtB, hl]
    · have hl' : ¬ ((ds.length : Int) = (n : Nat)) := by omega
      simp [hl', wgtB]
  | obj c fs => simp [nob] at hn
  | _ => simp [isi, wgtB]
end Law
set_option Elab.async false
set_option linter.all false
set_option maxRecDepth 100000
set_option maxHeartbeats 4000000
namespace Law
open PySem PySem.Spec PyProof.Rows L2 GxR Gx Dn
theorem num_lt (q : Rat) : q.num < 0 ↔ q < 0 := by
  rw [← Rat.not_le, ← Rat.num_nonneg]
  omega
theorem mul_noughtsP {m : Nat} (S : Sto) (hm : m ≤ 100) : oMul (.d (.tup [.tup [.int 0, .int 1]])) (.d (.int (m : Nat))) S = .ok (.d (drow (List.replicate m 0))) S := by
  rw [oMul_tup, if_pos ⟨by simp, by simp; omega⟩]
  have f : ∀ m : Nat, (List.replicate m [D.tup [.int 0, .int 1]]).flatten = List.replicate m (D.tup [.int 0, .int 1]) := fun m => by
    induction m with
    | zero => rfl
    | succ m ih => simp [List.replicate_succ, ih]
  have e : dq 0 = D.tup [.int 0, .int 1] := rfl
  simp [drow, f, e]
theorem papB_else {z : Nat} {ws : List Wish} {row : List Rat} {b : Rat} {ds : List D} (h : ds.length ≠ 2) : papB z ws row b (.tup ds) = false := by
  match ds, h with
  | [], _ => rfl
  | [x], _ => cases x <;> rfl
  | [x, y], h => exact absurd rfl h
  | x :: y :: u :: r, _ => cases x <;> cases y <;> rfl
theorem papB_weights {z : Nat} {ws : List Wish} {row : List Rat} {b : Rat} {x y : D} (h : wgtB ws.length y = false) : papB z ws row b (.tup [x, y]) = false := by
  cases x <;> cases y <;> simp [papB, h]
theorem papB_kind {z : Nat} {ws : List Wish} {row : List Rat} {b : Rat} {s : Str} {y : D} (h : ¬ (s = "bound" ∨ s = "void")) : papB z ws row b (.tup [.str s, y]) = false := by
  cases y <;> simp [papB]
  intro h2
  exact absurd h2 h
theorem papB_text {z : Nat} {ws : List Wish} {row : List Rat} {b : Rat} {x y : D} (h : ∀ s, x ≠ .str s) : papB z ws row b (.tup [x, y]) = false := by
  cases x <;> first | rfl | exact absurd rfl (h _)
theorem in_kinds (neg : Bool) (s : Str) (S : Sto) : oInB neg (.d (.str s)) (.d (.tup [.str "bound", .str "void"])) S = .ok (.d (.bl (xor neg (decide (s = "bound") || decide (s = "void"))))) S := by
  unfold oInB
  have e : ∀ a : Str, (a == s) = decide (s = a) := fun a => by
    rw [Bool.eq_iff_iff]
    simp
    exact eq_comm
  simp [seqA, flatD, eqF]
  rw [e, e]
/-- the program's judge -/
theorem shows_eq {z k bb l : Nat} {ws : List Wish} {row : List Rat} {b : Rat} {d : D} (S : Sto) (hw : ∀ w ∈ ws, wb z k w) (hz : z ≤ 12) (hb : qb (1 + (2 * k + 2) * 12) b) (hd : gD k l d = true) (hl : (2 * k + 2) * ws.length ≤ 6000) (hk : k ≤ 150) :
    m_shows [.d (dlot z ws), .d (drow row), .d (dq b), .d d] S = .ok (.d (.bl (papB z ws row b d))) S := by
  have hn := gD_nob hd
  refine ok_eq ?_
  unfold m_shows
  refine ok_fn ?_
  unfold b_shows
  rw [dSeq_eq, ok_bind]
  simp only [dAsg_eq, dVar_eq, List.map_cons, List.map_nil, List.cons_append, List.nil_append, List.getElem?_cons_zero, getV_some, Out.bind_ok]
  have e : dlot z ws = D.tup [.int (z : Nat), .tup (ws.map dwish)] := rfl
  rw [e, dgTup_eq]
  simp [-dIfS_eq]
  rw [← e]
  obtain ⟨Q, hQ⟩ : ∃ Q : Dn.Fl → Sto → Prop, ∀ fl S2, Q fl S2 ↔ (∃ r, fl = .ret (.d (.bl r)) ∧ r = papB z ws row b d ∧ S2 = S) ∨ ((∃ x y, d = .tup [x, y] ∧ wgtB ws.length y = true) ∧ fl = .nx [some (.d (dlot z ws)), some (.d (drow row)), some (.d (dq b)), some (.d d), some (.d (.int (z : Nat))), some (.d (.tup (ws.map dwish))), none, none, none, none] ∧ S2 = S) := ⟨_, fun _ _ => Iff.rfl⟩
  have no : papB z ws row b d = false → Q (.ret (.d (.bl false))) S := fun h => (hQ _ _).mpr (.inl ⟨false, rfl, h.symm, rfl⟩)
  refine Ok.mono (Q := Q) ?_ ?_
  · cases d with
    | tup ds =>
      rcases pair_cases ds with ⟨x, y, rfl⟩ | hl2
      · obtain ⟨hx, hy⟩ := gD_pair hd
        simp [isi, are_weights_eq _ hy]
        by_cases c : wgtB ws.length y = true
        · simp [c]
          exact (hQ _ _).mpr (.inr ⟨⟨x, y, rfl, c⟩, rfl, rfl⟩)
        · have c' : wgtB ws.length y = false := by simpa using c
          simp [c']
          exact no (papB_weights c')
      · have hl3 : ¬ ((ds.length : Int) = 2) := by omega
        simp [isi, hl3]
        exact no (papB_else hl2)
    | obj c fs => simp [nob] at hn
    | _ => simp [isi]; exact no rfl
  rintro fl S2 h
  rcases (hQ _ _).mp h with ⟨r, rfl, rfl, rfl⟩ | ⟨⟨x, y, rfl, hy⟩, rfl, rfl⟩
  · simp
  obtain ⟨gx, gy⟩ := gD_pair hd
  simp [-dIfS_eq]
  rw [dIfS_eq]
  have nx := gD_nob gx
  by_cases hs : ∃ s, x = .str s
  · obtain ⟨s, rfl⟩ := hs
    simp [isi, in_kinds]
    by_cases hk2 : s = "bound" ∨ s = "void"
    · have hk3 : (s = "bound" → False) → s = "void" := fun h => hk2.elim (fun z => (h z).elim) id
      cases y with
      | tup ds =>
        obtain ⟨qs, rfl, eq, ql, qq, _⟩ := wgt_rows hy gy
        have w := weighed_eq (z := z) S2 qq hw hz hl (by omega)
        have qz : (2 * k + 2) * qs.length ≤ 6000 := by rw [show qs.length = ws.length by omega]; exact hl
        have bq := dot_qbP qq (snd_qbP hw) (z := qs.length) rfl
        have up := is_up_to_eq (p := mixB qs ws) (q := b) S2 bq hb (by omega)
        have pp : papB z ws row b (.tup [.str s, .tup (qs.map dq)]) = judged z ws row b s qs := by
          rcases hk2 with rfl | rfl <;> simp [papB, hy, eq]
        rw [pp]
        by_cases hb2 : s = "bound"
        · subst hb2
          by_cases c : mixR qs ws z = row <;> simp [w, row_eq, up, judged, c, szL]
        · have hv := hk3 hb2
          subst hv
          have vb : ¬ (("void" : Str) = "bound") := by decide
          by_cases c : mixR qs ws z = List.replicate z 0 <;> simp [w, row_eq, judged, mul_noughtsP _ (by omega : z ≤ 100), dq, c, szL, vb, num_lt]
      | _ => simp [wgtB] at hy
    · have hb2 : ¬ s = "bound" := fun h => hk2 (.inl h)
      have hb3 : ¬ s = "void" := fun h => hk2 (.inr h)
      simp [hb2, hb3, papB_kind hk2, szL]
  · have pp := papB_text (z := z) (ws := ws) (row := row) (b := b) (x := x) (y := y) fun s e => hs ⟨s, e⟩
    cases x <;> first | (exact absurd ⟨_, rfl⟩ hs) | (simp [nob] at nx; done) | simp [isi, pp]
end Law
set_option Elab.async false
set_option linter.all false
set_option maxRecDepth 100000
set_option maxHeartbeats 4000000
namespace Law
open PySem PySem.Spec PyProof.Rows L2 GxR Gx Dn
theorem l_are_weights_eq {z n b l : Nat} {ws : List Wish} {d : D} (S : Sto) (h : gD b l d = true) (hb : 0 < b) (h9 : b ≤ 9000) (hl : l ≤ szL) : m__law_are_weights [.d (dlot z ws), .d d] S = .ok (.d (.bl (wgtB ws.length d))) S := by
  have hn := gD_nob h
  have ix : oIx (.d (dlot z ws)) (.d (.int 1)) S = .ok (.d (.tup (ws.map dwish))) S := by simp [dlot]
  refine ok_eq ?_
  unfold m__law_are_weights
  refine ok_fn ?_
  unfold b__law_are_weights
  simp [ix, l_is_row_eq _ h hb h9 hl]
  by_cases c : rowB ws.length d = true
  · simp [c]
    cases d with
    | tup ds =>
      have hz : ds.length ≤ l := by simp [gD] at h; exact h.1
      have fr : ∀ x ∈ ds, fracB x = true := by
        simp only [rowB, Bool.and_eq_true, List.all_eq_true] at c
        exact c.2
      have len : (ds.length : Int) = ws.length := by
        simp only [rowB, Bool.and_eq_true, decide_eq_true_eq] at c
        exact c.1
      refine ok_lc (ds := ds) (f := fun d => .bl (nn d)) (by simp) (by omega) (fun d hd c => ?_) ?_
      · obtain ⟨q, rfl⟩ := frac_dq (fr d hd)
        simp [wipeE, dq, nn]
      · simp [bAll, seqL, blsOf_map]
        have e : wgtB ws.length (.tup ds) = ds.all nn := by
          simp only [wgtB, len, decide_true, Bool.true_and]
          rw [Bool.eq_iff_iff, List.all_eq_true, List.all_eq_true]
          exact ⟨fun h x hx => by have := h x hx; simp only [Bool.and_eq_true] at this; exact this.2, fun h x hx => by simp [fr x hx, h x hx]⟩
        rw [e]
    | _ => simp [rowB] at c
  · have c' : rowB ws.length d = false := by simpa using c
    have e : wgtB ws.length d = false := by
      cases d with
      | tup ds =>
        by_cases q : wgtB ws.length (.tup ds) = true
        · exfalso
          simp only [wgtB, Bool.and_eq_true, decide_eq_true_eq, List.all_eq_true] at q
          apply c
          simp only [rowB, Bool.and_eq_true, decide_eq_true_eq, List.all_eq_true]
          exact ⟨q.1, fun x hx => (q.2 x hx).1⟩
        · simpa using q
      | _ => rfl
    simp [c', e]
/-- what the wishes say together, by the law's own sums -/
theorem mixed_eq {z k : Nat} {ws : List Wish} {qs : List Rat} {X : Val} {t : Bool} (S : Sto) (hX : seqK X S = some (t, qs.map dq)) (hwt : wtOk (wtV X S) S) (hq : ∀ q ∈ qs, qb k q) (hw : ∀ w ∈ ws, wb z k w) (hz : z ≤ 12) (hl : (2 * k + 2) * ws.length ≤ 6000) (hk : k ≤ 150) (he : qs.length = ws.length) :
    m__law_mixed [.d (dlot z ws), X] S = .ok (.d (.tup [drow (mixR qs ws z), dq (mixB qs ws)])) S := by
  have ix0 : oIx (.d (dlot z ws)) (.d (.int 0)) S = .ok (.d (.int (z : Nat))) S := by simp [dlot]
  have ix1 : oIx (.d (dlot z ws)) (.d (.int 1)) S = .ok (.d (.tup (ws.map dwish))) S := by simp [dlot]
  have zl : (ws.zip qs).length = ws.length := by simp; omega
  have rep : List.replicate z (D.tup [.int 0, .int 1]) = (List.range z).map fun i => dq (dotQ ((qs.zip (ws.map fun w => w.1.getD i 0)).take 0)) := by
    have e : dq (dotQ []) = D.tup [.int 0, .int 1] := rfl
    simp [e]
    exact (List.eq_replicate_iff.mpr ⟨by simp, by simp⟩).symm
  refine ok_eq ?_
  unfold m__law_mixed
  refine ok_fn ?_
  unfold b__law_mixed
  rw [dSeq_eq, ok_bind]
  have zc : (0 : Int) ≤ z ∧ (z : Int) ≤ 100000 := by omega
  simp [-dFor_eq, ix0, szL, zc]
  rw [rep, dFor_eq, ok_bind]
  have it : Dn.iMx [.d (.tup (ws.map dwish)), X] S = .ok ⟨(ws.zip qs).map fun p => D.tup [dwish p.1, dq p.2], wtV X S⟩ S := by
    have e1 : seqK (.d (.tup (ws.map dwish))) S = some (true, ws.map dwish) := rfl
    have e2 : wtV (.d (.tup (ws.map dwish))) S = [] := rfl
    simp only [Dn.iMx, e1, hX, e2, List.nil_append]
    rw [zip_wp]
  simp [ix1, it]
  obtain ⟨I, hI⟩ : ∃ I : Nat → Dn.Env → Sto → Prop, ∀ j env S', I j env S' ↔ ∃ (e4 e5 e6 e7 e8 : Option Val), env = [some (.d (dlot z ws)), some X, some (.d (.lst ((List.range z).map fun i => dq (dotQ ((qs.zip (ws.map fun w => w.1.getD i 0)).take j))))), some (.d (dq (dotQ ((qs.zip (ws.map (·.2))).take j)))), e4, e5, e6, e7, e8] ∧ S' = S := ⟨_, fun _ _ _ => Iff.rfl⟩
  have d0 : dq (dotQ ((qs.zip (ws.map (·.2))).take 0)) = D.tup [.int 0, .int 1] := rfl
  refine ok_loop (I := I) ((hI _ _ _).mpr ⟨_, _, _, _, _, by rw [d0]; rfl, rfl⟩) (fun i env S' h => ?_) ?_ ?_
  · obtain ⟨_, _, _, _, _, _, rfl⟩ := (hI _ _ _).mp h
    exact hwt
  · rintro j d env S' ed h'
    obtain ⟨e4, e5, e6, e7, e8, rfl, rfl⟩ := (hI _ _ _).mp h'
    rw [List.getElem?_map] at ed
    obtain ⟨p, ep, rfl⟩ := Option.map_eq_some_iff.mp ed
    obtain ⟨w, q⟩ := p
    obtain ⟨ew, eq⟩ := List.getElem?_zip_eq_some.mp ep
    have hj : j < ws.length := (List.getElem?_eq_some_iff.mp ew).1
    have hb := hw w (List.mem_of_getElem? ew)
    have qk := hq q (List.mem_of_getElem? eq)
    have m1 : (2 * k + 2) * j ≤ 6000 := Nat.le_trans (Nat.mul_le_mul_left _ (Nat.le_of_lt hj)) hl
    have nx : ∀ g : Wish → Rat, dotQ ((qs.zip (ws.map g)).take (j + 1)) = dotQ ((qs.zip (ws.map g)).take j) + q * g w := fun g => by
      refine dotQ_take (x := (q, g w)) ?_
      rw [List.getElem?_zip_eq_some]
      exact ⟨eq, by rw [List.getElem?_map, ew]; rfl⟩
    have bd : ∀ g : Wish → Rat, (∀ c ∈ ws.map g, qb k c) → qb (1 + (2 * k + 2) * j) (dotQ ((qs.zip (ws.map g)).take j)) := fun g hg => dot_bound (zip_qb hq hg) j
    have iz : Dn.iMx [.d (.lst ((List.range z).map fun i => dq (dotQ ((qs.zip (ws.map fun w => w.1.getD i 0)).take j)))), .d (drow w.1)] S' = .ok ⟨(List.range z).map fun i => D.tup [dq (dotQ ((qs.zip (ws.map fun w => w.1.getD i 0)).take j)), dq (w.1.getD i 0)], []⟩ S' := by
      have e1 : w.1.map dq = (List.range z).map fun i => dq (w.1.getD i 0) := by
        apply List.ext_getElem
        · simp [hb.l]
        · intro i h1 h2
          have hi : i < w.1.length := by simpa using h1
          simp [hi]
      simp only [Dn.iMx, drow, seqK, seqT, seqL, wtV, List.append_nil]
      rw [e1, List.zip_map', List.map_map]
      rfl
    simp [dwish, -List.getD_eq_getElem?_getD]
    refine ok_lcM (e := fun i : Nat => D.tup [dq (dotQ ((qs.zip (ws.map fun w => w.1.getD i 0)).take j)), dq (w.1.getD i 0)]) (ws := List.range z) (f := fun i => dq (dotQ ((qs.zip (ws.map fun w => w.1.getD i 0)).take (j + 1)))) (by simpa [-List.getD_eq_getElem?_getD] using iz) (by simp [szL]; omega) (fun i hi c => ?_) ?_
    · have hi : i < z := List.mem_range.mp hi
      have cq := col_qbP hw hi
      have ci : qb k (w.1.getD i 0) := cq _ (List.mem_map.mpr ⟨w, List.mem_of_getElem? ew, rfl⟩)
      have B := bd (fun w => w.1.getD i 0) cq
      simp [wipeE, -List.getD_eq_getElem?_getD, times_eq _ qk ci (by omega), plus_eq _ B (qb_mul qk ci) (by omega)]
      rw [nx fun w => w.1.getD i 0]
    have B := bd (fun w => w.2) (snd_qbP hw)
    simp [-List.getD_eq_getElem?_getD, times_eq _ qk hb.b (by omega), plus_eq _ B (qb_mul qk hb.b) (by omega)]
    exact (hI _ _ _).mpr ⟨_, _, _, _, _, by rw [nx fun w => w.2], rfl⟩
  · rintro env S' h'
    obtain ⟨e4, e5, e6, e7, e8, rfl, rfl⟩ := (hI _ _ _).mp h'
    have tk : ∀ g : Wish → Rat, (qs.zip (ws.map g)).take (ws.zip qs).length = qs.zip (ws.map g) := fun g => List.take_of_length_le (by simp; omega)
    simp only [List.length_map, tk]
    simp [-List.getD_eq_getElem?_getD, szL]
    simp [mixR, mixB, drow, mixC, List.map_map, Function.comp_def]
theorem l_is_paper_eq {z k l : Nat} {ws : List Wish} {row : List Rat} {b : Rat} {d : D} (S : Sto) (hw : ∀ w ∈ ws, wb z k w) (hz : z ≤ 12) (hb : qb (1 + (2 * k + 2) * 12) b) (hd : gD k l d = true) (hl : (2 * k + 2) * ws.length ≤ 6000) (hk : k ≤ 150) (hk0 : 0 < k) (hl2 : l ≤ szL) :
    m__law_is_paper [.d (dlot z ws), .d (drow row), .d (dq b), .d d] S = .ok (.d (.bl (papB z ws row b d))) S := by
  have hn := gD_nob hd
  have ix0 : oIx (.d (dlot z ws)) (.d (.int 0)) S = .ok (.d (.int (z : Nat))) S := by simp [dlot]
  refine ok_eq ?_
  unfold m__law_is_paper
  refine ok_fn ?_
  unfold b__law_is_paper
  cases d with
  | tup ds =>
    rcases pair_cases ds with ⟨x, y, rfl⟩ | hl3
    · obtain ⟨gx, gy⟩ := gD_pair hd
      have nx := gD_nob gx
      by_cases hs : ∃ s, x = .str s
      · obtain ⟨s, rfl⟩ := hs
        simp [isi, in_kinds, szL, l_are_weights_eq (n := 0) _ gy hk0 (by omega) hl2]
        by_cases hk2 : s = "bound" ∨ s = "void"
        · have hk3 : (s = "bound" → False) → s = "void" := fun h => hk2.elim (fun z => (h z).elim) id
          by_cases hy : wgtB ws.length y = true
          · cases y with
            | tup ds =>
              obtain ⟨qs, rfl, eq, ql, qq, _⟩ := wgt_rows hy gy
              have w := mixed_eq (X := .d (.tup (qs.map dq))) (t := true) S rfl (wtOk_nil _) qq hw hz hl (by omega) (by omega)
              have qz : (2 * k + 2) * qs.length ≤ 6000 := by rw [show qs.length = ws.length by omega]; exact hl
              have bq := dot_qbP qq (snd_qbP hw) (z := qs.length) rfl
              have up := upto_eq (p := mixB qs ws) (q := b) S bq hb (by omega)
              have pp : papB z ws row b (.tup [.str s, .tup (qs.map dq)]) = judged z ws row b s qs := by
                rcases hk2 with rfl | rfl <;> simp [papB, hy, eq]
              rw [pp]
              by_cases hb2 : s = "bound"
              · subst hb2
                by_cases c : mixR qs ws z = row <;> simp [hy, w, row_eq, up, judged, c, szL]
              · have hv := hk3 hb2
                subst hv
                have vb : ¬ (("void" : Str) = "bound") := by decide
                by_cases c : mixR qs ws z = List.replicate z 0 <;> simp [hy, w, ix0, row_eq, judged, mul_noughtsP _ (by omega : z ≤ 100), dq, c, szL, vb, num_lt]
            | _ => simp [wgtB] at hy
          · have hy' : wgtB ws.length y = false := by simpa using hy
            rcases hk2 with rfl | rfl <;> simp [hy', papB_weights hy']
        · have hb2 : ¬ s = "bound" := fun h => hk2 (.inl h)
          have hb3 : ¬ s = "void" := fun h => hk2 (.inr h)
          simp [hb2, hb3, papB_kind hk2]
      · have pp := papB_text (z := z) (ws := ws) (row := row) (b := b) (x := x) (y := y) fun s e => hs ⟨s, e⟩
        cases x <;> first | (exact absurd ⟨_, rfl⟩ hs) | (simp [nob] at nx; done) | simp [isi, pp]
    · have hl4 : ¬ ((ds.length : Int) = 2) := by omega
      simp [isi, hl4, papB_else hl3]
  | obj c fs => simp [nob] at hn
  | _ => simp [isi, papB]
end Law
set_option Elab.async false
set_option linter.all false
set_option maxRecDepth 100000
set_option maxHeartbeats 4000000
namespace Law
open PySem PySem.Spec PyProof.Rows L2 GxR Gx Dn
/-! a store with new cells behind -/
section
variable {S X : Sto} {n : Nat} {c : Cell}
theorem x_get (hn : n < S.length) : (S.set n c ++ X)[n]? = some c := by
  rw [List.getElem?_append_left (by simpa using hn)]
  exact List.getElem?_set_self hn
theorem x_set (hn : n < S.length) (d : Cell) : (S.set n c ++ X).set n d = S.set n d ++ X := by
  rw [List.set_append_left _ _ (by simpa using hn), List.set_set]
theorem x_at (i : Nat) : (S.set n c ++ X)[S.length + i]? = X[i]? := by
  rw [List.getElem?_append_right (by simp), List.length_set, Nat.add_sub_cancel_left]
theorem x_at0 : (S.set n c ++ X)[S.length]? = X[0]? := x_at 0
theorem x_put (i : Nat) (e : Cell) : (S.set n c ++ X).set (S.length + i) e = S.set n c ++ X.set i e := by
  rw [List.set_append_right _ _ (by simp), List.length_set, Nat.add_sub_cancel_left]
theorem x_put0 (e : Cell) : (S.set n c ++ X).set S.length e = S.set n c ++ X.set 0 e := x_put 0 e
theorem x_take : (S.set n c ++ X).take S.length = S.set n c := push_take (by simp) X
theorem x_len : (S.set n c ++ X).length = S.length + X.length := by simp
end
def startD (z p : Nat) (d : D) : Prop := ∃ (i : Int) (l : D), d = .tup [.int i, l] ∧ 0 ≤ i ∧ i < p ∧ lotD z 3 l
def moveD (w : Nat) (d : D) : Prop := wishD w d
def mapD (z w : Nat) (d : D) : Prop := ∃ ds, d = .tup ds ∧ ds.length = z ∧ ∀ x ∈ ds, wishD w x
def caseD (z w p : Nat) (d : D) : Prop := ∃ (i j : Int) (g m : D), d = .tup [.int i, g, m, .int j] ∧ 0 ≤ i ∧ i < p ∧ 0 ≤ j ∧ j < p ∧ lotD w 3 g ∧ mapD z w m
def chD (zm : Nat) (d : D) : Prop := ∃ (z m p : Nat) (st cs sf : List D), d = .tup [.int z, .int m, .tup st, .tup cs, .tup sf] ∧ 1 ≤ z ∧ z ≤ zm ∧ m ≤ 2 ∧ p ≤ 3 ∧ 1 ≤ st.length ∧ st.length ≤ 3 ∧ cs.length ≤ 4 ∧ sf.length = p ∧ 1 ≤ p ∧
  (∀ x ∈ st, startD z p x) ∧ (∀ x ∈ cs, caseD z (z + m) p x) ∧ (∀ x ∈ sf, lotD z 3 x)
section
variable {n t : Nat} {S : Sto} {c : Cell}
end
end Law
set_option Elab.async false
set_option linter.all false
set_option maxRecDepth 100000
set_option maxHeartbeats 4000000
namespace Law
open PySem PySem.Spec PyProof.Rows L2 GxR Gx Dn
/-! what a drawn chart is -/
theorem idxB_of {i : Int} {p : Int} (h0 : 0 ≤ i) (h1 : i < p) : idxB (.int i) p = true := by simp [idxB, h0, h1]
theorem lotD_small {z m : Nat} {l : D} (h : lotD z m l) (h0 : 1 ≤ z) (h1 : z ≤ 12) (hm : m ≤ 40) : smallM 40 z l = true := by
  have q := lotD_lot (k := 40) h h0 h1 (by omega)
  obtain ⟨ws, rfl, _, _⟩ := h
  simp only [smallM, decide_true, Bool.true_and]
  exact q
theorem startD_start {z p : Nat} {d : D} (h : startD z p d) (h0 : 1 ≤ z) (h1 : z ≤ 12) : startB z p d = true := by
  obtain ⟨i, l, rfl, i0, i1, hl⟩ := h
  simp [startB, idxB_of i0 i1, lotD_small hl h0 h1]
theorem mapD_map {z w : Nat} {d : D} (h : mapD z w d) : mapB z w d = true := by
  obtain ⟨ds, rfl, hl, hx⟩ := h
  simp only [mapB, Bool.and_eq_true, decide_eq_true_eq, List.all_eq_true]
  exact ⟨by omega, fun x m => wishD_wish (hx x m)⟩
theorem caseD_case {z m p : Nat} {d : D} (h : caseD z (z + m) p d) (h0 : 1 ≤ z) (h1 : z + m ≤ 12) : caseB z ((z : Int) + m) p d = true := by
  obtain ⟨i, j, g, mm, rfl, i0, i1, j0, j1, hg, hm⟩ := h
  have a := lotD_small hg (by omega) h1 (by decide)
  have b := mapD_map hm
  have e : ((z + m : Nat) : Int) = (z : Int) + m := by omega
  rw [e] at a b
  simp [caseB, idxB_of i0 i1, idxB_of j0 j1, a, b]
theorem chD_chart {zm : Nat} {d : D} (h : chD zm d) (hz : zm ≤ 8) : chartB d = true := by
  obtain ⟨z, m, p, st, cs, sf, rfl, z1, z2, m2, p2, s0, s1, c1, f1, p1, hs, hc, hf⟩ := h
  simp only [chartB, Bool.and_eq_true, decide_eq_true_eq, tupB, List.all_eq_true]
  refine ⟨⟨⟨⟨⟨by omega, by omega⟩, by omega, by omega⟩, by omega⟩, ⟨⟨by omega, by omega⟩, by omega, by omega⟩, by omega, by omega⟩, ⟨fun x m => ?_, fun x m => ?_⟩, fun x m => ?_⟩
  · rw [f1]; exact startD_start (hs x m) z1 (by omega)
  · rw [f1]; exact caseD_case (hc x m) z1 (by omega)
  · exact lotD_small (hf x m) z1 (by omega) (by decide)
theorem startD_pD {z p : Nat} {d : D} (h : startD z p d) (h1 : z ≤ 102) (hp : p ≤ 100) : pD 8 102 6 d := by
  obtain ⟨i, l, rfl, i0, i1, hl⟩ := h
  refine pD_tup (by simp) fun x hx => ?_
  simp at hx
  rcases hx with rfl | rfl
  · exact pD_int (by omega) 5
  · exact lotD_pD hl h1 (by decide)
theorem caseD_pD {z w p : Nat} {d : D} (h : caseD z w p d) (h0 : z ≤ 102) (h1 : w ≤ 102) (hp : p ≤ 100) : pD 8 102 6 d := by
  obtain ⟨i, j, g, m, rfl, i0, i1, j0, j1, hl, ds, rfl, hd, hx⟩ := h
  refine pD_tup (by simp) fun x hx' => ?_
  simp at hx'
  rcases hx' with rfl | rfl | rfl | rfl
  · exact pD_int (by omega) 5
  · exact lotD_pD hl h1 (by decide)
  · exact pD_up (pD_tup (by omega) fun x m => wishD_pD (hx x m) h1)
  · exact pD_int (by omega) 5
theorem five_pD {z m : Int} {st cs sf : List D} {l : Nat} (hz : z.natAbs < 2 ^ 8) (hm : m.natAbs < 2 ^ 8) (hl : 5 ≤ l) (s1 : st.length ≤ l) (c1 : cs.length ≤ l) (f1 : sf.length ≤ l) (hs : ∀ x ∈ st, pD 8 l 6 x) (hc : ∀ x ∈ cs, pD 8 l 6 x) (hf : ∀ x ∈ sf, pD 8 l 6 x) :
    pD 8 l 8 (.tup [.int z, .int m, .tup st, .tup cs, .tup sf]) := by
  refine pD_tup (by simp; omega) fun x hx' => ?_
  simp at hx'
  rcases hx' with rfl | rfl | rfl | rfl | rfl
  · exact pD_int hz 7
  · exact pD_int hm 7
  · exact pD_tup s1 hs
  · exact pD_tup c1 hc
  · exact pD_tup f1 hf
theorem chD_pD {zm : Nat} {d : D} (h : chD zm d) (hz : zm ≤ 8) : pD 8 130 8 d := by
  obtain ⟨z, m, p, st, cs, sf, rfl, z1, z2, m2, p2, s0, s1, c1, f1, p1, hs, hc, hf⟩ := h
  refine five_pD (by omega) (by omega) (by omega) (by omega) (by omega) (by omega) (fun x m => ?_) (fun x m => ?_) (fun x m => ?_)
  · exact pD_wide (b := 8) (l := 102) (by decide) (by decide) (startD_pD (hs x m) (by omega) (by omega))
  · exact pD_wide (b := 8) (l := 102) (by decide) (by decide) (caseD_pD (hc x m) (by omega) (by omega) (by omega))
  · exact pD_wide (b := 8) (l := 102) (by decide) (by decide) (pD_up (lotD_pD (hf x m) (by omega) (by decide)))
theorem cut_head {α : Type} (x : α) (xs : List α) : cutL (x :: xs) none (some 1) = [x] := by
  unfold cutL HT.sIx
  simp
theorem cut_tail {α : Type} (x : α) (xs : List α) : cutL (x :: xs) (some 1) none = xs := by
  unfold cutL HT.sIx
  simp
section
variable {n t : Nat} {S : Sto} {c : Cell}
end
end Law
set_option Elab.async false
set_option linter.all false
set_option maxRecDepth 100000
set_option maxHeartbeats 4000000
namespace Law
open PySem PySem.Spec PyProof.Rows L2 GxR Gx Dn
/-! charts, tables as data of fractions -/
structure Cs where
  f : Nat
  g : List Wish
  mv : List Wish
  t : Nat
structure Ch where
  z : Nat
  m : Nat
  st : List (Nat × List Wish)
  cs : List Cs
  sf : List (List Wish)
def dstart (z : Nat) (s : Nat × List Wish) : D := .tup [.int (s.1 : Nat), dlot z s.2]
def dcase (w : Nat) (c : Cs) : D := .tup [.int (c.f : Nat), dlot w c.g, .tup (c.mv.map dwish), .int (c.t : Nat)]
def dch (C : Ch) : D := .tup [.int (C.z : Nat), .int (C.m : Nat), .tup (C.st.map (dstart C.z)), .tup (C.cs.map (dcase (C.z + C.m))), .tup (C.sf.map (dlot C.z))]
/-- lots of z with up to n wishes below 2^k -/
structure lb (z n k : Nat) (ws : List Wish) : Prop where
  l : ws.length ≤ n
  w : ∀ w ∈ ws, wb z k w
structure cb (z w p n k : Nat) (c : Cs) : Prop where
  f : c.f < p
  t : c.t < p
  g : lb w n k c.g
  ml : c.mv.length = z
  mw : ∀ x ∈ c.mv, wb w k x
/-- sizes: z up to 8, places p, starts, cases; numbers below 2^k; lots up to n wishes -/
structure ChOk (n k : Nat) (C : Ch) : Prop where
  z0 : 1 ≤ C.z
  z1 : C.z ≤ 8
  m1 : C.m ≤ 6
  zm : C.z + C.m ≤ 12
  s0 : 1 ≤ C.st.length
  s1 : C.st.length ≤ 12
  c1 : C.cs.length ≤ 120
  p0 : 1 ≤ C.sf.length
  p1 : C.sf.length ≤ 12
  s : ∀ s ∈ C.st, s.1 < C.sf.length ∧ lb C.z n k s.2
  c : ∀ c ∈ C.cs, cb C.z (C.z + C.m) C.sf.length n k c
  f : ∀ l ∈ C.sf, lb C.z n k l
theorem map_of {α : Type} {P : D → Prop} {e : α → D} {R : α → Prop} (h : ∀ d, P d → ∃ a, d = e a ∧ R a) : ∀ {ds : List D}, (∀ x ∈ ds, P x) → ∃ xs : List α, ds = xs.map e ∧ ∀ x ∈ xs, R x
  | [], _ => ⟨[], rfl, by simp⟩
  | d :: ds, hx => by
    obtain ⟨a, rfl, ha⟩ := h d (hx d List.mem_cons_self)
    obtain ⟨xs, rfl, hxs⟩ := map_of h fun x m => hx x (List.mem_cons_of_mem _ m)
    refine ⟨a :: xs, rfl, fun x hm => ?_⟩
    simp at hm
    rcases hm with rfl | hm
    · exact ha
    · exact hxs x hm
theorem lot_lb {z m : Nat} {d : D} (h : lotD z m d) : ∃ ws : List Wish, d = dlot z ws ∧ lb z m 6 ws := by
  obtain ⟨ws, rfl, hl, hw⟩ := lotD_of h
  exact ⟨ws, rfl, hl, hw⟩
theorem lb_mono {z n k n' k' : Nat} {ws : List Wish} (h : lb z n k ws) (hn : n ≤ n') (hk : k ≤ k') : lb z n' k' ws :=
  ⟨Nat.le_trans h.l hn, fun w hw => ⟨(h.w w hw).l, fun q hq => qb_mono ((h.w w hw).r q hq) hk, qb_mono (h.w w hw).b hk⟩⟩
theorem ch_of {zm : Nat} {d : D} (h : chD zm d) (hz : zm ≤ 8) : ∃ C : Ch, d = dch C ∧ ChOk 3 6 C ∧ C.z ≤ zm ∧ C.m ≤ 2 ∧ C.sf.length ≤ 3 ∧ C.st.length ≤ 3 ∧ C.cs.length ≤ 4 := by
  obtain ⟨z, m, p, st, cs, sf, rfl, h1, h2, h3, h4, h5, h6, h7, h8, h9, hs, hc, hf⟩ := h
  obtain ⟨s', rfl, hs'⟩ := map_of (e := dstart z) (R := fun s => s.1 < p ∧ lb z 3 6 s.2) (fun d ⟨i, l, e, i0, i1, hl⟩ => by
    obtain ⟨ws, rfl, b⟩ := lot_lb hl
    obtain ⟨k, rfl⟩ := Int.eq_ofNat_of_zero_le i0
    exact ⟨(k, ws), e, by simpa using i1, b⟩) hs
  obtain ⟨c', rfl, hc'⟩ := map_of (e := dcase (z + m)) (R := fun c => cb z (z + m) p 3 6 c) (fun d ⟨i, j, g, mm, e, i0, i1, j0, j1, hg, hm⟩ => by
    obtain ⟨ws, rfl, b⟩ := lot_lb hg
    obtain ⟨ds, rfl, ml, mx⟩ := hm
    obtain ⟨mv, rfl, mw⟩ := wishes_of mx
    obtain ⟨k, rfl⟩ := Int.eq_ofNat_of_zero_le i0
    obtain ⟨l, rfl⟩ := Int.eq_ofNat_of_zero_le j0
    exact ⟨⟨k, ws, mv, l⟩, e, by simpa using i1, by simpa using j1, b, by simpa using ml, mw⟩) hc
  obtain ⟨f', rfl, hf'⟩ := map_of (e := dlot z) (R := fun l => lb z 3 6 l) (fun d hl => lot_lb hl) hf
  simp at h5 h6 h7 h8
  subst h8
  exact ⟨⟨z, m, s', c', f'⟩, rfl, ⟨h1, by show z ≤ 8; omega, by show m ≤ 6; omega, by show z + m ≤ 12; omega, h5, by show s'.length ≤ 12; omega, by show c'.length ≤ 120; omega, h9, by show f'.length ≤ 12; omega, hs', hc', hf'⟩, h2, h3, h4, h6, h7⟩
/-! what the looks say of them -/
theorem lb_small {z n k : Nat} {ws : List Wish} (h : lb z n k ws) (h0 : 1 ≤ z) (h1 : z ≤ 12) (hn : n ≤ 40) : smallM 40 z (dlot z ws) = true := by
  have a := dlot_lot (m := 40) h.w h0 h1 (by have := h.l; omega)
  simp only [dlot] at a ⊢
  simp only [smallM, a, decide_true, Bool.and_true]
theorem ok_start {C : Ch} {n k : Nat} (h : ChOk n k C) (hn : n ≤ 40) {s : Nat × List Wish} (hs : s ∈ C.st) : startB C.z C.sf.length (dstart C.z s) = true := by
  obtain ⟨a, b⟩ := h.s s hs
  have := h.z1
  simp [dstart, startB, idxB, lb_small b h.z0 (by omega) hn]
  omega
theorem ok_case {C : Ch} {n k : Nat} (h : ChOk n k C) (hn : n ≤ 40) {c : Cs} (hc : c ∈ C.cs) : caseB C.z ((C.z : Int) + C.m) C.sf.length (dcase (C.z + C.m) c) = true := by
  have b := h.c c hc
  have hz := h.zm
  have hz0 := h.z0
  have sm := lb_small b.g (by omega) h.zm hn
  have e : ((C.z + C.m : Nat) : Int) = (C.z : Int) + C.m := by omega
  rw [e] at sm
  have hf := b.f
  have ht := b.t
  have ml := b.ml
  have mw : (c.mv.map dwish).all (wishB ((C.z : Int) + C.m)) = true := by
    rw [List.all_map, List.all_eq_true]
    intro x hx
    have := dwish_wish (b.mw x hx)
    rw [e] at this
    exact this
  simp only [dcase, caseB, idxB, sm, mapB, mw, List.length_map, Bool.and_eq_true, decide_eq_true_eq, true_and, and_true]
  omega
theorem ok_chart {C : Ch} {n k : Nat} (h : ChOk n k C) (hn : n ≤ 40) : chartB (dch C) = true := by
  have a1 : (C.st.map (dstart C.z)).all (startB C.z C.sf.length) = true := by
    rw [List.all_map, List.all_eq_true]
    exact fun x hx => ok_start h hn hx
  have a2 : (C.cs.map (dcase (C.z + C.m))).all (caseB C.z ((C.z : Int) + C.m) C.sf.length) = true := by
    rw [List.all_map, List.all_eq_true]
    exact fun x hx => ok_case h hn hx
  have a3 : (C.sf.map (dlot C.z)).all (smallM 40 C.z) = true := by
    rw [List.all_map, List.all_eq_true]
    exact fun x hx => lb_small (h.f x hx) h.z0 (by have := h.z1; omega) hn
  have b := h.z0; have b1 := h.z1; have b2 := h.m1; have b3 := h.zm; have b4 := h.s0; have b5 := h.s1; have b6 := h.c1; have b7 := h.p0; have b8 := h.p1
  simp only [dch, chartB, a1, a2, a3, tupB, List.length_map, Bool.and_true, Bool.and_eq_true, decide_eq_true_eq, true_and, and_true]
  omega
theorem gD_tupM {α : Type} {b l : Nat} {e : α → D} {xs : List α} (hl : xs.length ≤ l) (h : ∀ x ∈ xs, gD b l (e x) = true) : gD b l (.tup (xs.map e)) = true := by
  simp only [gD, Bool.and_eq_true, decide_eq_true_eq, List.length_map]
  refine ⟨hl, gDs_all.mpr fun d hd => ?_⟩
  obtain ⟨x, hx, rfl⟩ := List.mem_map.mp hd
  exact h x hx
theorem gD_nat {b l n : Nat} (h : n < 2 ^ b) : gD b l (.int (n : Nat)) = true := by simpa [gD] using h
theorem lb_gD {z n k l : Nat} {ws : List Wish} (h : lb z n k ws) (hz : z ≤ l) (hn : n ≤ l) (hl : 2 ≤ l) (hk : z < 2 ^ k) : gD k l (dlot z ws) = true := dlot_gD h.w hz (Nat.le_trans h.l hn) hl hk
theorem gD_fours {b l : Nat} {ds : List D} (hl : ds.length ≤ l) (h : ∀ x ∈ ds, gD b l x = true) : gD b l (.tup ds) = true := by
  simp only [gD, Bool.and_eq_true, decide_eq_true_eq]
  exact ⟨hl, gDs_all.mpr h⟩
theorem ok_gD {C : Ch} {n k : Nat} (h : ChOk n k C) (hn : n ≤ 40) (hk : 4 ≤ k) : gD k 120 (dch C) = true := by
  have p4 : 2 ^ 4 ≤ 2 ^ k := pow_le hk
  have b := h.z0; have b1 := h.z1; have b2 := h.m1; have b3 := h.zm; have b4 := h.s0; have b5 := h.s1; have b6 := h.c1; have b7 := h.p0; have b8 := h.p1
  refine gD_fours (by simp) fun x hx => ?_
  simp only [List.mem_cons, List.not_mem_nil, or_false] at hx
  rcases hx with rfl | rfl | rfl | rfl | rfl
  · exact gD_nat (by omega)
  · exact gD_nat (by omega)
  · refine gD_tupM (by omega) fun s hs => gD_fours (by simp) fun x hx => ?_
    obtain ⟨a, c⟩ := h.s s hs
    simp only [List.mem_cons, List.not_mem_nil, or_false] at hx
    rcases hx with rfl | rfl
    · exact gD_nat (by omega)
    · exact lb_gD c (by omega) (by omega) (by omega) (by omega)
  · refine gD_tupM (by omega) fun s hs => gD_fours (by simp) fun x hx => ?_
    have c := h.c s hs
    have f := c.f; have t := c.t; have ml := c.ml
    simp only [List.mem_cons, List.not_mem_nil, or_false] at hx
    rcases hx with rfl | rfl | rfl | rfl
    · exact gD_nat (by omega)
    · exact lb_gD c.g (by omega) (by omega) (by omega) (by omega)
    · exact gD_tupM (by omega) fun w hw => dwish_gD (c.mw w hw) (by omega) (by omega)
    · exact gD_nat (by omega)
  · exact gD_tupM (by omega) fun l hl => lb_gD (h.f l hl) (by omega) (by omega) (by omega) (by omega)
end Law
set_option Elab.async false
set_option linter.all false
set_option maxRecDepth 100000
set_option maxHeartbeats 4000000
namespace Law
open PySem PySem.Spec PyProof.Rows L2 GxR Gx Dn
/-! the wishes of a table -/
def dtab (z : Nat) (T : List (List Wish)) : D := .tup (T.map (dlot z))
structure TbOk (z p n k : Nat) (T : List (List Wish)) : Prop where
  l : T.length = p
  w : ∀ l ∈ T, lb z n k l
def getT (T : List (List Wish)) (i : Nat) : List Wish := T.getD i []
theorem getT_at {T : List (List Wish)} {i z : Nat} (h : i < T.length) : (T.map (dlot z))[i]? = some (dlot z (getT T i)) := by
  rw [List.getElem?_map, List.getElem?_eq_getElem h]
  simp [getT, h]
theorem getT_ok {z p n k i : Nat} {T : List (List Wish)} (h : TbOk z p n k T) (hi : i < p) : lb z n k (getT T i) := by
  have hl : i < T.length := by rw [h.l]; exact hi
  have : getT T i = T[i] := by simp [getT, hl]
  rw [this]
  exact h.w _ (List.getElem_mem hl)
theorem tab_at {T : List (List Wish)} {i z : Nat} (S : Sto) (h : i < T.length) : oIx (.d (dtab z T)) (.d (.int (i : Nat))) S = .ok (.d (dlot z (getT T i))) S := by
  rw [dtab, oIx_tup, atI_cast, getT_at h]; rfl
theorem lot_ix1 {z : Nat} {ws : List Wish} (S : Sto) : oIx (.d (dlot z ws)) (.d (.int 1)) S = .ok (.d (.tup (ws.map dwish))) S := by
  simp [dlot]
theorem lot_ix0 {z : Nat} {ws : List Wish} (S : Sto) : oIx (.d (dlot z ws)) (.d (.int 0)) S = .ok (.d (.int (z : Nat))) S := by
  simp [dlot]
theorem ch_ix0 {C : Ch} (S : Sto) : oIx (.d (dch C)) (.d (.int 0)) S = .ok (.d (.int (C.z : Nat))) S := by simp [dch]
theorem ch_ix1 {C : Ch} (S : Sto) : oIx (.d (dch C)) (.d (.int 1)) S = .ok (.d (.int (C.m : Nat))) S := by simp [dch]
theorem ch_ix2 {C : Ch} (S : Sto) : oIx (.d (dch C)) (.d (.int 2)) S = .ok (.d (.tup (C.st.map (dstart C.z)))) S := by simp [dch]
theorem ch_ix3 {C : Ch} (S : Sto) : oIx (.d (dch C)) (.d (.int 3)) S = .ok (.d (.tup (C.cs.map (dcase (C.z + C.m))))) S := by simp [dch]
theorem ch_ix4 {C : Ch} (S : Sto) : oIx (.d (dch C)) (.d (.int 4)) S = .ok (.d (.tup (C.sf.map (dlot C.z)))) S := by simp [dch]
theorem check_chart_eq {C : Ch} {n k : Nat} (S : Sto) (h : ChOk n k C) (hn : n ≤ 40) (hk : 4 ≤ k) : m_check_chart [.d (dch C)] S = .ok (.d .non) S := by
  refine ok_eq ?_
  unfold m_check_chart
  refine ok_fn ?_
  unfold b_check_chart
  simp [is_chart_eq S (ok_gD h hn hk), ok_chart h hn]
theorem has_lots_eq {C : Ch} {T : List (List Wish)} {n k : Nat} (S : Sto) (h : ChOk n k C) (hT : TbOk C.z C.sf.length n k T) (hn : n ≤ 40) (hk : 4 ≤ k) : m_has_lots [.d (dch C), .d (dtab C.z T)] S = .ok (.d (.bl true)) S := by
  have hz0 := h.z0
  have hz1 := h.z1
  have p4 : 2 ^ 4 ≤ 2 ^ k := pow_le hk
  refine ok_eq ?_
  unfold m_has_lots
  refine ok_fn ?_
  unfold b_has_lots
  have e1 : tupB (dtab C.z T) C.sf.length C.sf.length = true := by
    unfold dtab
    rw [tupN]
    simp [hT.l]
  simp [ch_ix4, is_tuple_of_eq (d := dtab C.z T) _ rfl, e1]
  refine ok_allM (e := dlot C.z) (ws := T) (f := fun _ => true) (by simp [dtab]) (fun l hl => ?_) ?_
  · have b := hT.w l hl
    simp [wipeE, ch_ix0, is_small_lot_eq _ (lb_gD (l := 40) b (by omega) hn (by decide) (by omega)), lb_small b hz0 (by omega) hn]
  · simp
/-! led back -/
def ledQ (r : List Rat) (mv : List Wish) (i : Nat) : Rat := dotQ (r.zip (mv.map fun x => x.1.getD i 0))
def led (r : List Rat) (mv : List Wish) (w : Nat) : List Rat := (List.range w).map (ledQ r mv)
def brought (r : List Rat) (mv : List Wish) : Rat := dotQ (r.zip (mv.map (·.2)))
theorem rng_map (j : Nat) : rngD 0 j = (List.range j).map fun i : Nat => D.int (i : Nat) := by simp [rngD]
theorem col_qb {mv : List Wish} {w k i : Nat} (h : ∀ x ∈ mv, wb w k x) (hi : i < w) : ∀ q ∈ mv.map fun x => x.1.getD i 0, qb k q := fun q hq => by
  obtain ⟨x, hx, rfl⟩ := List.mem_map.mp hq
  have hb := h x hx
  have hl : i < x.1.length := by rw [hb.l]; exact hi
  have : x.1.getD i 0 = x.1[i] := by simp [hl]
  rw [this]
  exact hb.r _ (List.getElem_mem hl)
theorem snd_qb {mv : List Wish} {w k : Nat} (h : ∀ x ∈ mv, wb w k x) : ∀ q ∈ mv.map (·.2), qb k q := fun q hq => by
  obtain ⟨x, hx, rfl⟩ := List.mem_map.mp hq
  exact (h x hx).b
theorem dot_qb {r c : List Rat} {k z : Nat} (h : ∀ q ∈ r, qb k q) (h' : ∀ q ∈ c, qb k q) (hl : r.length = z) : qb (1 + (2 * k + 2) * z) (dotQ (r.zip c)) := by
  have d := dot_bound (zip_qb h h') (r.zip c).length
  rw [List.take_length] at d
  refine qb_mono d ?_
  have : (2 * k + 2) * (r.zip c).length ≤ (2 * k + 2) * z := Nat.mul_le_mul_left _ (zip_le hl)
  omega
theorem led_back_eq {r : List Rat} {mv : List Wish} {w k z : Nat} (S : Sto) (hr : ∀ q ∈ r, qb k q) (hrl : r.length = z) (hm : ∀ x ∈ mv, wb w k x) (hw : w ≤ 12) (hk : k ≤ 100) (hz : z ≤ 12) (hml : mv.length ≤ 100) :
    m_led_back [.d (drow r), .d (.tup (mv.map dwish)), .d (.int (w : Nat))] S = .ok (.d (drow (led r mv w))) S := by
  refine ok_eq ?_
  unfold m_led_back
  refine ok_fn ?_
  unfold b_led_back
  have sm : smallI (w : Int) = true := by unfold smallI; simp; omega
  simp
  refine ok_lcM (e := fun i : Nat => D.int (i : Nat)) (ws := List.range w) (f := fun i => dq (ledQ r mv i)) (by simp [sm, rng_map]) (by simp [szL]; omega) (fun i hi c => ?_) ?_
  · have hi : i < w := List.mem_range.mp hi
    have cq := col_qb hm hi
    simp [wipeE]
    refine ok_lcM (e := dwish) (ws := mv) (f := fun x => dq (x.1.getD i 0)) (by simp) (by simp [szL]; omega) (fun x hx c2 => ?_) ?_
    · have hb := hm x hx
      have hl : i < x.1.length := by rw [hb.l]; exact hi
      have e : x.1.getD i 0 = x.1[i] := by simp [hl]
      simp [wipeE, dwish, drow, atI_cast, List.getElem?_eq_getElem hl]
    · have m1 : (2 * k + 2) * (r.zip (mv.map fun x => x.1.getD i 0)).length ≤ (2 * k + 2) * 12 := Nat.mul_le_mul_left _ (Nat.le_trans (zip_le hrl) hz)
      have p := product_of_eq (S ++ [c]) (rows2.tl r (mv.map fun x => x.1.getD i 0)) (zip_qb hr cq) (by omega) (by omega)
      simp only [List.map_map] at p
      have e2 : (mv.map fun x => dq (x.1.getD i 0)) = mv.map (dq ∘ fun x => x.1.getD i 0) := rfl
      rw [e2]
      simp only [drow, ok_ok]
      rw [p]
      simp [ledQ]
  · simp [drow, led]
theorem brought_eq {r : List Rat} {mv : List Wish} {w k z : Nat} (S : Sto) (hr : ∀ q ∈ r, qb k q) (hrl : r.length = z) (hm : ∀ x ∈ mv, wb w k x) (hk : k ≤ 100) (hz : z ≤ 12) (hml : mv.length ≤ 100) :
    m_brought_by_moves [.d (drow r), .d (.tup (mv.map dwish))] S = .ok (.d (dq (brought r mv))) S := by
  refine ok_eq ?_
  unfold m_brought_by_moves
  refine ok_fn ?_
  unfold b_brought_by_moves
  simp
  refine ok_lcM (e := dwish) (ws := mv) (f := fun x => dq x.2) (by simp) (by simp [szL]; omega) (fun x hx c2 => ?_) ?_
  · simp [wipeE, dwish]
  · have m1 : (2 * k + 2) * (r.zip (mv.map (·.2))).length ≤ (2 * k + 2) * 12 := Nat.mul_le_mul_left _ (Nat.le_trans (zip_le hrl) hz)
    have p := product_of_eq S (rows2.tl r (mv.map (·.2))) (zip_qb hr (snd_qb hm)) (by omega) (by omega)
    simp only [List.map_map] at p
    have e2 : (mv.map fun x => dq x.2) = mv.map (dq ∘ fun x => x.2) := rfl
    rw [e2]
    simp only [drow, ok_ok]
    rw [p]
    simp [brought, dq]
theorem bound_back_eq {r : List Rat} {b : Rat} {mv : List Wish} {w k z : Nat} (S : Sto) (hr : ∀ q ∈ r, qb k q) (hb : qb k b) (hrl : r.length = z) (hm : ∀ x ∈ mv, wb w k x) (hk : k ≤ 100) (hz : z ≤ 12) (hml : mv.length ≤ 100) :
    m_bound_back [.d (drow r), .d (dq b), .d (.tup (mv.map dwish))] S = .ok (.d (dq (b + -(brought r mv)))) S := by
  refine ok_eq ?_
  unfold m_bound_back
  refine ok_fn ?_
  unfold b_bound_back
  have q1 : qb (1 + (2 * k + 2) * z) (brought r mv) := dot_qb hr (snd_qb hm) hrl
  have m1 : (2 * k + 2) * z ≤ (2 * k + 2) * 12 := Nat.mul_le_mul_left _ hz
  simp [brought_eq S hr hrl hm hk hz hml, opposite_eq, total_eq S hb (qb_neg q1) (by omega)]
/-! the lists of wishes -/
def dtri (z : Nat) (ws : List Wish) (r : List Rat) (b : Rat) : D := .tup [dlot z ws, drow r, dq b]
def startW (z : Nat) (T : List (List Wish)) (s : Nat × List Wish) : List D := (getT T s.1).map fun w => dtri z s.2 w.1 w.2
def caseL (m : Nat) (T : List (List Wish)) (c : Cs) : List Wish := (getT T c.f).map (fun w => (w.1 ++ List.replicate m 0, w.2)) ++ c.g
def caseW (z m : Nat) (T : List (List Wish)) (c : Cs) : List D := (getT T c.t).map fun w => dtri (z + m) (caseL m T c) (led w.1 c.mv (z + m)) (w.2 + -(brought w.1 c.mv))
def safeW (z : Nat) (p : List Wish × List Wish) : List D := p.2.map fun w => dtri z p.1 w.1 w.2
def allW (C : Ch) (T : List (List Wish)) : List D := C.st.flatMap (startW C.z T) ++ C.cs.flatMap (caseW C.z C.m T) ++ (T.zip C.sf).flatMap (safeW C.z)
theorem flat_one {α : Type} (m : Nat) (a : α) : (List.replicate m [a]).flatten = List.replicate m a := by
  induction m with
  | zero => rfl
  | succ m ih => simp [List.replicate_succ, ih]
theorem wide_row {r : List Rat} {m : Nat} : r.map dq ++ List.replicate m (D.tup [.int 0, .int 1]) = (r ++ List.replicate m 0).map dq := by
  have e : dq 0 = D.tup [.int 0, .int 1] := rfl
  rw [List.map_append, List.map_replicate, e]
theorem mul_noughts {m : Nat} (S : Sto) (hm : m ≤ 100) : oMul (.d (.tup [.tup [.int 0, .int 1]])) (.d (.int (m : Nat))) S = .ok (.d (.tup (List.replicate m (.tup [.int 0, .int 1])))) S := by
  rw [oMul_tup, if_pos ⟨by simp, by simp; omega⟩]
  simp [flat_one]
theorem case_wishes_eq {C : Ch} {T : List (List Wish)} {n k : Nat} {c : Cs} (S : Sto) (h : ChOk n k C) (hT : TbOk C.z C.sf.length n k T) (hn : n ≤ 40) (hk : 4 ≤ k) (hk2 : k ≤ 100) (hc : c ∈ C.cs) :
    m_case_wishes [.d (dch C), .d (dtab C.z T), .d (dcase (C.z + C.m) c)] S = .ok (.d (.lst (caseW C.z C.m T c))) S := by
  have b := h.c c hc
  have hz1 := h.z1
  have hm1 := h.m1
  have zm := h.zm
  have bf := getT_ok hT b.f
  have bt := getT_ok hT b.t
  have bfl := bf.l
  have btl := bt.l
  have bgl := b.g.l
  have fl : c.f < T.length := by rw [hT.l]; exact b.f
  have tl : c.t < T.length := by rw [hT.l]; exact b.t
  refine ok_eq ?_
  unfold m_case_wishes
  refine ok_fn ?_
  unfold b_case_wishes
  rw [dSeq_eq, ok_bind]
  simp [dcase, ch_ix1, ch_ix0, szL, mul_noughts _ (by omega : C.m ≤ 100)]
  refine ok_lcM (e := dwish) (ws := getT T c.f) (f := fun w => dwish (w.1 ++ List.replicate C.m 0, w.2)) (by simp [tab_at _ fl, lot_ix1]) (by simp [szL]; omega) (fun w hw c2 => ?_) ?_
  · have wl := (bf.w w hw).l
    simp [wipeE, dwish, drow, szL, wide_row]
    omega
  · simp [lot_ix1, szL]
    refine ⟨by omega, ?_⟩
    have el : ((C.z : Int) + (C.m : Int)) = ((C.z + C.m : Nat) : Int) := by omega
    rw [el]
    have e1 : D.tup [.int ((C.z + C.m : Nat) : Int), .tup ((getT T c.f).map (fun w => dwish (w.1 ++ List.replicate C.m 0, w.2)) ++ c.g.map dwish)] = dlot (C.z + C.m) (caseL C.m T c) := by
      simp [dlot, caseL, List.map_map, Function.comp_def]
    rw [e1]
    refine ok_lcM (e := dwish) (ws := getT T c.t) (f := fun w => dtri (C.z + C.m) (caseL C.m T c) (led w.1 c.mv (C.z + C.m)) (w.2 + -(brought w.1 c.mv))) (by simp [tab_at _ tl, lot_ix1]) (by simp [szL]; omega) (fun w hw c2 => ?_) ?_
    · have wb_ := bt.w w hw
      have ml := b.ml
      have lk := led_back_eq (S ++ [c2]) wb_.r wb_.l b.mw zm hk2 (by omega) (by omega)
      rw [← el] at lk
      simp [wipeE, dwish, lot_ix0, lk, bound_back_eq _ wb_.r wb_.b wb_.l b.mw hk2 (by omega) (by omega), szL, dtri]
    · simp [caseW]
theorem ok_ext {α : Type} {e : α → D} {f : α → List D} {g : DGf} {F : DEf} {i : Nat} {xs : List α} {env : Dn.Env} {S : Sto} {acc0 : List D} {B : Nat} {Q : Dn.Fl → Sto → Prop} (I : Dn.Env → Prop) (hI : I env)
    (hr : ∀ env, I env → env[i]? = some (some (.r S.length))) (hb : acc0.length + xs.length * B ≤ szL)
    (hs : ∀ a ∈ xs, ∀ env acc, I env → Ok (g (.d (e a)) env (S ++ [.lst acc])) fun env1 S1 => S1 = S ++ [.lst acc] ∧ I env1 ∧ F env1 (S ++ [.lst acc]) = .ok (.d (.lst (f a))) (S ++ [.lst acc]) ∧ (f a).length ≤ B)
    (q : ∀ env, I env → Q (.nx env) (S ++ [.lst (acc0 ++ xs.flatMap f)])) : Ok (dLoop g (dDrop (dMeth mExtend (dVar i) (dCons F dNil))) [] (xs.map e) env (S ++ [.lst acc0])) Q := by
  obtain ⟨J, hJ⟩ : ∃ J : Nat → Dn.Env → Sto → Prop, ∀ k env S', J k env S' ↔ I env ∧ S' = S ++ [.lst (acc0 ++ (xs.take k).flatMap f)] ∧ ((xs.take k).flatMap f).length ≤ k * B := ⟨_, fun _ _ _ => Iff.rfl⟩
  refine ok_loop (I := J) ((hJ _ _ _).mpr ⟨hI, by simp, by simp⟩) (fun _ _ _ _ => wtOk_nil _) ?_ ?_
  · rintro k d env S' ed h'
    obtain ⟨h1, rfl, hl⟩ := (hJ _ _ _).mp h'
    rw [List.getElem?_map] at ed
    obtain ⟨a, ea, rfl⟩ := Option.map_eq_some_iff.mp ed
    have hk : k < xs.length := (List.getElem?_eq_some_iff.mp ea).1
    refine (hs a (List.mem_of_getElem? ea) env _ h1).mono ?_
    rintro env1 _ ⟨rfl, h2, h3, h4⟩
    have hlen : (k + 1) * B ≤ xs.length * B := Nat.mul_le_mul_right _ hk
    have e5 : (k + 1) * B = k * B + B := by rw [Nat.add_mul, Nat.one_mul]
    have hz : (acc0 ++ (xs.take k).flatMap f).length + (f a).length ≤ 16777216 := by
      rw [List.length_append]
      have : acc0.length + xs.length * B ≤ 16777216 := hb
      omega
    have e6 : (xs.take (k + 1)).flatMap f = (xs.take k).flatMap f ++ f a := by
      rw [List.take_add_one, ea, List.flatMap_append]
      simp
    rw [dDrop_eq, ok_bind, dMeth_eq, ok_bind, dVar_eq, hr _ h2, getV_some, ok_ok, meth_r, push_at rfl, cMeth_lst, ok_bind, dCons_eq, ok_bind, h3, ok_ok, ok_bind, dNil_eq, ok_ok, ok_ok, mExtend_r, push_at rfl, trkL_lst, cExt_lst, if_pos hz, ok_ok, ok_ok]
    refine (hJ _ _ _).mpr ⟨h2, by rw [push_put rfl, e6, List.append_assoc], by rw [e6, List.length_append]; omega⟩
  · rintro env S' h'
    obtain ⟨h1, rfl, hl⟩ := (hJ _ _ _).mp h'
    rw [List.length_map, List.take_length]
    exact q env h1
theorem flat_le {α : Type} {f : α → List D} {B : Nat} : ∀ {xs : List α}, (∀ x ∈ xs, (f x).length ≤ B) → (xs.flatMap f).length ≤ xs.length * B
  | [], _ => by simp
  | x :: xs, h => by
    have a := h x List.mem_cons_self
    have b := flat_le (xs := xs) fun y hy => h y (List.mem_cons_of_mem _ hy)
    rw [List.flatMap_cons, List.length_append, List.length_cons, Nat.add_mul, Nat.one_mul]
    omega
theorem zip_lots {z : Nat} {A B : List (List Wish)} : ((A.map (dlot z)).zip (B.map (dlot z))).map (fun p => D.tup [p.1, p.2]) = (A.zip B).map fun p => D.tup [dlot z p.1, dlot z p.2] := by
  rw [List.zip_map, List.map_map]
  rfl
theorem all_wishes_eq {C : Ch} {T : List (List Wish)} {n k : Nat} (S : Sto) (h : ChOk n k C) (hT : TbOk C.z C.sf.length n k T) (hn : n ≤ 40) (hk : 4 ≤ k) (hk2 : k ≤ 100) : m_all_wishes [.d (dch C), .d (dtab C.z T)] S = .ok (.d (.tup (allW C T))) S := by
  have st1 := h.s1
  have c1 := h.c1
  have p1 := h.p1
  have f1 : (C.st.flatMap (startW C.z T)).length ≤ 12 * 40 := Nat.le_trans (flat_le (B := 40) fun s hs => by simp only [startW, List.length_map]; exact Nat.le_trans (getT_ok hT (h.s s hs).1).l hn) (Nat.mul_le_mul_right _ st1)
  have f2 : (C.cs.flatMap (caseW C.z C.m T)).length ≤ 120 * 40 := Nat.le_trans (flat_le (B := 40) fun s hs => by simp only [caseW, List.length_map]; exact Nat.le_trans (getT_ok hT (h.c s hs).t).l hn) (Nat.mul_le_mul_right _ c1)
  refine ok_eq ?_
  unfold m_all_wishes
  refine ok_fn ?_
  unfold b_all_wishes
  rw [dSeq_eq, asg_cell]
  simp only [Out.bind_ok, cont_nx, List.map_cons, List.map_nil, List.cons_append, List.nil_append, List.length_cons, List.length_nil]
  obtain ⟨I, hI⟩ : ∃ I : Dn.Env → Prop, ∀ env, I env ↔ ∃ e3 e4 e5 e6 e7 e8, env = [some (.d (dch C)), some (.d (dtab C.z T)), some (.r S.length), e3, e4, e5, e6, e7, e8] := ⟨_, fun _ => Iff.rfl⟩
  have hr : ∀ env, I env → env[2]? = some (some (.r S.length)) := fun env he => by
    obtain ⟨e3, e4, e5, e6, e7, e8, rfl⟩ := (hI _).mp he
    rfl
  rw [dSeq_eq, ok_bind, dFor_eq, ok_bind]
  simp [ch_ix2]
  refine ok_ext (B := 40) I ((hI _).mpr ⟨_, _, _, _, _, _, rfl⟩) hr (by simp [szL]; omega) (f := startW C.z T) (fun s hs env acc he => ?_) ?_
  · obtain ⟨e3, e4, e5, e6, e7, e8, rfl⟩ := (hI _).mp he
    obtain ⟨s1, s2⟩ := h.s s hs
    have sl : s.1 < T.length := by rw [hT.l]; exact s1
    have g := getT_ok hT s1
    have gl := g.l
    simp [dstart]
    refine ⟨(hI _).mpr ⟨_, _, _, _, _, _, rfl⟩, ?_, by simp [startW]; omega⟩
    refine ok_eq ?_
    refine ok_lcM (e := dwish) (ws := getT T s.1) (f := fun w => dtri C.z s.2 w.1 w.2) (by simp [tab_at _ sl, lot_ix1]) (by simp [szL]; omega) (fun w hw c2 => ?_) ?_
    · simp [wipeE, dwish, szL, dtri]
    · simp [startW]
  intro env he
  obtain ⟨e3, e4, e5, e6, e7, e8, rfl⟩ := (hI _).mp he
  rw [cont_nx, dSeq_eq, ok_bind, dFor_eq, ok_bind]
  simp [ch_ix3]
  refine ok_ext (B := 40) I ((hI _).mpr ⟨_, _, _, _, _, _, rfl⟩) hr (by show _ ≤ 16777216; omega) (f := caseW C.z C.m T) (fun s hs env acc he => ?_) ?_
  · obtain ⟨e3, e4, e5, e6, e7, e8, rfl⟩ := (hI _).mp he
    have g := getT_ok hT (h.c s hs).t
    have gl := g.l
    simp
    exact ⟨(hI _).mpr ⟨_, _, _, _, _, _, rfl⟩, by simp [case_wishes_eq _ h hT hn hk hk2 hs], by simp [caseW]; omega⟩
  intro env he
  obtain ⟨e3, e4, e5, e6, e7, e8, rfl⟩ := (hI _).mp he
  rw [cont_nx, dSeq_eq, ok_bind, dFor_eq, ok_bind]
  have zz : Dn.iMx [.d (dtab C.z T), .d (.tup (C.sf.map (dlot C.z)))] (S ++ [.lst (C.st.flatMap (startW C.z T) ++ C.cs.flatMap (caseW C.z C.m T))]) = .ok ⟨(T.zip C.sf).map fun p => D.tup [dlot C.z p.1, dlot C.z p.2], []⟩ (S ++ [.lst (C.st.flatMap (startW C.z T) ++ C.cs.flatMap (caseW C.z C.m T))]) := by
    simp only [Dn.iMx, dtab, seqK, seqT, wtV, List.append_nil]
    rw [zip_lots]
  have zl : (T.zip C.sf).length ≤ 12 := by simp; omega
  have zl2 : (T.zip C.sf).length * 40 ≤ 12 * 40 := Nat.mul_le_mul_right _ zl
  simp [ch_ix4, zz]
  refine ok_ext (B := 40) (e := fun p : List Wish × List Wish => D.tup [dlot C.z p.1, dlot C.z p.2]) I ((hI _).mpr ⟨_, _, _, _, _, _, rfl⟩) hr (by rw [List.length_append]; show _ ≤ 16777216; omega) (f := safeW C.z) (fun s hs env acc he => ?_) ?_
  · obtain ⟨e3, e4, e5, e6, e7, e8, rfl⟩ := (hI _).mp he
    have g := h.f s.2 (List.of_mem_zip (a := s.1) (b := s.2) hs).2
    have gl := g.l
    simp
    refine ⟨(hI _).mpr ⟨_, _, _, _, _, _, rfl⟩, ?_, by simp [safeW]; omega⟩
    refine ok_eq ?_
    refine ok_lcM (e := dwish) (ws := s.2) (f := fun w => dtri C.z s.1 w.1 w.2) (by simp [lot_ix1]) (by simp [szL]; omega) (fun w hw c2 => ?_) ?_
    · simp [wipeE, dwish, szL, dtri]
    · simp [safeW]
  intro env he
  obtain ⟨e3, e4, e5, e6, e7, e8, rfl⟩ := (hI _).mp he
  simp [push_at, allW]
end Law
set_option Elab.async false
set_option linter.all false
set_option maxRecDepth 100000
set_option maxHeartbeats 4000000
namespace Law
open PySem PySem.Spec PyProof.Rows L2 GxR Gx Dn
/-! the law's own wishes -/
theorem l_minus_eq {p q : Rat} {a b : Nat} (S : Sto) (hp : qb a p) (hq : qb b q) (h : a + b ≤ 8000) : m__law_plus [.d (dq p), .d (.tup [.int (-q.num), .int (q.den : Int)])] S = .ok (.d (dq (p + -q))) S := by
  have e : D.tup [.int (-q.num), .int (q.den : Int)] = dq (-q) := by simp [dq]
  rw [e, plus_eq S hp (qb_neg hq) h]
structure Gr (S : Sto) (T : Sto) : Prop where
  le : S.length ≤ T.length
  tk : T.take S.length = S
theorem Gr.push {S T : Sto} (h : Gr S T) (c : Cell) : Gr S (T ++ [c]) := ⟨by rw [List.length_append]; have := h.le; omega, by rw [List.take_append_of_le_length h.le]; exact h.tk⟩
theorem Gr.self {S : Sto} : Gr S S := ⟨Nat.le_refl _, List.take_length⟩
theorem rng_at {j k : Nat} {d : D} (h : (rngD 0 j)[k]? = some d) : k < j ∧ d = .int (k : Nat) := by
  have hk : k < j := by simpa [rngD] using (List.getElem?_eq_some_iff.mp h).1
  refine ⟨hk, ?_⟩
  simp [rngD, List.getElem?_range hk] at h
  simpa using h.symm
theorem map_at {α : Type} {e : α → D} {xs : List α} {k : Nat} {d : D} (h : (xs.map e)[k]? = some d) : ∃ a, xs[k]? = some a ∧ d = e a ∧ a ∈ xs := by
  rw [List.getElem?_map] at h
  obtain ⟨a, ea, rfl⟩ := Option.map_eq_some_iff.mp h
  exact ⟨a, ea, rfl, List.mem_of_getElem? ea⟩
theorem take_flat {α : Type} {f : α → List D} {xs : List α} {k : Nat} {a : α} (h : xs[k]? = some a) : (xs.take (k + 1)).flatMap f = (xs.take k).flatMap f ++ f a := by
  rw [List.take_add_one, h, List.flatMap_append]
  simp
theorem take_map {α : Type} {f : α → D} {xs : List α} {k : Nat} {a : α} (h : xs[k]? = some a) : (xs.take (k + 1)).map f = (xs.take k).map f ++ [f a] := by
  rw [List.take_add_one, h, List.map_append]
  simp
theorem take_le {α : Type} {f : α → List D} {xs : List α} {B N k : Nat} (h : ∀ x ∈ xs, (f x).length ≤ B) (hl : xs.length ≤ N) : ((xs.take k).flatMap f).length ≤ N * B :=
  Nat.le_trans (flat_le fun x hx => h x (List.mem_of_mem_take hx)) (Nat.mul_le_mul_right _ (by simp; omega))
theorem law_wishes_eq {C : Ch} {T : List (List Wish)} {n k : Nat} (S : Sto) (h : ChOk n k C) (hT : TbOk C.z C.sf.length n k T) (hn : n ≤ 40) (hk2 : k ≤ 100) : m__law_wishes [.d (dch C), .d (dtab C.z T)] S = .ok (.d (.tup (allW C T))) S := by
  have hz1 := h.z1
  have hm1 := h.m1
  have zm := h.zm
  have sB : ∀ s ∈ C.st, (startW C.z T s).length ≤ 40 := fun s hs => by simp only [startW, List.length_map]; exact Nat.le_trans (getT_ok hT (h.s s hs).1).l hn
  have cB : ∀ c ∈ C.cs, (caseW C.z C.m T c).length ≤ 40 := fun s hs => by simp only [caseW, List.length_map]; exact Nat.le_trans (getT_ok hT (h.c s hs).t).l hn
  have f1 : ∀ j, ((C.st.take j).flatMap (startW C.z T)).length ≤ 12 * 40 := fun j => take_le sB h.s1
  have f2 : ∀ j, ((C.cs.take j).flatMap (caseW C.z C.m T)).length ≤ 120 * 40 := fun j => take_le cB h.c1
  have f0 : (C.st.flatMap (startW C.z T)).length ≤ 12 * 40 := by have := f1 C.st.length; rwa [List.take_length] at this
  have f3 : (C.cs.flatMap (caseW C.z C.m T)).length ≤ 120 * 40 := by have := f2 C.cs.length; rwa [List.take_length] at this
  refine ok_eq ?_
  unfold m__law_wishes
  refine ok_fn ?_
  unfold b__law_wishes
  rw [dSeq_eq, ok_bind]
  simp only [dAsg_eq, dVar_eq, List.map_cons, List.map_nil, List.cons_append, List.nil_append, List.getElem?_cons_zero, getV_some, Out.bind_ok]
  obtain ⟨Q0, hQ0⟩ : ∃ Q : Dn.Fl → Sto → Prop, ∀ fl S2, Q fl S2 ↔ fl = .nx [some (.d (dch C)), some (.d (dtab C.z T)), none, none, some (.d (.int (C.z : Nat))), some (.d (.int (C.m : Nat))), some (.d (.tup (C.st.map (dstart C.z)))), some (.d (.tup (C.cs.map (dcase (C.z + C.m))))), some (.d (.tup (C.sf.map (dlot C.z)))), none, none, none, none, none, none, none, none, none, none, none, none, none, none] ∧ S2 = S := ⟨_, fun _ _ => Iff.rfl⟩
  refine Ok.mono (Q := Q0) ?_ ?_
  · have e : dch C = D.tup [.int (C.z : Nat), .int (C.m : Nat), .tup (C.st.map (dstart C.z)), .tup (C.cs.map (dcase (C.z + C.m))), .tup (C.sf.map (dlot C.z))] := rfl
    rw [e, dgTup_eq]
    simp
    exact (hQ0 _ _).mpr ⟨rfl, rfl⟩
  rintro fl S2 h0
  obtain ⟨rfl, rfl⟩ := (hQ0 _ _).mp h0
  rw [cont_nx, dSeq_eq, asg_cell]
  simp only [Out.bind_ok, cont_nx]
  obtain ⟨I, hI⟩ : ∃ I : List D → Dn.Env → Sto → Prop, ∀ acc env S', I acc env S' ↔ ∃ (R : Sto) (e3 e9 e10 e11 e12 e13 e14 e15 e16 e17 e18 e19 e20 e21 e22 : Option Val),
      env = [some (.d (dch C)), some (.d (dtab C.z T)), some (.r R.length), e3, some (.d (.int (C.z : Nat))), some (.d (.int (C.m : Nat))), some (.d (.tup (C.st.map (dstart C.z)))), some (.d (.tup (C.cs.map (dcase (C.z + C.m))))), some (.d (.tup (C.sf.map (dlot C.z)))), e9, e10, e11, e12, e13, e14, e15, e16, e17, e18, e19, e20, e21, e22] ∧
      S' = R ++ [.lst acc] ∧ Gr S2 R := ⟨_, fun _ _ _ => Iff.rfl⟩
  have mk : ∀ {acc : List D} {R : Sto} {e3 e9 e10 e11 e12 e13 e14 e15 e16 e17 e18 e19 e20 e21 e22 : Option Val}, Gr S2 R → I acc [some (.d (dch C)), some (.d (dtab C.z T)), some (.r R.length), e3, some (.d (.int (C.z : Nat))), some (.d (.int (C.m : Nat))), some (.d (.tup (C.st.map (dstart C.z)))), some (.d (.tup (C.cs.map (dcase (C.z + C.m))))), some (.d (.tup (C.sf.map (dlot C.z)))), e9, e10, e11, e12, e13, e14, e15, e16, e17, e18, e19, e20, e21, e22] (R ++ [.lst acc]) :=
    fun g => (hI _ _ _).mpr ⟨_, _, _, _, _, _, _, _, _, _, _, _, _, _, _, _, rfl, rfl, g⟩
  have i0 := mk (acc := []) (R := S2) (e3 := none) (e9 := none) (e10 := none) (e11 := none) (e12 := none) (e13 := none) (e14 := none) (e15 := none) (e16 := none) (e17 := none) (e18 := none) (e19 := none) (e20 := none) (e21 := none) (e22 := none) Gr.self
  -- starts
  rw [dSeq_eq, ok_bind, dFor_eq, ok_bind]
  simp
  refine ok_loop (I := fun j => I ((C.st.take j).flatMap (startW C.z T))) (by simpa using i0) (fun _ _ _ _ => wtOk_nil _) ?_ ?_
  · rintro j d env S' ed h'
    obtain ⟨R, e3, e9, e10, e11, e12, e13, e14, e15, e16, e17, e18, e19, e20, e21, e22, rfl, rfl, g⟩ := (hI _ _ _).mp h'
    obtain ⟨s, es, rfl, hs⟩ := map_at ed
    obtain ⟨s1, s2⟩ := h.s s hs
    have sl : s.1 < T.length := by rw [hT.l]; exact s1
    have gl := (getT_ok hT s1).l
    have fb := f1 j
    simp [dstart]
    refine ok_lcM (e := dwish) (ws := getT T s.1) (f := fun w => dtri C.z s.2 w.1 w.2) (by simp [tab_at _ sl, lot_ix1]) (by simp [szL]; omega) (fun w hw c2 => ?_) ?_
    · simp [wipeE, dwish, szL, dtri]
    · have hz : ((C.st.take j).flatMap (startW C.z T)).length + (List.map (fun w => dtri C.z s.2 w.1 w.2) (getT T s.1)).length ≤ 16777216 := by rw [List.length_map]; omega
      rw [push_at rfl, cellL_lst, trkL_lst, cAdd_some, if_pos hz, ok_ok]
      have e : (C.st.take (j + 1)).flatMap (startW C.z T) = (C.st.take j).flatMap (startW C.z T) ++ List.map (fun w => dtri C.z s.2 w.1 w.2) (getT T s.1) := take_flat es
      rw [e]
      exact mk (g.push _)
  rintro env S' h'
  rw [List.length_map, List.take_length] at h'
  obtain ⟨R, e3, e9, e10, e11, e12, e13, e14, e15, e16, e17, e18, e19, e20, e21, e22, rfl, rfl, g⟩ := (hI _ _ _).mp h'
  -- cases
  rw [cont_nx, dSeq_eq, ok_bind, dFor_eq, ok_bind]
  simp
  refine ok_loop (I := fun j => I (C.st.flatMap (startW C.z T) ++ (C.cs.take j).flatMap (caseW C.z C.m T))) (by simpa using mk g) (fun _ _ _ _ => wtOk_nil _) ?_ ?_
  · rintro j d env S' ed h'
    obtain ⟨R, e3, e9, e10, e11, e12, e13, e14, e15, e16, e17, e18, e19, e20, e21, e22, rfl, rfl, g⟩ := (hI _ _ _).mp h'
    obtain ⟨c, ec, rfl, hc⟩ := map_at ed
    have b := h.c c hc
    have bf := getT_ok hT b.f
    have bt := getT_ok hT b.t
    have bfl := bf.l
    have btl := bt.l
    have bgl := b.g.l
    have fl : c.f < T.length := by rw [hT.l]; exact b.f
    have tl : c.t < T.length := by rw [hT.l]; exact b.t
    have ml := b.ml
    have fb := f2 j
    rw [dcase, dgTup_eq]
    simp [-dFor_eq]
    refine ok_lcM (e := dwish) (ws := getT T c.f) (f := fun w => dwish (w.1 ++ List.replicate C.m 0, w.2)) (by simp [tab_at _ fl, lot_ix1]) (by simp [szL]; omega) (fun w hw c2 => ?_) ?_
    · have wl := (bf.w w hw).l
      simp [wipeE, dwish, drow, szL, wide_row, mul_noughts _ (by omega : C.m ≤ 100)]
      omega
    simp [-dFor_eq, lot_ix1, szL]
    refine ⟨by omega, ?_⟩
    refine ok_lcM (e := dwish) (ws := c.mv) (f := fun w => dq w.2) (by simp) (by simp [szL]; omega) (fun w hw c2 => ?_) ?_
    · simp [wipeE, dwish]
    simp [-dFor_eq, szL]
    have el : ((C.z : Int) + (C.m : Int)) = ((C.z + C.m : Nat) : Int) := by omega
    rw [el]
    have e1 : D.tup [.int ((C.z + C.m : Nat) : Int), .tup ((getT T c.f).map (fun w => dwish (w.1 ++ List.replicate C.m 0, w.2)) ++ c.g.map dwish)] = dlot (C.z + C.m) (caseL C.m T c) := by
      simp [dlot, caseL, List.map_map, Function.comp_def]
    rw [e1]
    have pN := fun (r : List Rat) (S : Sto) (hq : ∀ q ∈ r, qb k q) (hl : r.length = C.z) => dot_eq S (rows2.tl r (c.mv.map (·.2))) (zip_qb hq (snd_qb b.mw)) (by have : (2 * k + 2) * (r.zip (c.mv.map (·.2))).length ≤ (2 * k + 2) * 12 := Nat.mul_le_mul_left _ (Nat.le_trans (zip_le hl) (by omega)); omega) (by omega)
    have e2 : (c.mv.map fun x => dq x.2) = (c.mv.map (·.2)).map dq := by simp
    rw [e2]
    generalize (c.mv.map (·.2)).map dq = nums at pN ⊢
    generalize D.tup ((getT T c.f).map (fun w => dwish (w.1 ++ List.replicate C.m 0, w.2))) = bh
    rw [dFor_eq, ok_bind]
    simp [tab_at _ tl, lot_ix1]
    obtain ⟨F, hF⟩ : ∃ F : Wish → D, F = fun w => dtri (C.z + C.m) (caseL C.m T c) (led w.1 c.mv (C.z + C.m)) (w.2 + -(brought w.1 c.mv)) := ⟨_, rfl⟩
    obtain ⟨J, hJ⟩ : ∃ J : List D → Dn.Env → Sto → Prop, ∀ acc env S', J acc env S' ↔ ∃ (e16 e17 e18 e19 e20 e21 e22 : Option Val),
      env = [some (.d (dch C)), some (.d (dtab C.z T)), some (.r R.length), e3, some (.d (.int (C.z : Nat))), some (.d (.int (C.m : Nat))), some (.d (.tup (C.st.map (dstart C.z)))), some (.d (.tup (C.cs.map (dcase (C.z + C.m))))), some (.d (.tup (C.sf.map (dlot C.z)))), some (.d (dlot (C.z + C.m) (caseL C.m T c))), some (.d (.int (c.f : Nat))), some (.d (dlot (C.z + C.m) c.g)), some (.d (.tup (c.mv.map dwish))), some (.d (.int (c.t : Nat))), some (.d bh), some (.d (.lst nums)), e16, e17, e18, e19, e20, e21, e22] ∧
      S' = R ++ [.lst acc] := ⟨_, fun _ _ _ => Iff.rfl⟩
    refine ok_loop (I := fun i => J (C.st.flatMap (startW C.z T) ++ (C.cs.take j).flatMap (caseW C.z C.m T) ++ ((getT T c.t).take i).map F)) ((hJ _ _ _).mpr ⟨_, _, _, _, _, _, _, by rfl, by simp⟩) (fun _ _ _ _ => wtOk_nil _) ?_ ?_
    · rintro i d env S' ed2 hj
      obtain ⟨e16, e17, e18, e19, e20, e21, e22, rfl, rfl⟩ := (hJ _ _ _).mp hj
      obtain ⟨w, ew, rfl, hw⟩ := map_at ed2
      have wb_ := bt.w w hw
      have sm : smallI ((C.z : Int) + (C.m : Int)) = true := by unfold smallI; simp; omega
      have tn : ((C.z : Int) + (C.m : Int)).toNat = C.z + C.m := by omega
      have q1 : qb (1 + (2 * k + 2) * C.z) (brought w.1 c.mv) := dot_qb wb_.r (snd_qb b.mw) wb_.l
      have mm : (2 * k + 2) * C.z ≤ (2 * k + 2) * 12 := Nat.mul_le_mul_left _ (by omega)
      have m1 : (2 * k + 2) * (w.1.zip (c.mv.map (·.2))).length ≤ (2 * k + 2) * 12 := Nat.mul_le_mul_left _ (Nat.le_trans (zip_le wb_.l) (by omega))
      have hz : (C.st.flatMap (startW C.z T) ++ (C.cs.take j).flatMap (caseW C.z C.m T) ++ ((getT T c.t).take i).map F).length < 16777216 := by
        rw [List.length_append, List.length_append, List.length_map, List.length_take]; omega
      rw [show (C.st.flatMap (startW C.z T) ++ (C.cs.take j).flatMap (caseW C.z C.m T) ++ ((getT T c.t).take (i + 1)).map F) = (C.st.flatMap (startW C.z T) ++ (C.cs.take j).flatMap (caseW C.z C.m T) ++ ((getT T c.t).take i).map F) ++ [F w] from by rw [take_map ew, ← List.append_assoc]]
      generalize (C.st.flatMap (startW C.z T) ++ (C.cs.take j).flatMap (caseW C.z C.m T) ++ ((getT T c.t).take i).map F) = acc at hz hj ⊢
      simp [dwish, -dFor_eq]
      refine ok_lcM (e := fun i : Nat => D.int (i : Nat)) (ws := List.range (C.z + C.m)) (f := fun i => dq (ledQ w.1 c.mv i)) (by simp [sm, tn, rng_map]) (by simp [szL]; omega) (fun l hi c2 => ?_) ?_
      · have hi : l < C.z + C.m := List.mem_range.mp hi
        have cq := col_qb b.mw hi
        simp [wipeE]
        refine ok_lcM (e := dwish) (ws := c.mv) (f := fun x => dq (x.1.getD l 0)) (by simp) (by simp [szL]; omega) (fun x hx c2 => ?_) ?_
        · have hb := b.mw x hx
          have hl : l < x.1.length := by rw [hb.l]; exact hi
          have e : x.1.getD l 0 = x.1[l] := by simp [hl]
          simp [wipeE, dwish, drow, atI_cast, List.getElem?_eq_getElem hl]
        · have m2 : (2 * k + 2) * (w.1.zip (c.mv.map fun x => x.1.getD l 0)).length ≤ (2 * k + 2) * 12 := Nat.mul_le_mul_left _ (Nat.le_trans (zip_le wb_.l) (by omega))
          have p := fun S => dot_eq S (rows2.tl w.1 (c.mv.map fun x => x.1.getD l 0)) (zip_qb wb_.r cq) (by omega) (by omega)
          simp only [List.map_map] at p
          have e2 : (c.mv.map fun x => dq (x.1.getD l 0)) = c.mv.map (dq ∘ fun x => x.1.getD l 0) := rfl
          rw [e2]
          simp only [drow, ok_ok]
          rw [p]
          simp [ledQ]
      have p := fun S => pN w.1 S wb_.r wb_.l
      have e3' : dq (dotQ (w.1.zip (c.mv.map (·.2)))) = .tup [.int (brought w.1 c.mv).num, .int ((brought w.1 c.mv).den : Int)] := rfl
      have lm := fun S => l_minus_eq S wb_.b q1 (by omega)
      simp [drow, p, e3', push_at, lm, szL, hz, push_put]
      exact (hJ _ _ _).mpr ⟨_, _, _, _, _, _, _, rfl, by simp [hF, dtri, drow, led]⟩
    · rintro env S' hj
      rw [List.length_map, List.take_length] at hj
      obtain ⟨e16, e17, e18, e19, e20, e21, e22, rfl, rfl⟩ := (hJ _ _ _).mp hj
      have e : (C.cs.take (j + 1)).flatMap (caseW C.z C.m T) = (C.cs.take j).flatMap (caseW C.z C.m T) ++ (getT T c.t).map F := by rw [hF]; exact take_flat ec
      show I _ _ _
      rw [e, ← List.append_assoc]
      exact mk g
  rintro env S' h'
  rw [List.length_map, List.take_length] at h'
  obtain ⟨R, e3, e9, e10, e11, e12, e13, e14, e15, e16, e17, e18, e19, e20, e21, e22, rfl, rfl, g⟩ := (hI _ _ _).mp h'
  -- safe places
  have hp := h.p1
  have sm : smallI (C.sf.length : Int) = true := by unfold smallI; simp; omega
  have zl : (T.zip C.sf).length = C.sf.length := by simp [hT.l]
  have zB : ∀ p ∈ T.zip C.sf, (safeW C.z p).length ≤ 40 := fun p hp => by simp only [safeW, List.length_map]; exact Nat.le_trans (h.f p.2 (List.of_mem_zip (a := p.1) (b := p.2) hp).2).l hn
  have f4 : ∀ j, (((T.zip C.sf).take j).flatMap (safeW C.z)).length ≤ 12 * 40 := fun j => take_le zB (by omega)
  rw [cont_nx, dSeq_eq, ok_bind, dFor_eq, ok_bind]
  simp [sm]
  refine ok_loop (I := fun j => I (C.st.flatMap (startW C.z T) ++ C.cs.flatMap (caseW C.z C.m T) ++ ((T.zip C.sf).take j).flatMap (safeW C.z))) (by simpa using mk g) (fun _ _ _ _ => wtOk_nil _) ?_ ?_
  · rintro j d env S' ed h'
    obtain ⟨R, e3, e9, e10, e11, e12, e13, e14, e15, e16, e17, e18, e19, e20, e21, e22, rfl, rfl, g⟩ := (hI _ _ _).mp h'
    obtain ⟨hj, rfl⟩ := rng_at ed
    have jl : j < T.length := by rw [hT.l]; exact hj
    have ez : (T.zip C.sf)[j]? = some (getT T j, C.sf[j]) := by
      rw [List.getElem?_zip_eq_some]
      refine ⟨?_, List.getElem?_eq_getElem hj⟩
      rw [List.getElem?_eq_getElem jl]
      simp [getT, jl]
    have gl := (h.f _ (List.getElem_mem hj)).l
    have fb := f4 j
    have sx : ∀ S, oIx (.d (.tup (C.sf.map (dlot C.z)))) (.d (.int (j : Nat))) S = .ok (.d (dlot C.z C.sf[j])) S := fun S => by
      rw [oIx_tup, atI_cast, List.getElem?_map, List.getElem?_eq_getElem hj]; rfl
    have hz : (C.st.flatMap (startW C.z T) ++ C.cs.flatMap (caseW C.z C.m T) ++ ((T.zip C.sf).take j).flatMap (safeW C.z)).length + (safeW C.z (getT T j, C.sf[j])).length ≤ 16777216 := by
      have := zB _ (List.mem_of_getElem? ez)
      rw [List.length_append, List.length_append]; omega
    rw [show C.st.flatMap (startW C.z T) ++ C.cs.flatMap (caseW C.z C.m T) ++ ((T.zip C.sf).take (j + 1)).flatMap (safeW C.z) = (C.st.flatMap (startW C.z T) ++ C.cs.flatMap (caseW C.z C.m T) ++ ((T.zip C.sf).take j).flatMap (safeW C.z)) ++ safeW C.z (getT T j, C.sf[j]) from by rw [take_flat ez, ← List.append_assoc]]
    generalize C.st.flatMap (startW C.z T) ++ C.cs.flatMap (caseW C.z C.m T) ++ ((T.zip C.sf).take j).flatMap (safeW C.z) = acc at hz h' ⊢
    simp
    refine ok_lcM (e := dwish) (ws := C.sf[j]) (f := fun w => dtri C.z (getT T j) w.1 w.2) (by simp [sx, lot_ix1]) (by simp [szL]; omega) (fun w hw c2 => ?_) ?_
    · simp [wipeE, dwish, szL, dtri, tab_at _ jl]
    · have hz' : acc.length + (List.map (fun w => dtri C.z (getT T j) w.fst w.snd) C.sf[j]).length ≤ 16777216 := hz
      rw [push_at rfl, cellL_lst, trkL_lst, cAdd_some, if_pos hz', ok_ok]
      exact mk (g.push _)
  · rintro env S' h'
    have e : (rngD 0 C.sf.length).length = (T.zip C.sf).length := by rw [zl]; simp [rngD]
    rw [e, List.take_length] at h'
    obtain ⟨R, e3, e9, e10, e11, e12, e13, e14, e15, e16, e17, e18, e19, e20, e21, e22, rfl, rfl, g⟩ := (hI _ _ _).mp h'
    simp [push_at, allW, List.take_append_of_le_length g.le, g.tk]
end Law
set_option Elab.async false
set_option linter.all false
set_option maxRecDepth 100000
set_option maxHeartbeats 8000000
namespace Law
open PySem PySem.Spec PyProof.Rows L2 GxR Gx Dn
/-! wishes as data -/
structure Tr where
  z : Nat
  ws : List Wish
  r : List Rat
  b : Rat
def dtr (t : Tr) : D := dtri t.z t.ws t.r t.b
def startT (z : Nat) (T : List (List Wish)) (s : Nat × List Wish) : List Tr := (getT T s.1).map fun w => ⟨z, s.2, w.1, w.2⟩
def caseT (z m : Nat) (T : List (List Wish)) (c : Cs) : List Tr := (getT T c.t).map fun w => ⟨z + m, caseL m T c, led w.1 c.mv (z + m), w.2 + -(brought w.1 c.mv)⟩
def safeT (z : Nat) (p : List Wish × List Wish) : List Tr := p.2.map fun w => ⟨z, p.1, w.1, w.2⟩
def allT (C : Ch) (T : List (List Wish)) : List Tr := C.st.flatMap (startT C.z T) ++ C.cs.flatMap (caseT C.z C.m T) ++ (T.zip C.sf).flatMap (safeT C.z)
theorem allW_eq (C : Ch) (T : List (List Wish)) : allW C T = (allT C T).map dtr := by
  unfold allW allT
  rw [List.map_append, List.map_append, List.map_flatMap, List.map_flatMap, List.map_flatMap]
  have e1 : startW C.z T = fun a => List.map dtr (startT C.z T a) := by funext a; simp [startW, startT, dtr, Function.comp_def]
  have e2 : caseW C.z C.m T = fun a => List.map dtr (caseT C.z C.m T a) := by funext a; simp [caseW, caseT, dtr, Function.comp_def]
  have e3 : safeW C.z = fun a => List.map dtr (safeT C.z a) := by funext a; simp [safeW, safeT, dtr, Function.comp_def]
  rw [e1, e2, e3]
/-- what a wish must be like that papers for it can be judged -/
structure TrOk (k N : Nat) (t : Tr) : Prop where
  w : ∀ w ∈ t.ws, wb t.z k w
  l : t.ws.length ≤ N
  z : t.z ≤ 12
  b : qb (1 + (2 * k + 2) * 12) t.b
theorem allT_ok {C : Ch} {T : List (List Wish)} {n n' k : Nat} (h : ChOk n k C) (hT : TbOk C.z C.sf.length n' k T) (hk : 1 ≤ k) : ∀ t ∈ allT C T, TrOk k (n + n') t := by
  have hz := h.z1
  have hzm := h.zm
  have up : ∀ {b : Rat}, qb k b → qb (1 + (2 * k + 2) * 12) b := fun hb => qb_mono hb (by omega)
  intro t ht
  simp only [allT, List.mem_append, List.mem_flatMap] at ht
  rcases ht with (⟨s, hs, ht⟩ | ⟨c, hc, ht⟩) | ⟨p, hp, ht⟩
  · simp only [startT, List.mem_map] at ht
    obtain ⟨w, hw, rfl⟩ := ht
    obtain ⟨h1, h2⟩ := h.s s hs
    exact ⟨h2.w, by have := h2.l; simp; omega, by simp; omega, up ((getT_ok hT h1).w w hw).b⟩
  · simp only [caseT, List.mem_map] at ht
    obtain ⟨w, hw, rfl⟩ := ht
    have hcb := h.c c hc
    have hf := getT_ok hT hcb.f
    have hww := (getT_ok hT hcb.t).w w hw
    refine ⟨fun x hx => ?_, ?_, hzm, ?_⟩
    · simp only [caseL, List.mem_append, List.mem_map] at hx
      rcases hx with ⟨y, hy, rfl⟩ | hx
      · have := hf.w y hy
        refine ⟨by simp [this.l], fun q hq => ?_, this.b⟩
        rcases List.mem_append.mp hq with hq | hq
        · exact this.r q hq
        · rw [(List.mem_replicate.mp hq).2]; exact qb_mono qb_zero hk
      · exact hcb.g.w x hx
    · have := hf.l
      have := hcb.g.l
      simp [caseL]; omega
    · have d := dot_qb hww.r (snd_qb hcb.mw) hww.l
      exact qb_mono (qb_add hww.b (qb_neg d)) (by
        have : (2 * k + 2) * C.z ≤ (2 * k + 2) * 8 := Nat.mul_le_mul_left _ hz
        omega)
  · simp only [safeT, List.mem_map] at ht
    obtain ⟨w, hw, rfl⟩ := ht
    have h1 := hT.w p.1 (List.of_mem_zip hp).1
    have h2 := h.f p.2 (List.of_mem_zip hp).2
    exact ⟨h1.w, by have := h1.l; simp; omega, by simp; omega, up (h2.w w hw).b⟩
/-! tables -/
def hasB (C : Ch) (d : D) : Bool := tupB d C.sf.length C.sf.length && (match d with | .tup ds => ds.all (smallM 40 C.z) | _ => false)
theorem wishB_of {z k l : Nat} {d : D} (h : wishB z d = true) (g : gD k l d = true) : ∃ w : Wish, d = dwish w ∧ wb z k w := by
  unfold wishB at h
  split at h
  · rename_i r f
    simp only [Bool.and_eq_true] at h
    obtain ⟨gr, gf⟩ := gD_pair g
    obtain ⟨q, rfl⟩ := frac_dq h.2
    have hr := h.1
    unfold rowB at hr
    split at hr
    · rename_i ds
      simp only [Bool.and_eq_true, decide_eq_true_eq, List.all_eq_true] at hr
      obtain ⟨qs, e, hq⟩ := row_of (z := z) (P := fun d => fracB d = true ∧ gD k l d = true) (k := k) (fun d hd => by
        obtain ⟨q, rfl⟩ := frac_dq hd.1
        have g := hd.2
        simp [gD, gDs, dq] at g
        exact ⟨q, rfl, ⟨g.2.1, g.2.2⟩⟩) (ds := ds) (fun x hx => ⟨hr.2 x hx, gD_items gr x hx⟩)
      subst e
      have g2 := gf
      simp [gD, gDs, dq] at g2
      have hl := hr.1
      simp at hl
      exact ⟨(qs, q), rfl, ⟨by simp; omega, hq, ⟨g2.2.1, g2.2.2⟩⟩⟩
    · cases hr
  · cases h
theorem lotB_of {z k l : Nat} {d : D} (h : smallM 40 z d = true) (g : gD k l d = true) : ∃ ws : List Wish, d = dlot z ws ∧ lb z 40 k ws := by
  unfold smallM at h
  split at h
  · rename_i n ws
    simp only [lotB, Bool.and_eq_true, decide_eq_true_eq, List.all_eq_true] at h
    obtain ⟨h1, ⟨⟨h2, h3⟩, h4⟩, h5⟩ := h
    subst h1
    obtain ⟨_, gw⟩ := gD_pair g
    obtain ⟨xs, e, hx⟩ := map_of (P := fun d => wishB z d = true ∧ gD k l d = true) (e := dwish) (R := wb z k) (fun d hd => wishB_of hd.1 hd.2) (ds := ws) (fun x hx => ⟨h5 x hx, gD_items gw x hx⟩)
    subst e
    simp at h4
    exact ⟨xs, rfl, by omega, hx⟩
  · cases h
theorem hasB_of {C : Ch} {k l : Nat} {d : D} (h : hasB C d = true) (g : gD k l d = true) : ∃ T, d = dtab C.z T ∧ TbOk C.z C.sf.length 40 k T := by
  unfold hasB at h
  cases d with
  | tup ds =>
    simp only [Bool.and_eq_true, List.all_eq_true] at h
    obtain ⟨h1, h2⟩ := h
    simp only [tupB, Bool.and_eq_true, decide_eq_true_eq] at h1
    obtain ⟨T, e, hT⟩ := map_of (P := fun d => smallM 40 C.z d = true ∧ gD k l d = true) (e := dlot C.z) (R := lb C.z 40 k) (fun d hd => lotB_of hd.1 hd.2) (ds := ds) (fun x hx => ⟨h2 x hx, gD_items g x hx⟩)
    subst e
    simp at h1
    exact ⟨T, rfl, by omega, hT⟩
  | _ => simp [tupB] at h
theorem has_lots_gen {C : Ch} {k l : Nat} {d : D} (S : Sto) (g : gD k l d = true) : m_has_lots [.d (dch C), .d d] S = .ok (.d (.bl (hasB C d))) S := by
  refine ok_eq ?_
  unfold m_has_lots
  refine ok_fn ?_
  unfold b_has_lots
  simp [ch_ix4, is_tuple_of_eq, gD_nob g]
  by_cases c : tupB d C.sf.length C.sf.length = true
  · cases d with
    | tup ds =>
      simp [c]
      refine ok_allG (ds := ds) (f := smallM 40 C.z) (by simp) (fun x hx => ?_) ?_
      · simp [wipeE, ch_ix0, is_small_lot_eq _ (gD_items g x hx)]
      · simp [hasB, c]
    | _ => simp [tupB] at c
  · simp [c, hasB]
theorem l_table_gen {C : Ch} {k l : Nat} {d : D} (S : Sto) (g : gD k l d = true) (hb : 0 < k) (h9 : k ≤ 9000) (hl : l ≤ szL) : m__law_is_table [.d (dch C), .d d] S = .ok (.d (.bl (hasB C d))) S := by
  have hn := gD_nob g
  refine ok_eq ?_
  unfold m__law_is_table
  refine ok_fn ?_
  unfold b__law_is_table
  cases d with
  | tup ds =>
    simp [isi, ch_ix4]
    by_cases c : ds.length = C.sf.length
    · have ct : tupB (.tup ds) C.sf.length C.sf.length = true := by simp [tupB, c]
      have hz : ds.length ≤ l := by simp only [gD, Bool.and_eq_true, decide_eq_true_eq] at g; exact g.1
      simp [c]
      refine ok_lc (ds := ds) (f := fun d => .bl (smallM 40 C.z d)) (by simp) (by omega) (fun x hx c => ?_) ?_
      · simp [wipeE, ch_ix0, l_is_lotZ_eq _ (gD_items g x hx) hb h9 hl]
      · simp only [bAll, seqL, blsOf_map, Option.bind_some, ok_ok, toB_bl, List.all_map, Function.comp_def, id_eq]
        simp [hasB, ct]
    · have ct : tupB (.tup ds) C.sf.length C.sf.length = false := by simp [tupB]; omega
      have c' : ¬ ((ds.length : Int) = (C.sf.length : Int)) := by omega
      simp [c', hasB, ct]
  | obj c fs => simp [nob] at hn
  | _ => simp [isi, hasB, tupB]
end Law
set_option Elab.async false
set_option linter.all false
set_option maxRecDepth 100000
set_option maxHeartbeats 8000000
namespace Law
open PySem PySem.Spec PyProof.Rows L2 GxR Gx Dn
/-! papers for all wishes -/
def papsB (C : Ch) (T : List (List Wish)) (d : D) : Bool := match d with
  | .tup ps => decide (ps.length = (allT C T).length) && ((allT C T).zip ps).all fun x => papB x.1.z x.1.ws x.1.r x.1.b x.2
  | _ => false
theorem zip_tr (ts : List Tr) (ps : List D) : ((ts.map dtr).zip ps).map (fun p => D.tup [p.1, p.2]) = (ts.zip ps).map fun x => D.tup [dtr x.1, x.2] := by
  have e : ((ts.map dtr).zip ps) = (ts.zip ps).map fun x => (dtr x.1, x.2) := by
    have := List.zip_map (f := dtr) (g := id) (l₁ := ts) (l₂ := ps)
    rw [List.map_id] at this
    exact this
  rw [e, List.map_map]
  rfl
theorem iMx_tr (ts : List Tr) (ps : List D) (S : Sto) : Dn.iMx [.d (.tup (ts.map dtr)), .d (.tup ps)] S = .ok ⟨(ts.zip ps).map fun x => D.tup [dtr x.1, x.2], []⟩ S := by
  simp only [Dn.iMx, seqK, seqT, wtV, List.append_nil]
  rw [zip_tr]
theorem ChOk.up {n n' k : Nat} {C : Ch} (h : ChOk n k C) (hn : n ≤ n') : ChOk n' k C :=
  ⟨h.z0, h.z1, h.m1, h.zm, h.s0, h.s1, h.c1, h.p0, h.p1, fun s hs => ⟨(h.s s hs).1, lb_mono (h.s s hs).2 hn (Nat.le_refl _)⟩, fun c hc => ⟨(h.c c hc).f, (h.c c hc).t, lb_mono (h.c c hc).g hn (Nat.le_refl _), (h.c c hc).ml, (h.c c hc).mw⟩, fun l hl => lb_mono (h.f l hl) hn (Nat.le_refl _)⟩
theorem drow_inj {xs ys : List Rat} (h : drow xs = drow ys) : xs = ys := by
  unfold drow at h
  exact (List.map_inj_right fun x y e => dq_inj e).mp (D.tup.inj h)
theorem dwish_inj {v w : Wish} (h : dwish v = dwish w) : v = w := by
  unfold dwish at h
  simp at h
  exact Prod.ext (drow_inj h.1) (dq_inj h.2)
theorem dlot_inj {z : Nat} {v w : List Wish} (h : dlot z v = dlot z w) : v = w := by
  unfold dlot at h
  simp at h
  exact (List.map_inj_right fun x y e => dwish_inj e).mp h
theorem dtab_inj {z : Nat} {T U : List (List Wish)} (h : dtab z T = dtab z U) : T = U := by
  unfold dtab at h
  exact (List.map_inj_right fun x y e => dlot_inj e).mp (D.tup.inj h)
theorem tab_has {C : Ch} {k : Nat} {T : List (List Wish)} (h0 : 1 ≤ C.z) (h1 : C.z ≤ 8) (hT : TbOk C.z C.sf.length 40 k T) : hasB C (dtab C.z T) = true := by
  have e : tupB (dtab C.z T) C.sf.length C.sf.length = true := by simp [dtab, tupB, hT.l]
  unfold hasB
  rw [e]
  simp only [dtab, Bool.true_and, List.all_map, List.all_eq_true, Function.comp_def]
  exact fun ws hw => lb_small (hT.w ws hw) h0 (by omega) (by decide)
/-- what is bound to be judged: a pair whose table has few wishes in each lot -/
structure Few (N : Nat) (d : D) : Prop where
  w : ∀ t p, d = .tup [t, p] → ∀ z T, t = dtab z T → ∀ ws ∈ T, ws.length ≤ N
theorem takes_eq {C : Ch} {n N k l : Nat} {d : D} (S : Sto) (h : ChOk n k C) (g : gD k l d = true) (hf : Few N d) (hn : n ≤ 40) (hk : 4 ≤ k) (hk2 : k ≤ 100) (hN : (2 * k + 2) * (n + N) ≤ 6000) (hl : l ≤ 1000) :
    ∃ v : Bool, m_takes [.d (dch C), .d d] S = .ok (.d (.bl v)) S ∧ m__law_takes [.d (dch C), .d d] S = .ok (.d (.bl v)) S ∧ ∀ T p, d = .tup [dtab C.z T, p] → TbOk C.z C.sf.length 40 k T → v = papsB C T p := by
  have hnb := gD_nob g
  have hc := check_chart_eq S h hn hk
  have szl : l ≤ szL := by simp [szL]; omega
  by_cases hp : ∃ t p, d = .tup [t, p]
  · obtain ⟨t, p, rfl⟩ := hp
    obtain ⟨gt, gp⟩ := gD_pair g
    have t2 : tupB (.tup [t, p]) 2 2 = true := by simp [tupB]
    have it : isi (.tup [t, p]) .tup = some true := rfl
    by_cases ht : hasB C t = true
    · obtain ⟨T, rfl, hT⟩ := hasB_of ht gt
      have hT' : TbOk C.z C.sf.length N k T := ⟨hT.l, fun ws hw => ⟨hf.w _ _ rfl _ _ rfl ws hw, (hT.w ws hw).w⟩⟩
      have ok := allT_ok h hT' (by omega)
      have aw := all_wishes_eq S (h.up hn) hT (by decide) hk hk2
      have lw := law_wishes_eq S (h.up hn) hT (by decide) hk2
      rw [allW_eq] at aw lw
      refine ⟨papsB C T p, ok_eq ?_, ok_eq ?_, fun T' p' e hT2 => ?_⟩
      · unfold m_takes
        refine ok_fn ?_
        unfold b_takes
        by_cases c : tupB p (allT C T).length (allT C T).length = true
        · cases p with
          | tup ps =>
            have cl : ps.length = (allT C T).length := by simp [tupB] at c; omega
            simp [hc, is_tuple_of_eq, hnb, t2, has_lots_gen _ gt, ht, aw, gD_nob gp, c]
            refine ok_allM (e := fun x : Tr × D => D.tup [dtr x.1, x.2]) (ws := (allT C T).zip ps) (f := fun x => papB x.1.z x.1.ws x.1.r x.1.b x.2) (by simp [iMx_tr]) (fun x hx => ?_) ?_
            · have o := ok x.1 (List.of_mem_zip hx).1
              have gx := gD_items gp x.2 (List.of_mem_zip hx).2
              have sh := fun S => shows_eq (row := x.1.r) (bb := 0) S o.w o.z o.b gx (Nat.le_trans (Nat.mul_le_mul_left _ o.l) hN) (by omega)
              simp [wipeE, dtr, dtri, sh]
            · simp [papsB, cl]
          | _ => simp [tupB] at c
        · have e : papsB C T p = false := by
            unfold papsB
            split
            · rename_i ps
              have : ¬ ps.length = (allT C T).length := fun z => c (by simp [tupB, z])
              simp [this]
            · rfl
          simp [hc, is_tuple_of_eq, hnb, t2, has_lots_gen _ gt, ht, aw, gD_nob gp, c, e]
      · unfold m__law_takes
        refine ok_fn ?_
        unfold b__law_takes
        cases p with
        | tup ps =>
          have itp : isi (.tup ps) .tup = some true := rfl
          have gl : ps.length ≤ l := by simp only [gD, Bool.and_eq_true, decide_eq_true_eq] at gp; exact gp.1
          by_cases c : ps.length = (allT C T).length
          · simp [it, itp, l_table_gen _ gt (by omega) (by omega) szl, ht, lw, c]
            refine ok_lcM (e := fun x : Tr × D => D.tup [dtr x.1, x.2]) (ws := (allT C T).zip ps) (f := fun x => .bl (papB x.1.z x.1.ws x.1.r x.1.b x.2)) (by simp [iMx_tr]) (by simp [szL]; omega) (fun x hx => fun c' => ?_) ?_
            · have o := ok x.1 (List.of_mem_zip hx).1
              have gx := gD_items gp x.2 (List.of_mem_zip hx).2
              have sh := fun S => l_is_paper_eq (row := x.1.r) S o.w o.z o.b gx (Nat.le_trans (Nat.mul_le_mul_left _ o.l) hN) (by omega) (by omega) szl
              simp [wipeE, dtr, dtri, sh]
            · have e : ∀ L : List (Tr × D), blsOf (L.map fun x => D.bl (papB x.1.z x.1.ws x.1.r x.1.b x.2)) = some (L.map fun x => papB x.1.z x.1.ws x.1.r x.1.b x.2) := fun L => by
                induction L with
                | nil => rfl
                | cons a L ih => simp only [List.map_cons, blsOf, ih, Option.map_some]
              simp only [bAll, seqL, e, Option.bind_some]
              simp [papsB, c, List.all_map, Function.comp_def]
          · simp [it, itp, l_table_gen _ gt (by omega) (by omega) szl, ht, lw, c, papsB]
            try (intro z; exact absurd (by omega) c)
        | obj c fs => exact absurd (gD_nob gp) (by simp [nob])
        | _ => simp [it, isi, l_table_gen _ gt (by omega) (by omega) szl, ht, lw, papsB]
      · have e1 : dtab C.z T = dtab C.z T' ∧ p = p' := by simpa using e
        rw [dtab_inj e1.1, e1.2]
    · refine ⟨false, ok_eq ?_, ok_eq ?_, fun T' p' e hT2 => ?_⟩
      · unfold m_takes
        refine ok_fn ?_
        unfold b_takes
        simp [hc, is_tuple_of_eq, hnb, t2, has_lots_gen _ gt, ht]
      · unfold m__law_takes
        refine ok_fn ?_
        unfold b__law_takes
        simp [it, l_table_gen _ gt (by omega) (by omega) szl, ht]
      · have e1 : t = dtab C.z T' ∧ p = p' := by simpa using e
        rw [e1.1, tab_has h.z0 h.z1 hT2] at ht
        exact absurd rfl ht
  · refine ⟨false, ok_eq ?_, ok_eq ?_, fun T' p' e _ => absurd ⟨_, _, e⟩ hp⟩
    · unfold m_takes
      refine ok_fn ?_
      unfold b_takes
      have t2 : tupB d 2 2 = false := by
        cases d with
        | tup ds =>
          rcases pair_cases ds with ⟨x, y, rfl⟩ | h2
          · exact absurd ⟨_, _, rfl⟩ hp
          · rw [tup2]; simpa using h2
        | _ => rfl
      simp [hc, is_tuple_of_eq, hnb, t2]
    · unfold m__law_takes
      refine ok_fn ?_
      unfold b__law_takes
      cases d with
      | tup ds =>
        rcases pair_cases ds with ⟨x, y, rfl⟩ | h2
        · exact absurd ⟨_, _, rfl⟩ hp
        · have : ¬ ((ds.length : Int) = 2) := by omega
          simp [isi, this]
      | obj c fs => simp [nob] at hnb
      | _ => simp [isi]
end Law
set_option Elab.async false
set_option linter.all false
set_option maxRecDepth 100000
set_option maxHeartbeats 2000000
namespace Law
open PySem PySem.Spec PyProof.Rows L2 GxR Gx Dn
/-! boxes -/
theorem dq_int (s : Int) : dq (s : Rat) = .tup [.int s, .int 1] := by simp [dq]
theorem dq_zero : dq 0 = .tup [.int 0, .int 1] := dq_int 0
def unitQ (z i : Nat) (s : Int) : List Rat := (List.range' 0 z).map fun m => if m = i then (s : Rat) else 0
theorem unitQ_len {z i : Nat} {s : Int} : (unitQ z i s).length = z := by simp [unitQ]
def boxW (z : Nat) : Nat → List (Rat × Rat) → List Wish
  | _, [] => []
  | i, s :: r => (unitQ z i 1, s.2) :: (unitQ z i (-1), -s.1) :: boxW z (i + 1) r
theorem boxW_snoc {z : Nat} {s : Rat × Rat} : ∀ (a : List (Rat × Rat)) (i : Nat), boxW z i (a ++ [s]) = boxW z i a ++ [(unitQ z (i + a.length) 1, s.2), (unitQ z (i + a.length) (-1), -s.1)]
  | [], i => by simp [boxW]
  | b :: a, i => by
    simp only [List.cons_append, boxW, boxW_snoc a (i + 1), List.length_cons]
    have e : i + 1 + a.length = i + (a.length + 1) := by omega
    rw [e]
theorem boxW_take {z k : Nat} {sp : List (Rat × Rat)} {s : Rat × Rat} (h : sp[k]? = some s) : boxW z 0 (sp.take (k + 1)) = boxW z 0 (sp.take k) ++ [(unitQ z k 1, s.2), (unitQ z k (-1), -s.1)] := by
  have hk : k < sp.length := (List.getElem?_eq_some_iff.mp h).1
  rw [List.take_add_one, h]
  have := boxW_snoc (z := z) (s := s) (sp.take k) 0
  rw [List.length_take, Nat.min_eq_left (by omega), Nat.zero_add] at this
  exact this
theorem boxW_len {z : Nat} : ∀ (sp : List (Rat × Rat)) (i : Nat), (boxW z i sp).length = 2 * sp.length
  | [], _ => rfl
  | s :: r, i => by simp only [boxW, List.length_cons, boxW_len r (i + 1)]; omega
theorem boxW_mem {z : Nat} {w : Wish} : ∀ (sp : List (Rat × Rat)) (i : Nat), w ∈ boxW z i sp → ∃ j s, sp[j]? = some s ∧ (w = (unitQ z (i + j) 1, s.2) ∨ w = (unitQ z (i + j) (-1), -s.1))
  | [], _, h => by simp [boxW] at h
  | s :: r, i, h => by
    simp only [boxW, List.mem_cons] at h
    rcases h with h | h | h
    · exact ⟨0, s, by simp, .inl h⟩
    · exact ⟨0, s, by simp, .inr h⟩
    · obtain ⟨j, t, e, q⟩ := boxW_mem r (i + 1) h
      have ee : i + 1 + j = i + (j + 1) := by omega
      rw [ee] at q
      exact ⟨j + 1, t, by simpa using e, q⟩
theorem boxW_has {z : Nat} : ∀ (sp : List (Rat × Rat)) (i j : Nat) {s : Rat × Rat}, sp[j]? = some s → (unitQ z (i + j) 1, s.2) ∈ boxW z i sp
  | [], _, _, _, h => by simp at h
  | t :: r, i, 0, s, h => by simp at h; subst h; simp [boxW]
  | t :: r, i, j + 1, s, h => by
    have := boxW_has (z := z) r (i + 1) j (by simpa using h)
    have ee : i + 1 + j = i + (j + 1) := by omega
    rw [ee] at this
    simp only [boxW, List.mem_cons]
    exact .inr (.inr this)
theorem qb_int {s : Int} {k : Nat} (h : s.natAbs < 2 ^ k) (hk : 0 < k) : qb k (s : Rat) := ⟨by simpa using h, by simpa using Nat.one_lt_two_pow (by omega)⟩
theorem unitQ_qb {z i : Nat} {s : Int} (h : s.natAbs ≤ 1) : ∀ q ∈ unitQ z i s, qb 2 q := fun q hq => by
  unfold unitQ at hq
  obtain ⟨m, _, rfl⟩ := List.mem_map.mp hq
  split
  · exact qb_int (by omega) (by decide)
  · exact qb_mono qb_zero (by decide)
theorem boxW_wb {z k : Nat} {sp : List (Rat × Rat)} (hk : 2 ≤ k) (h : ∀ s ∈ sp, qb k s.1 ∧ qb k s.2) : ∀ w ∈ boxW z 0 sp, wb z k w := fun w hw => by
  obtain ⟨j, s, e, q⟩ := boxW_mem sp 0 hw
  have hs := h s (List.mem_of_getElem? e)
  rcases q with rfl | rfl
  · exact ⟨unitQ_len, fun q hq => qb_mono (unitQ_qb (by decide) q hq) hk, hs.2⟩
  · exact ⟨unitQ_len, fun q hq => qb_mono (unitQ_qb (by decide) q hq) hk, qb_neg hs.1⟩
theorem dot_unit {i : Nat} {s : Rat} : ∀ (xs : List Rat) (j : Nat) (a : Rat), (((List.range' j xs.length).map fun m => if m = i then s else 0).zip xs).foldl (fun a x => a + x.1 * x.2) a = a + (if j ≤ i then s * (xs[i - j]?.getD 0) else 0)
  | [], j, a => by simp [Rat.mul_zero, Rat.add_zero]
  | x :: xs, j, a => by
    simp only [List.length_cons, List.range'_succ, List.map_cons, List.zip_cons_cons, List.foldl_cons]
    rw [dot_unit xs (j + 1)]
    by_cases e : j = i
    · subst e
      have l2 : ¬ j + 1 ≤ j := by omega
      rw [if_neg l2, Rat.add_zero]
      simp
    · by_cases l : j ≤ i
      · have l2 : j + 1 ≤ i := by omega
        have e2 : i - j = (i - (j + 1)) + 1 := by omega
        simp [e, l, l2, Rat.add_zero]
        rw [e2]
        simp
      · have l2 : ¬ j + 1 ≤ i := by omega
        simp [e, l, l2, Rat.add_zero]
theorem dot_unitQ {z i : Nat} {s : Int} {xs : List Rat} {x : Rat} (hx : xs[i]? = some x) (hz : xs.length = z) : dotQ ((unitQ z i s).zip xs) = s * x := by
  have := dot_unit (i := i) (s := (s : Rat)) xs 0 0
  unfold dotQ unitQ
  rw [← hz, this]
  simp [hx, Rat.zero_add]
theorem inside_box {z : Nat} {sp : List (Rat × Rat)} {xs : List Rat} (hz : xs.length = z) (hs : sp.length = z) (h : ∀ (i : Nat) (s : Rat × Rat) (x : Rat), sp[i]? = some s → xs[i]? = some x → s.1 ≤ x ∧ x ≤ s.2) : inside (boxW z 0 sp) xs = true := by
  unfold inside
  rw [List.all_eq_true]
  intro w hw
  obtain ⟨j, s, e, q⟩ := boxW_mem sp 0 hw
  have hj : j < xs.length := by rw [hz, ← hs]; exact (List.getElem?_eq_some_iff.mp e).1
  have ex := List.getElem?_eq_getElem hj
  obtain ⟨h1, h2⟩ := h j s _ e ex
  rw [Nat.zero_add] at q
  rcases q with rfl | rfl
  · simp only [dot_unitQ ex hz, decide_eq_true_eq]
    simpa using h2
  · simp only [dot_unitQ ex hz, decide_eq_true_eq]
    have : ((-1 : Int) : Rat) * xs[j] = -xs[j] := by simp [Rat.neg_mul]
    rw [this]
    exact Rat.neg_le_neg h1
theorem outside_box {z i : Nat} {sp : List (Rat × Rat)} {xs : List Rat} {s : Rat × Rat} {x : Rat} (hz : xs.length = z) (e : sp[i]? = some s) (ex : xs[i]? = some x) (h : s.2 < x) : inside (boxW z 0 sp) xs = false := by
  unfold inside
  rw [List.all_eq_false]
  refine ⟨_, boxW_has sp 0 i e, ?_⟩
  rw [Nat.zero_add]
  simp only [dot_unitQ ex hz, decide_eq_true_eq]
  intro q
  have q2 : x ≤ s.2 := by simpa using q
  exact absurd h (Rat.not_lt.mpr q2)
end Law
set_option Elab.async false
set_option linter.all false
set_option maxRecDepth 100000
set_option maxHeartbeats 2000000
namespace Law
open PySem PySem.Spec PyProof.Rows L2 GxR Gx Dn
/-! boxes as the program and the law make them -/
theorem rng_atB {z j : Nat} (h : j < z) : (rngD 0 z)[j]? = some (.int (j : Int)) := by simp [rngD, List.getElem?_range', h]
def dspan (s : Rat × Rat) : D := .tup [dq s.1, dq s.2]
theorem span_gD {k : Nat} {s : Rat × Rat} (h : qb k s.1 ∧ qb k s.2) : gD k 12 (dspan s) = true := by
  simp [dspan, gD, gDs, qb_gD h.1 (show 2 ≤ 12 by decide), qb_gD h.2 (show 2 ≤ 12 by decide)]
theorem span_row (s : Rat × Rat) : rowB 2 (dspan s) = true := by simp [dspan, rowB, dq_frac]
theorem ok_loop2 {g : DGf} {body : DSf} {x y : D} {env : Dn.Env} {S : Sto} {Q : Dn.Fl → Sto → Prop} (h : Ok (g (.d x) env S) fun env1 S1 => Ok (body env1 S1) fun fl S2 => ∃ e, fl = .nx e ∧ Ok (g (.d y) e S2) fun env2 S3 => Ok (body env2 S3) fun fl2 S4 => ∃ e2, fl2 = .nx e2 ∧ Q (.nx e2) S4) :
    Ok (dLoop g body [] [x, y] env S) Q := by
  unfold dLoop
  rw [if_pos (wtOk_nil S), ok_bind]
  refine h.mono fun env1 S1 h1 => ?_
  rw [ok_bind]
  refine h1.mono fun fl S2 h2 => ?_
  obtain ⟨e, rfl, h2⟩ := h2
  dsimp only
  unfold dLoop
  rw [if_pos (wtOk_nil S2), ok_bind]
  refine h2.mono fun env2 S3 h3 => ?_
  rw [ok_bind]
  refine h3.mono fun fl2 S4 h4 => ?_
  obtain ⟨e2, rfl, h4⟩ := h4
  dsimp only
  unfold dLoop
  rw [if_pos (wtOk_nil S4)]
  exact ok_ok.mpr h4
theorem l_box_eq {sp : List (Rat × Rat)} (S : Sto) (h1 : sp.length ≤ 12) : m__law_box [.d (.tup (sp.map dspan))] S = .ok (.d (dlot sp.length (boxW sp.length 0 sp))) S := by
  refine ok_eq ?_
  unfold m__law_box
  refine ok_fn ?_
  unfold b__law_box
  simp [szL]
  have sm := sm_of (i := (sp.length : Int)) (by omega) (by omega)
  simp [sm]
  obtain ⟨I, hI⟩ : ∃ I : Nat → Dn.Env → Sto → Prop, ∀ j env S', I j env S' ↔ ∃ e1 e4 e5 e6, env = [some (.d (.tup (sp.map dspan))), e1, some (.d (.int sp.length)), some (.r S.length), e4, e5, e6] ∧ S' = S ++ [.lst ((boxW sp.length 0 (sp.take j)).map dwish)] := ⟨_, fun _ _ _ => Iff.rfl⟩
  refine ok_loop (I := I) ((hI _ _ _).mpr ⟨none, none, none, none, rfl, by simp [boxW]⟩) (fun _ _ _ _ => wtOk_nil _) ?_ ?_
  · rintro j d env S' ed h'
    obtain ⟨e1, e4, e5, e6, rfl, rfl⟩ := (hI _ _ _).mp h'
    have hj : j < sp.length := by simpa [rngD] using (List.getElem?_eq_some_iff.mp ed).1
    rw [rng_atB hj] at ed
    cases ed
    have es := List.getElem?_eq_getElem hj
    have ej : atI (sp.map dspan) (j : Int) = some (dspan sp[j]) := by rw [atI_cast, List.getElem?_map, es]; rfl
    have hl : (boxW sp.length 0 (sp.take j)).length ≤ 24 := by rw [boxW_len, List.length_take]; omega
    have row : ∀ (s : Int) (b : D) (e6 : Option Val) (T : Sto) (Q : Val → Sto → Prop), Q (.d (.lst ((unitQ sp.length j s).map dq))) T → Ok (dLc (diRng1 (dCons (dVar 2) dNil)) (dgName 6) dYes (dIf (dB (dOp oEq (dVar 6) (dVar 1))) (dCall oTup (dCons (dVar 4) (dCons (dC (.int 1)) dNil))) (dCall oTup (dCons (dC (.int 0)) (dCons (dC (.int 1)) dNil)))) [6]
        [some (.d (.tup (sp.map dspan))), some (.d (.int (j : Int))), some (.d (.int sp.length)), some (.r S.length), some (.d (.int s)), some (.d b), e6] T) Q := fun s b e6 T Q q => by
      refine ok_lc (ds := rngD 0 sp.length) (f := fun d => match d with
        | .int m => if m = j then .tup [.int s, .int 1] else .tup [.int 0, .int 1]
        | _ => .non) (by simp [sm]) (by simp [szL]; omega) (fun d hd c => ?_) ?_
      · obtain ⟨m, rfl, _, _⟩ := rng_mem hd
        simp [wipeE, szL]
        by_cases e : m = (j : Int) <;> simp [e]
      · have e : (rngD 0 sp.length).map (fun d => match d with
            | .int m => if m = j then D.tup [.int s, .int 1] else .tup [.int 0, .int 1]
            | _ => .non) = (unitQ sp.length j s).map dq := by
          simp [unitQ, rngD]
          rw [← List.range_eq_range']
          refine List.map_congr_left fun m _ => ?_
          by_cases e : m = j
          · simp [e, dq_int]
          · have e' : ¬ ((m : Int) = (j : Int)) := by omega
            simp [e, e', dq_zero]
        rw [e]
        exact q
    have z1 : (boxW sp.length 0 (sp.take j)).length < 16777216 := by omega
    have z2 : (boxW sp.length 0 (sp.take j)).length + 1 < 16777216 := by omega
    simp [ej, dspan, dq, szL]
    refine ok_loop2 ?_
    simp
    refine row _ _ _ _ _ ?_
    simp [z1, szL]
    refine row _ _ _ _ _ ?_
    simp [z2, szL]
    refine (hI _ _ _).mpr ⟨_, _, _, _, rfl, ?_⟩
    rw [boxW_take es]
    simp [dwish, drow, dq]
  · rintro env S' h'
    obtain ⟨e1, e4, e5, e6, rfl, rfl⟩ := (hI _ _ _).mp h'
    rw [rng_len, List.take_length]
    simp [dlot, szL]
end Law
set_option Elab.async false
set_option linter.all false
set_option maxRecDepth 100000
set_option maxHeartbeats 8000000
namespace Law
open PySem PySem.Spec PyProof.Rows L2 GxR Gx Dn
/-! rows by boxes -/
def sgn : List Rat → List Rat
  | [] => []
  | r :: rs => (if 0 < r then r else 0) :: (if r < 0 then -r else 0) :: sgn rs
theorem sgn_len : ∀ rs : List Rat, (sgn rs).length = 2 * rs.length
  | [] => rfl
  | r :: rs => by simp only [sgn, List.length_cons, sgn_len rs]; omega
theorem fold_dot : ∀ (l : List (Rat × Rat)) (a : Rat), l.foldl (fun a x => a + x.1 * x.2) a = a + l.foldl (fun a x => a + x.1 * x.2) 0
  | [], a => by simp [Rat.add_zero]
  | x :: l, a => by
    simp only [List.foldl_cons]
    rw [fold_dot l (a + x.1 * x.2), fold_dot l (0 + x.1 * x.2)]
    grind
theorem dotQ_cons (x : Rat × Rat) (l : List (Rat × Rat)) : dotQ (x :: l) = x.1 * x.2 + dotQ l := by
  unfold dotQ
  rw [List.foldl_cons, fold_dot l]
  grind
theorem dotQ_nil : dotQ [] = 0 := rfl
theorem dotQ_zeros : ∀ (n : Nat) (ys : List Rat), dotQ ((List.replicate n 0).zip ys) = 0
  | 0, ys => by simp [dotQ]
  | n + 1, [] => by simp [dotQ]
  | n + 1, y :: ys => by
    rw [List.replicate_succ, List.zip_cons_cons, dotQ_cons, dotQ_zeros n ys]
    grind
theorem unit_get {w k i : Nat} {s : Int} (hi : i < w) : (unitQ w k s).getD i 0 = if i = k then (s : Rat) else 0 := by
  unfold unitQ
  rw [List.getD_eq_getElem?_getD, List.getElem?_map, List.getElem?_range' hi]
  simp
theorem mixC_box {w n i : Nat} {rest : List Wish} (hi : i < w) : ∀ (sp : List (Rat × Rat)) (rs : List Rat) (j : Nat), sp.length = rs.length →
    mixC (sgn rs ++ List.replicate n 0) (boxW w j sp ++ rest) i = if j ≤ i ∧ i < j + rs.length then rs.getD (i - j) 0 else 0
  | [], [], j, _ => by
    have : ¬ (j ≤ i ∧ i < j + 0) := by omega
    simp only [sgn, boxW, List.nil_append, List.length_nil, if_neg this]
    exact dotQ_zeros _ _
  | s :: sp, r :: rs, j, h => by
    have ih := mixC_box (n := n) (rest := rest) hi sp rs (j + 1) (by simpa using h)
    unfold mixC at ih ⊢
    simp only [sgn, boxW, List.cons_append, List.map_cons, List.zip_cons_cons, dotQ_cons, unit_get hi, List.length_cons]
    rw [ih]
    by_cases e : i = j
    · subst e
      have h1 : ¬ (i + 1 ≤ i ∧ i < i + 1 + rs.length) := by omega
      have h2 : i ≤ i ∧ i < i + (rs.length + 1) := by omega
      rw [if_neg h1, if_pos h2]
      simp
      grind
    · rw [if_neg e, if_neg e]
      by_cases q : j + 1 ≤ i ∧ i < j + 1 + rs.length
      · have q2 : j ≤ i ∧ i < j + (rs.length + 1) := by omega
        have e2 : i - j = i - (j + 1) + 1 := by omega
        rw [if_pos q, if_pos q2, e2, List.getD_cons_succ]
        grind
      · have q2 : ¬ (j ≤ i ∧ i < j + (rs.length + 1)) := by omega
        rw [if_neg q, if_neg q2]
        grind
theorem mixR_box {w n : Nat} {rest : List Wish} {sp : List (Rat × Rat)} {rs : List Rat} (h1 : sp.length = w) (h2 : rs.length = w) : mixR (sgn rs ++ List.replicate n 0) (boxW w 0 sp ++ rest) w = rs := by
  unfold mixR
  apply List.ext_getElem
  · simp [h2]
  · intro i hi hi2
    simp at hi
    simp only [List.getElem_map, List.getElem_range]
    rw [mixC_box hi sp rs 0 (by omega)]
    have : 0 ≤ i ∧ i < 0 + rs.length := by omega
    rw [if_pos this]
    simp [List.getD_eq_getElem?_getD, hi2]
def wsum : List Rat → List (Rat × Rat) → Rat
  | r :: rs, s :: sp => (if 0 < r then r else 0) * s.2 + (if r < 0 then -r else 0) * -s.1 + wsum rs sp
  | _, _ => 0
theorem mixB_box {w n : Nat} {rest : List Wish} : ∀ (sp : List (Rat × Rat)) (rs : List Rat) (j : Nat), sp.length = rs.length → mixB (sgn rs ++ List.replicate n 0) (boxW w j sp ++ rest) = wsum rs sp
  | [], [], j, _ => by
    simp only [sgn, boxW, List.nil_append, wsum]
    exact dotQ_zeros _ _
  | s :: sp, r :: rs, j, h => by
    have ih := mixB_box (w := w) (n := n) (rest := rest) sp rs (j + 1) (by simpa using h)
    unfold mixB at ih ⊢
    simp only [sgn, boxW, List.cons_append, List.map_cons, List.zip_cons_cons, dotQ_cons, wsum]
    rw [ih]
    grind
def ab (r : Rat) : Rat := if r < 0 then -r else r
def asum : List Rat → List Rat → Rat
  | r :: rs, m :: ms => ab r * m + asum rs ms
  | _, _ => 0
/-- within M to both sides -/
def inM : List (Rat × Rat) → List Rat → Prop
  | s :: sp, m :: ms => s.2 ≤ m ∧ -s.1 ≤ m ∧ 0 ≤ m ∧ inM sp ms
  | [], [] => True
  | _, _ => False
theorem wsum_le : ∀ {sp : List (Rat × Rat)} {ms : List Rat} (rs : List Rat), inM sp ms → wsum rs sp ≤ asum rs ms
  | [], [], rs, _ => by cases rs <;> simp [wsum, asum]
  | s :: sp, m :: ms, [], _ => by simp [wsum, asum]
  | s :: sp, m :: ms, r :: rs, h => by
    obtain ⟨h1, h2, h3, h4⟩ := h
    have ih := wsum_le rs h4
    simp only [wsum, asum, ab]
    by_cases q : 0 < r
    · have q2 : ¬ r < 0 := by grind
      rw [if_pos q, if_neg q2, if_neg q2]
      have := Rat.mul_le_mul_of_nonneg_left h1 (c := r) (by grind)
      grind
    · by_cases q2 : r < 0
      · rw [if_neg q, if_pos q2, if_pos q2]
        have := Rat.mul_le_mul_of_nonneg_left h2 (c := -r) (by grind)
        grind
      · have : r = 0 := by grind
        subst this
        simp
        grind
theorem unit_wide {z m i : Nat} {s : Int} (hi : i < z) : unitQ z i s ++ List.replicate m 0 = unitQ (z + m) i s := by
  apply List.ext_getElem
  · simp [unitQ]
  · intro j h1 h2
    simp [unitQ] at h2
    rw [List.getElem_append]
    by_cases q : j < z
    · simp [unitQ, q]
    · have : ¬ j = i := by omega
      simp [unitQ, q, this]
theorem box_wide {z m : Nat} : ∀ (sp : List (Rat × Rat)) (i : Nat), i + sp.length ≤ z → (boxW z i sp).map (fun w => (w.1 ++ List.replicate m 0, w.2)) = boxW (z + m) i sp
  | [], _, _ => rfl
  | s :: sp, i, h => by
    simp only [List.length_cons] at h
    simp only [boxW, List.map_cons, unit_wide (show i < z by omega), box_wide (z := z) (m := m) sp (i + 1) (by omega)]
theorem box_app {w : Nat} : ∀ (a b : List (Rat × Rat)) (i : Nat), boxW w i (a ++ b) = boxW w i a ++ boxW w (i + a.length) b
  | [], b, i => by simp [boxW]
  | s :: a, b, i => by
    simp only [List.cons_append, boxW, box_app a b (i + 1), List.length_cons]
    have e : i + 1 + a.length = i + (a.length + 1) := by omega
    rw [e]
end Law
set_option Elab.async false
set_option linter.all false
set_option maxRecDepth 100000
set_option maxHeartbeats 8000000
namespace Law
open PySem PySem.Spec PyProof.Rows L2 GxR Gx Dn
/-! what stands in a tuple of literals -/
def intB (lo hi : Int) : D → Bool
  | .int a => decide (lo ≤ a) && decide (a ≤ hi)
  | _ => false
theorem int_lit {L : List D} {lo hi : Int} (h : L.all (intB lo hi) = true) {d : D} (hd : d ∈ L) : ∃ a : Int, d = .int a ∧ lo ≤ a ∧ a ≤ hi := by
  have k := List.all_eq_true.mp h d hd
  cases d <;> simp [intB] at k
  exact ⟨_, rfl, k.1, k.2⟩
def frB (m : Nat) : D → Bool
  | .tup [.int i, .int j] => decide (0 < j) && decide (i.natAbs < 2 ^ m) && decide (j.natAbs < 2 ^ m) && decide (Nat.gcd i.natAbs j.natAbs = 1)
  | _ => false
theorem fr_lit {L : List D} {m : Nat} (h : L.all (frB m) = true) {d : D} (hd : d ∈ L) : ∃ q, d = dq q ∧ qb m q := by
  have k := List.all_eq_true.mp h d hd
  unfold frB at k
  split at k
  · rename_i i j
    simp at k
    obtain ⟨⟨⟨h0, hi⟩, hj⟩, hg⟩ := k
    obtain ⟨k, rfl⟩ := Int.eq_ofNat_of_zero_le (Int.le_of_lt h0)
    exact ⟨⟨i, k, by omega, by simpa using hg⟩, rfl, ⟨hi, by simpa using hj⟩⟩
  · cases k
def ratB (lo hi : Rat) : D → Bool
  | .tup [.int i, .int j] => decide (lo ≤ Rat.divInt i j) && decide (Rat.divInt i j ≤ hi)
  | _ => false
theorem fr_litR {L : List D} {m : Nat} {lo hi : Rat} (h : L.all (frB m) = true) (h2 : L.all (ratB lo hi) = true) {d : D} (hd : d ∈ L) : ∃ q, d = dq q ∧ qb m q ∧ lo ≤ q ∧ q ≤ hi := by
  obtain ⟨q, rfl, hq⟩ := fr_lit h hd
  have k := List.all_eq_true.mp h2 _ hd
  simp only [dq, ratB, Rat.num_divInt_den, Bool.and_eq_true, decide_eq_true_eq] at k
  exact ⟨q, rfl, hq, k.1, k.2⟩
structure SpK (s : Rat × Rat) : Prop where
  a : qb 4 s.1
  b : qb 8 s.2
  lo : -2 ≤ s.1
  hi : s.2 ≤ 5
structure Kp where
  a : Rat
  b : Rat
  c : Rat
def dpart (p : Kp) : D := .tup [dq p.a, dq p.b, dq p.c]
structure KpOk (p : Kp) : Prop where
  qa : qb 4 p.a
  qb1 : qb 4 p.b
  qc : qb 4 p.c
  a0 : -(1 / 2) ≤ p.a
  a1 : p.a ≤ 1 / 2
  b0 : -1 ≤ p.b
  b1 : p.b ≤ 1
  c0 : -3 ≤ p.c
  c1 : p.c ≤ 3
def dheld (o : Option (Rat × Rat)) : D := match o with
  | none => .non
  | some s => dspan s
def HeldOk (o : Option (Rat × Rat)) : Prop := ∀ s, o = some s → SpK s
structure Kept where
  parts : List Kp
  spans : List (Rat × Rat)
  held : List (Option (Rat × Rat))
def dkept (p : Kept) : D := .tup [.tup (p.parts.map dpart), .tup (p.spans.map dspan), .tup (p.held.map dheld)]
structure KeptOk (z m : Nat) (p : Kept) : Prop where
  pl : p.parts.length = z
  pp : ∀ x ∈ p.parts, KpOk x
  sl : p.spans.length = m
  s : ∀ x ∈ p.spans, SpK x
  hl : p.held.length = z
  h : ∀ x ∈ p.held, HeldOk x
def SpanD (d : D) : Prop := ∃ s, d = dspan s ∧ SpK s
def SpreadD (k : Nat) (d : D) : Prop := ∃ ss : List (Rat × Rat), d = .tup (ss.map dspan) ∧ ss.length = k ∧ ∀ s ∈ ss, SpK s
def KeptD (z m : Nat) (d : D) : Prop := ∃ p, d = dkept p ∧ KeptOk z m p
section
variable {n t : Nat} {S : Sto} {c : Cell}
theorem span_spec (hc : S[n]? = some c) (hw : WOk t c) (ht : t < 2 ^ 98) : Ok (m__law_span [.r n] S) (Dw n S (t + 2) SpanD) := by
  unfold m__law_span
  refine ok_fn ?_
  unfold b__law_span
  simp [szL]
  refine (of_spec hc hw (by omega) (by simp) (by simp)).mono ?_
  rintro _ _ ⟨l0, c1, rfl, hl0, rfl, w1⟩
  obtain ⟨lo, rfl, ql, l1, l2⟩ : ∃ q, l0 = dq q ∧ qb 4 q ∧ -2 ≤ q ∧ q ≤ 1 := fr_litR (by decide +kernel) (by decide +kernel) hl0
  simp [szL]
  refine (of_spec (set_at hc c1) w1 (by omega) (by simp) (by simp)).mono ?_
  rintro _ _ ⟨a0, c2, rfl, ha0, rfl, w2⟩
  obtain ⟨ad, rfl, qa, a1, a2⟩ : ∃ q, a0 = dq q ∧ qb 3 q ∧ 0 ≤ q ∧ q ≤ 4 := fr_litR (by decide +kernel) (by decide +kernel) ha0
  simp [plus_eq _ ql qa (by omega), szL, take_set, List.set_set]
  exact ⟨_, c2, rfl, ⟨(lo, lo + ad), rfl, ⟨ql, qb_add ql qa, l1, by show lo + ad ≤ 5; grind⟩⟩, rfl, w2⟩
theorem spread_spec {k : Nat} (hc : S[n]? = some c) (hw : WOk t c) (ht : t < 2 ^ 97) (hk : k ≤ 100) : Ok (m__law_spread [.r n, .d (.int k)] S) (Dw n S (t + 2 * k) (SpreadD k)) := by
  have hn := lt_of hc
  have sm : smallI (k : Int) = true := by unfold smallI; simp; omega
  unfold m__law_spread
  refine ok_fn ?_
  unfold b__law_spread
  rw [dSeq_eq, asg_cell]
  simp [sm]
  obtain ⟨I, hI⟩ : ∃ I : Nat → Dn.Env → Sto → Prop, ∀ j env S', I j env S' ↔ ∃ (ss : List (Rat × Rat)) (c' : Cell) (e3 : Option Val), env = [some (.r n), some (.d (.int k)), some (.r S.length), e3] ∧ S' = S.set n c' ++ [.lst (ss.map dspan)] ∧ ss.length = j ∧ (∀ s ∈ ss, SpK s) ∧ WOk (t + 2 * j) c' := ⟨_, fun _ _ _ => Iff.rfl⟩
  refine ok_loop (I := I) ((hI 0 _ _).mpr ⟨[], c, _, rfl, by rw [set_same hc]; rfl, rfl, by simp, hw⟩) (fun _ _ _ _ => wtOk_nil _) ?_ ?_
  · rintro j d env S' ed h
    obtain ⟨ss, c', e3, rfl, rfl, hj, hs, w⟩ := (hI _ _ _).mp h
    have hjk : j < k := by simpa [rngD] using (List.getElem?_eq_some_iff.mp ed).1
    simp [x_at0]
    refine (span_spec (x_get hn) w (by omega)).mono ?_
    rintro _ _ ⟨x, c2, rfl, ⟨s, rfl, hs2⟩, rfl, w2⟩
    have hz2 : ss.length < 16777216 := by omega
    simp [x_set hn, x_at0, x_put0, szL, hz2]
    refine (hI (j + 1) _ _).mpr ⟨ss ++ [s], c2, _, rfl, by simp, by simp [hj], ?_, w2.mono (by omega)⟩
    intro y hy
    rcases List.mem_append.mp hy with hy | hy
    · exact hs y hy
    · rw [List.mem_singleton.mp hy]; exact hs2
  · rintro env S' h
    obtain ⟨ss, c', e3, rfl, rfl, hj, hs, w⟩ := (hI _ _ _).mp h
    simp [rngD] at hj w
    simp [x_at0, x_take]
    exact ⟨_, c', rfl, ⟨ss, rfl, hj, hs⟩, rfl, w⟩
theorem kept_spec {z m : Nat} {F : List D} (hF : ∀ d ∈ F, ∃ q, d = dq q ∧ qb 4 q ∧ -(1 / 2) ≤ q ∧ q ≤ 1 / 2) (hF0 : F ≠ []) (hFl : F.length < 1000) (hc : S[n]? = some c) (hw : WOk t c) (ht : t < 2 ^ 96) (hz : z ≤ 10) (hm : m ≤ 10) :
    Ok (m__law_kept [.r n, .d (.int z), .d (.int m), .d (.tup F)] S) (Dw n S (t + 3 * z + 3 * z + 2 * m) (KeptD z m)) := by
  have hn := lt_of hc
  have smz : smallI (z : Int) = true := by unfold smallI; simp; omega
  unfold m__law_kept
  refine ok_fn ?_
  unfold b__law_kept
  rw [dSeq_eq, asg_cell]
  simp [-dFor_eq]
  rw [dFor_eq, ok_bind]
  simp [smz]
  obtain ⟨I, hI⟩ : ∃ I : Nat → Dn.Env → Sto → Prop, ∀ j env S', I j env S' ↔ ∃ (ps : List Kp) (c' : Cell) (e5 e7 e8 : Option Val), env = [some (.r n), some (.d (.int z)), some (.d (.int m)), some (.d (.tup F)), some (.r S.length), e5, none, e7, e8] ∧ S' = S.set n c' ++ [.lst (ps.map dpart)] ∧ ps.length = j ∧ (∀ s ∈ ps, KpOk s) ∧ WOk (t + 3 * j) c' := ⟨_, fun _ _ _ => Iff.rfl⟩
  refine ok_loop (I := I) ((hI 0 _ _).mpr ⟨[], c, _, _, _, rfl, by rw [set_same hc]; rfl, rfl, by simp, hw⟩) (fun _ _ _ _ => wtOk_nil _) ?_ ?_
  · rintro j d env S' ed h
    obtain ⟨ps, c', e5, e7, e8, rfl, rfl, hj, hs, w⟩ := (hI _ _ _).mp h
    have hjk : j < z := by simpa [rngD] using (List.getElem?_eq_some_iff.mp ed).1
    simp [-dIf_eq]
    refine (of_spec (x_get hn) w (by omega) hF0 (by omega)).mono ?_
    rintro _ _ ⟨x, c2, rfl, hx, rfl, w2⟩
    obtain ⟨a, rfl, qa, a0, a1⟩ := hF x hx
    simp [-dIf_eq, x_set hn]
    obtain ⟨Q, hQ⟩ : ∃ Q : Val → Sto → Prop, ∀ x S2, Q x S2 ↔ ∃ b c', x = .d (dq b) ∧ S2 = S.set n c' ++ [.lst (ps.map dpart)] ∧ qb 4 b ∧ -1 ≤ b ∧ b ≤ 1 ∧ WOk (t + 3 * j + 2) c' := ⟨_, fun _ _ => Iff.rfl⟩
    refine Ok.mono (Q := Q) ?_ ?_
    · simp
      by_cases q : 0 < m
      · simp [q, szL]
        refine (of_spec (x_get hn) w2 (by omega) (by simp) (by simp)).mono ?_
        rintro _ _ ⟨y, c3, rfl, hy, rfl, w3⟩
        obtain ⟨b, rfl, qb1, b0, b1⟩ : ∃ q, y = dq q ∧ qb 4 q ∧ -1 ≤ q ∧ q ≤ 1 := fr_litR (by decide +kernel) (by decide +kernel) hy
        exact (hQ _ _).mpr ⟨b, c3, rfl, by rw [x_set hn], qb1, b0, b1, w3⟩
      · simp [q, szL]
        exact (hQ _ _).mpr ⟨0, c2, by simp [dq], rfl, qb_mono qb_zero (by decide), by decide, by decide, w2.mono (by omega)⟩
    · rintro x S2 h
      obtain ⟨b, c3, rfl, rfl, qb1, b0, b1, w3⟩ := (hQ _ _).mp h
      simp [szL, x_at0]
      refine (of_spec (x_get hn) w3 (by omega) (by simp) (by simp)).mono ?_
      rintro _ _ ⟨y, c4, rfl, hy, rfl, w4⟩
      obtain ⟨cc, rfl, qc, d0, d1⟩ : ∃ q, y = dq q ∧ qb 4 q ∧ -3 ≤ q ∧ q ≤ 3 := fr_litR (by decide +kernel) (by decide +kernel) hy
      have hz2 : ps.length < 16777216 := by omega
      simp [x_set hn, x_at0, x_put0, szL, hz2]
      refine (hI (j + 1) _ _).mpr ⟨ps ++ [⟨a, b, cc⟩], c4, _, _, _, rfl, by simp [dpart], by simp [hj], ?_, w4.mono (by omega)⟩
      intro y hy
      rcases List.mem_append.mp hy with hy | hy
      · exact hs y hy
      · rw [List.mem_singleton.mp hy]; exact ⟨qa, qb1, qc, a0, a1, b0, b1, d0, d1⟩
  · rintro env S' h
    obtain ⟨ps, c1, e5, e7, e8, rfl, rfl, hj, hs, w⟩ := (hI _ _ _).mp h
    simp [rngD] at hj w
    rw [cont_nx, dSeq_eq, asg_cell]
    have el : (S.set n c1 ++ [Cell.lst (ps.map dpart)]).length = S.length + 1 := by simp
    simp [-dFor_eq, el]
    rw [dFor_eq, ok_bind]
    simp [smz]
    obtain ⟨J, hJ⟩ : ∃ I : Nat → Dn.Env → Sto → Prop, ∀ j env S', I j env S' ↔ ∃ (hs : List (Option (Rat × Rat))) (c' : Cell) (e5 : Option Val), env = [some (.r n), some (.d (.int z)), some (.d (.int m)), some (.d (.tup F)), some (.r S.length), e5, some (.r (S.length + 1)), e7, e8] ∧ S' = S.set n c' ++ [.lst (ps.map dpart), .lst (hs.map dheld)] ∧ hs.length = j ∧ (∀ s ∈ hs, HeldOk s) ∧ WOk (t + 3 * z + 3 * j) c' := ⟨_, fun _ _ _ => Iff.rfl⟩
    refine ok_loop (I := J) ((hJ 0 _ _).mpr ⟨[], c1, _, rfl, by simp, rfl, by simp, w⟩) (fun _ _ _ _ => wtOk_nil _) ?_ ?_
    · rintro j d env S' ed h
      obtain ⟨hh, c', e5, rfl, rfl, hj2, hs2, w2⟩ := (hJ _ _ _).mp h
      have hjk : j < z := by simpa [rngD] using (List.getElem?_eq_some_iff.mp ed).1
      have hz2 : hh.length < 16777216 := by omega
      simp [-dIf_eq, x_at]
      obtain ⟨Q2, hQ2⟩ : ∃ Q : Val → Sto → Prop, ∀ x S2, Q x S2 ↔ ∃ o c3, x = .d (dheld o) ∧ S2 = S.set n c3 ++ [.lst (ps.map dpart), .lst (hh.map dheld)] ∧ HeldOk o ∧ WOk (t + 3 * z + 3 * j + 3) c3 := ⟨_, fun _ _ => Iff.rfl⟩
      refine Ok.mono (Q := Q2) ?_ ?_
      · simp
        refine (draw_spec (x_get hn) w2 (by omega) (by decide) (by decide)).mono ?_
        rintro _ _ ⟨y, c3, rfl, y0, y1, rfl, w3⟩
        simp [x_set hn]
        by_cases q : y = 0
        · simp [q]
          refine (span_spec (x_get hn) w3 (by omega)).mono ?_
          rintro _ _ ⟨x, c4, rfl, ⟨s, rfl, hs3⟩, rfl, w4⟩
          exact (hQ2 _ _).mpr ⟨some s, c4, rfl, by rw [x_set hn], fun s' e => by cases e; exact hs3, w4⟩
        · simp [q]
          exact (hQ2 _ _).mpr ⟨none, c3, rfl, rfl, fun s' e => (by cases e), w3.mono (by omega)⟩
      · rintro x S2 h
        obtain ⟨o, c3, rfl, rfl, ho, w3⟩ := (hQ2 _ _).mp h
        simp [x_at, x_put, szL, hz2]
        refine (hJ (j + 1) _ _).mpr ⟨hh ++ [o], c3, _, rfl, by simp, by simp [hj2], ?_, w3.mono (by omega)⟩
        intro y hy
        rcases List.mem_append.mp hy with hy | hy
        · exact hs2 y hy
        · rw [List.mem_singleton.mp hy]; exact ho
    · rintro env S' h
      obtain ⟨hh, c2, e5, rfl, rfl, hj2, hs2, w2⟩ := (hJ _ _ _).mp h
      simp [rngD] at hj2 w2
      simp [x_at0]
      refine (spread_spec (x_get hn) w2 (by omega) (by omega)).mono ?_
      rintro _ _ ⟨x, c3, rfl, ⟨ss, rfl, hl, hs3⟩, rfl, w3⟩
      simp [x_set hn, x_at, szL, x_take]
      exact ⟨_, c3, rfl, ⟨⟨ps, ss, hh⟩, rfl, ⟨hj, hs, hl, hs3, hj2, hs2⟩⟩, rfl, w3.mono (by omega)⟩
end
end Law
set_option Elab.async false
set_option linter.all false
set_option maxRecDepth 100000
set_option maxHeartbeats 8000000
namespace Law
open PySem PySem.Spec PyProof.Rows L2 GxR Gx Dn
def unitA (w k : Nat) (b : Rat) : List Rat := (List.range' 0 w).map fun j => if j = k then b else 0
theorem unitQ_A (w k : Nat) (s : Int) : unitQ w k s = unitA w k (s : Rat) := rfl
theorem unitA_len (w k : Nat) (b : Rat) : (unitA w k b).length = w := by simp [unitA]
theorem l_unit_eq {w k : Nat} {b : Rat} (S : Sto) (hw : w ≤ 100) : m__law_unit [.d (.int w), .d (.int k), .d (dq b)] S = .ok (.d (drow (unitA w k b))) S := by
  refine ok_eq ?_
  unfold m__law_unit
  refine ok_fn ?_
  unfold b__law_unit
  have sm : smallI (w : Int) = true := by unfold smallI; simp; omega
  let f : D → D := fun d => match d with
    | .int j => if j = k then dq b else .tup [.int 0, .int 1]
    | _ => .non
  simp
  refine ok_lc (ds := rngD 0 w) (f := f) (by simp [sm]) (by simp [rngD, szL]; omega) (fun d hd c => ?_) ?_
  · obtain ⟨j, rfl, _⟩ := rng_mem hd
    simp [wipeE]
    by_cases q : j = k
    · simp [q, f]
    · simp [q, f, szL]
  · have e : (rngD 0 w).map f = (unitA w k b).map dq := by
      simp only [rngD, unitA, List.map_map, ← List.range_eq_range']
      apply List.map_congr_left
      intro j hj
      simp only [Function.comp_apply, f]
      by_cases q : j = k
      · simp [q]
      · have : ¬ ((j : Int) = (k : Int)) := by omega
        simp [q, this, dq_zero]
    rw [e]
    simp [drow]
theorem sides_eq {w k : Nat} {s : Rat × Rat} (S : Sto) (hw : w ≤ 100) : m__law_sides [.d (.int w), .d (.int k), .d (dspan s)] S = .ok (.d (.tup [dwish (unitQ w k 1, s.2), dwish (unitQ w k (-1), -s.1)])) S := by
  refine ok_eq ?_
  unfold m__law_sides
  refine ok_fn ?_
  unfold b__law_sides
  have e1 := l_unit_eq (k := k) (b := 1) S hw
  have e2 := l_unit_eq (k := k) (b := -1) S hw
  have d1 : dq (1 : Rat) = .tup [.int 1, .int 1] := dq_int 1
  have d2 : dq (-1 : Rat) = .tup [.int (-1), .int 1] := dq_int (-1)
  rw [d1] at e1
  rw [d2] at e2
  have u1 : unitQ w k 1 = unitA w k 1 := rfl
  have u2 : unitQ w k (-1) = unitA w k (-1) := rfl
  have i0 : ∀ T, oIx (.d (dspan s)) (.d (.int 0)) T = .ok (.d (dq s.1)) T := fun T => by simp [dspan]
  have i1 : ∀ T, oIx (.d (dspan s)) (.d (.int 1)) T = .ok (.d (dq s.2)) T := fun T => by simp [dspan]
  have j0 : ∀ (q : Rat) T, oIx (.d (dq q)) (.d (.int 0)) T = .ok (.d (.int q.num)) T := fun q T => by simp [dq]
  have j1 : ∀ (q : Rat) T, oIx (.d (dq q)) (.d (.int 1)) T = .ok (.d (.int (q.den : Int))) T := fun q T => by simp [dq]
  simp [i0, i1, j0, j1, szL, e1, e2, dwish, u1, u2]
  simp [dq]
def heldW (w : Nat) : Nat → List (Option (Rat × Rat)) → List Wish
  | _, [] => []
  | i, none :: r => heldW w (i + 1) r
  | i, some s :: r => (unitQ w i 1, s.2) :: (unitQ w i (-1), -s.1) :: heldW w (i + 1) r
def heldOne (w i : Nat) (o : Option (Rat × Rat)) : List Wish := match o with
  | none => []
  | some s => [(unitQ w i 1, s.2), (unitQ w i (-1), -s.1)]
theorem heldW_snoc {w : Nat} {o : Option (Rat × Rat)} : ∀ (a : List (Option (Rat × Rat))) (i : Nat), heldW w i (a ++ [o]) = heldW w i a ++ heldOne w (i + a.length) o
  | [], i => by cases o <;> simp [heldW, heldOne]
  | b :: a, i => by
    have e : i + 1 + a.length = i + (a.length + 1) := by omega
    cases b <;> simp only [List.cons_append, heldW, heldW_snoc a (i + 1), List.length_cons, e]
theorem heldW_len {w : Nat} : ∀ (a : List (Option (Rat × Rat))) (i : Nat), (heldW w i a).length ≤ 2 * a.length
  | [], _ => by simp [heldW]
  | none :: a, i => by have := heldW_len (w := w) a (i + 1); simp only [heldW, List.length_cons]; omega
  | some s :: a, i => by have := heldW_len (w := w) a (i + 1); simp only [heldW, List.length_cons]; omega
def moveR (z m w k : Nat) (p : Kp) : List Rat := if 0 < m then (unitA w k p.a).set (z + k) p.b else unitA w k p.a
def mvW (z m : Nat) (parts : List Kp) : List Wish := (List.range parts.length).map fun k => (moveR z m (z + m) k (parts.getD k ⟨0, 0, 0⟩), (parts.getD k ⟨0, 0, 0⟩).c)
def caseC (z m : Nat) (p : Kept) (a b : Nat) : Cs := ⟨a, boxW (z + m) z p.spans ++ heldW (z + m) 0 p.held, mvW z m p.parts, b⟩
theorem mvW_len {z m : Nat} {parts : List Kp} : (mvW z m parts).length = parts.length := by simp [mvW]
theorem mvW_at {z m k : Nat} {parts : List Kp} {p : Kp} (h : parts[k]? = some p) : (mvW z m parts)[k]? = some (moveR z m (z + m) k p, p.c) := by
  have hk := (List.getElem?_eq_some_iff.mp h).1
  have e : parts.getD k ⟨0, 0, 0⟩ = p := by simp [List.getD_eq_getElem?_getD, h]
  have hr : (List.range parts.length)[k]? = some k := by simp [hk]
  simp only [mvW, List.getElem?_map, hr, Option.map_some, e]
theorem c_atT {T : Sto} (c : Cell) : (T ++ [c])[T.length]? = some c := by simp
@[simp] theorem bListC_tup (ds : List D) (S : Sto) : bListC (.d (.tup ds)) S = .ok (.r S.length) (S ++ [.lst ds]) := (rfl)
theorem row_set {xs : List Rat} {i : Nat} {b : Rat} : (xs.map dq).set i (dq b) = (xs.set i b).map dq := by rw [List.map_set]
theorem case_eq {z m a b : Nat} {p : Kept} (S : Sto) (h : KeptOk z m p) (hz : z ≤ 4) (hm : m = 0 ∨ m = z) :
    m__law_case [.d (dkept p), .d (.int z), .d (.int m), .d (.int a), .d (.int b)] S = .ok (.d (dcase (z + m) (caseC z m p a b))) S := by
  have smm : smallI (m : Int) = true := by unfold smallI; simp; omega
  have smz : smallI (z : Int) = true := by unfold smallI; simp; omega
  refine ok_eq ?_
  unfold m__law_case
  refine ok_fn ?_
  unfold b__law_case
  have wz : (z : Int) + (m : Int) = ((z + m : Nat) : Int) := by omega
  rw [dSeq_eq, ok_bind]
  obtain ⟨Q0, hQ0⟩ : ∃ Q : Dn.Fl → Sto → Prop, ∀ fl S2, Q fl S2 ↔ fl = .nx [some (.d (dkept p)), some (.d (.int z)), some (.d (.int m)), some (.d (.int a)), some (.d (.int b)), none, some (.d (.tup (p.parts.map dpart))), some (.d (.tup (p.spans.map dspan))), some (.d (.tup (p.held.map dheld))), none, none, none] ∧ S2 = S := ⟨_, fun _ _ => Iff.rfl⟩
  refine Ok.mono (Q := Q0) ?_ ?_
  · simp [dkept]
    exact (hQ0 _ _).mpr ⟨rfl, rfl⟩
  rintro fl S2 hh
  obtain ⟨rfl, rfl⟩ := (hQ0 _ _).mp hh
  simp only [cont_nx]
  rw [dSeq_eq, ok_bind]
  obtain ⟨Q1, hQ1⟩ : ∃ Q : Dn.Fl → Sto → Prop, ∀ fl S3, Q fl S3 ↔ fl = .nx [some (.d (dkept p)), some (.d (.int z)), some (.d (.int m)), some (.d (.int a)), some (.d (.int b)), none, some (.d (.tup (p.parts.map dpart))), some (.d (.tup (p.spans.map dspan))), some (.d (.tup (p.held.map dheld))), some (.d (.tup [])), some (.r S2.length), none] ∧ S3 = S2 ++ [.lst []] := ⟨_, fun _ _ => Iff.rfl⟩
  refine Ok.mono (Q := Q1) ?_ ?_
  · simp [cell_nil, szL]
    exact (hQ1 _ _).mpr ⟨rfl, rfl⟩
  rintro fl S3 hh
  obtain ⟨rfl, rfl⟩ := (hQ1 _ _).mp hh
  simp only [cont_nx]
  rw [dSeq_eq, ok_bind]
  obtain ⟨Q2, hQ2⟩ : ∃ Q : Dn.Fl → Sto → Prop, ∀ fl S3, Q fl S3 ↔ ∃ e5, fl = .nx [some (.d (dkept p)), some (.d (.int z)), some (.d (.int m)), some (.d (.int a)), some (.d (.int b)), e5, some (.d (.tup (p.parts.map dpart))), some (.d (.tup (p.spans.map dspan))), some (.d (.tup (p.held.map dheld))), some (.d (.tup ((boxW (z + m) z p.spans).map dwish))), some (.r S2.length), none] ∧ S3 = S2 ++ [.lst []] := ⟨_, fun _ _ => Iff.rfl⟩
  refine Ok.mono (Q := Q2) ?_ ?_
  · rw [dFor_eq, ok_bind]
    simp [smm]
    obtain ⟨I, hI⟩ : ∃ I : Nat → Dn.Env → Sto → Prop, ∀ j env S', I j env S' ↔ ∃ e5, env = [some (.d (dkept p)), some (.d (.int z)), some (.d (.int m)), some (.d (.int a)), some (.d (.int b)), e5, some (.d (.tup (p.parts.map dpart))), some (.d (.tup (p.spans.map dspan))), some (.d (.tup (p.held.map dheld))), some (.d (.tup ((boxW (z + m) z (p.spans.take j)).map dwish))), some (.r S2.length), none] ∧ S' = S2 ++ [.lst []] := ⟨_, fun _ _ _ => Iff.rfl⟩
    refine ok_loop (I := I) ((hI 0 _ _).mpr ⟨none, by simp [boxW], rfl⟩) (fun _ _ _ _ => wtOk_nil _) ?_ ?_
    · rintro j d env S' ed hh
      obtain ⟨e5, rfl, rfl⟩ := (hI _ _ _).mp hh
      obtain ⟨hj, rfl⟩ := rng_at ed
      have hj2 : j < p.spans.length := by rw [h.sl]; exact hj
      have es : p.spans[j]? = some p.spans[j] := List.getElem?_eq_getElem hj2
      have a0 : atI (p.spans.map dspan) (j : Int) = some (dspan p.spans[j]) := by rw [atI_cast]; simp [hj2]
      have sd := fun T => sides_eq (w := z + m) (k := z + j) (s := p.spans[j]) T (by omega)
      have zj : (z : Int) + (j : Int) = ((z + j : Nat) : Int) := by omega
      have lt : (boxW (z + m) z (p.spans.take j)).length + 2 ≤ 16777216 := by
        rw [boxW_len]; simp; omega
      rw [Int.natCast_add] at sd
      rw [Int.natCast_add] at sd
      simp [a0, sd, szL, lt]
      refine (hI (j + 1) _ _).mpr ⟨some (.d (.int (j : Int))), ?_, rfl⟩
      rw [List.take_add_one, es]
      simp only [Option.toList_some, boxW_snoc, List.map_append, List.map_cons, List.map_nil]
      rw [List.length_take, Nat.min_eq_left (by omega)]
    · rintro env S' hh
      obtain ⟨e5, rfl, rfl⟩ := (hI _ _ _).mp hh
      exact (hQ2 _ _).mpr ⟨_, by rw [rng_len, List.take_of_length_le (by rw [h.sl]; omega)], rfl⟩
  rintro fl S3 hh
  obtain ⟨e5, rfl, rfl⟩ := (hQ2 _ _).mp hh
  simp only [cont_nx]
  rw [dSeq_eq, ok_bind]
  obtain ⟨Q3, hQ3⟩ : ∃ Q : Dn.Fl → Sto → Prop, ∀ fl S3, Q fl S3 ↔ ∃ e5 e11 G, fl = .nx [some (.d (dkept p)), some (.d (.int z)), some (.d (.int m)), some (.d (.int a)), some (.d (.int b)), e5, some (.d (.tup (p.parts.map dpart))), some (.d (.tup (p.spans.map dspan))), some (.d (.tup (p.held.map dheld))), some (.d (.tup ((boxW (z + m) z p.spans ++ heldW (z + m) 0 p.held).map dwish))), some (.r S2.length), e11] ∧ S3 = S2 ++ (.lst ((mvW z m p.parts).map dwish) :: G) := ⟨_, fun _ _ => Iff.rfl⟩
  refine Ok.mono (Q := Q3) ?_ ?_
  · rw [dFor_eq, ok_bind]
    simp [smz]
    obtain ⟨I, hI⟩ : ∃ I : Nat → Dn.Env → Sto → Prop, ∀ j env S', I j env S' ↔ ∃ e5 e11 G, env = [some (.d (dkept p)), some (.d (.int z)), some (.d (.int m)), some (.d (.int a)), some (.d (.int b)), e5, some (.d (.tup (p.parts.map dpart))), some (.d (.tup (p.spans.map dspan))), some (.d (.tup (p.held.map dheld))), some (.d (.tup ((boxW (z + m) z p.spans ++ heldW (z + m) 0 (p.held.take j)).map dwish))), some (.r S2.length), e11] ∧ S' = S2 ++ (.lst (((mvW z m p.parts).take j).map dwish) :: G) := ⟨_, fun _ _ _ => Iff.rfl⟩
    refine ok_loop (I := I) ((hI 0 _ _).mpr ⟨e5, none, [], by simp [heldW], by simp⟩) (fun _ _ _ _ => wtOk_nil _) ?_ ?_
    · rintro j d env S' ed hh
      obtain ⟨e5, e11, G, rfl, rfl⟩ := (hI _ _ _).mp hh
      obtain ⟨hj, rfl⟩ := rng_at ed
      have hj1 : j < p.held.length := by rw [h.hl]; exact hj
      have hj2 : j < p.parts.length := by rw [h.pl]; exact hj
      have eh : p.held[j]? = some p.held[j] := List.getElem?_eq_getElem hj1
      have ep : p.parts[j]? = some p.parts[j] := List.getElem?_eq_getElem hj2
      generalize p.held[j] = o at eh
      generalize p.parts[j] = q at ep
      have a0 : atI (p.held.map dheld) (j : Int) = some (dheld o) := by rw [atI_cast]; simp [eh]
      have a1 : atI (p.parts.map dpart) (j : Int) = some (dpart q) := by rw [atI_cast]; simp [ep]
      have l2 : (boxW (z + m) z p.spans).length + (heldW (z + m) 0 (p.held.take j)).length + 2 ≤ 16777216 := by
        have := heldW_len (w := z + m) (p.held.take j) 0
        have hs := h.sl
        rw [boxW_len]; simp at this; omega
      have sd : ∀ s T, m__law_sides [.d (.int ((z : Int) + (m : Int))), .d (.int (j : Int)), .d (dspan s)] T = .ok (.d (.tup [dwish (unitQ (z + m) j 1, s.2), dwish (unitQ (z + m) j (-1), -s.1)])) T := fun s T => by
        have := sides_eq (w := z + m) (k := j) (s := s) T (by omega)
        rw [Int.natCast_add] at this
        exact this
      have un : ∀ r T, m__law_unit [.d (.int ((z : Int) + (m : Int))), .d (.int (j : Int)), .d (dq r)] T = .ok (.d (drow (unitA (z + m) j r))) T := fun r T => by
        have := l_unit_eq (w := z + m) (k := j) (b := r) T (by omega)
        rw [Int.natCast_add] at this
        exact this
      have q0 : ∀ T, oIx (.d (dpart q)) (.d (.int 0)) T = .ok (.d (dq q.a)) T := fun T => by simp [dpart]
      have q1 : ∀ T, oIx (.d (dpart q)) (.d (.int 1)) T = .ok (.d (dq q.b)) T := fun T => by simp [dpart]
      have q2 : ∀ T, oIx (.d (dpart q)) (.d (.int 2)) T = .ok (.d (dq q.c)) T := fun T => by simp [dpart]
      obtain ⟨M, hM⟩ : ∃ M, M = ((mvW z m p.parts).take j).map dwish := ⟨_, rfl⟩
      rw [← hM]
      simp [-dIfS_eq]
      obtain ⟨Q4, hQ4⟩ : ∃ Q : Dn.Fl → Sto → Prop, ∀ fl S3, Q fl S3 ↔ fl = .nx [some (.d (dkept p)), some (.d (.int z)), some (.d (.int m)), some (.d (.int a)), some (.d (.int b)), some (.d (.int (j : Int))), some (.d (.tup (p.parts.map dpart))), some (.d (.tup (p.spans.map dspan))), some (.d (.tup (p.held.map dheld))), some (.d (.tup ((boxW (z + m) z p.spans ++ heldW (z + m) 0 (p.held.take (j + 1))).map dwish))), some (.r S2.length), e11] ∧ S3 = S2 ++ (.lst M :: G) := ⟨_, fun _ _ => Iff.rfl⟩
      have tk : heldW (z + m) 0 (p.held.take (j + 1)) = heldW (z + m) 0 (p.held.take j) ++ heldOne (z + m) j o := by
        rw [List.take_add_one, eh, Option.toList_some, heldW_snoc, List.length_take, Nat.min_eq_left (by omega), Nat.zero_add]
      refine Ok.mono (Q := Q4) ?_ ?_
      · cases o with
        | none =>
          simp [a0, dheld, Dn.isNon]
          exact (hQ4 _ _).mpr ⟨by rw [tk]; simp [heldOne], rfl⟩
        | some s =>
          have nn : Dn.isNon (dspan s) = false := rfl
          have l3 : (boxW (z + m) z p.spans).length + ((heldW (z + m) 0 (p.held.take j)).length + 2) ≤ 16777216 := by omega
          simp [a0, dheld, nn, sd, szL, l2, l3]
          exact (hQ4 _ _).mpr ⟨by rw [tk]; simp [heldOne], rfl⟩
      rintro fl S3 hh
      obtain ⟨rfl, rfl⟩ := (hQ4 _ _).mp hh
      obtain ⟨T, hT⟩ : ∃ T, T = S2 ++ (.lst M :: G) := ⟨_, rfl⟩
      have hat : ∀ X : Sto, (T ++ X)[S2.length]? = some (.lst M) := fun X => by rw [hT]; simp
      have hput : ∀ (X : Sto) (e : Cell), (T ++ X).set S2.length e = S2 ++ (e :: (G ++ X)) := fun X e => by rw [hT]; simp
      have mt := take_map (f := dwish) (mvW_at (z := z) (m := m) ep)
      have ml2 : M.length < 16777216 := by
        have hp := h.pl
        rw [hM, List.length_map, List.length_take, mvW_len]; omega
      rw [← hM] at mt
      simp only [cont_nx]
      rw [← hT]
      rcases hm with rfl | rfl
      · have mr : moveR z 0 (z + 0) j q = unitA (z + 0) j q.a := by simp [moveR]
        rw [mr] at mt
        simp at un
        simp [a1, q0, q2, un, drow, szL, hat, hput, ml2]
        refine (hI (j + 1) _ _).mpr ⟨some (.d (.int (j : Int))), some (.r T.length), G ++ [.lst ((unitA z j q.a).map dq)], by simp, ?_⟩
        rw [mt]
        simp [dwish, drow]
      · have m0 : 0 < m := by omega
        have mr : moveR m m (m + m) j q = (unitA (m + m) j q.a).set (m + j) q.b := by simp [moveR, m0]
        rw [mr] at mt
        have m0' : (0 : Int) < (m : Int) := by omega
        have il : m + j < (unitA (m + m) j q.a).length := by rw [unitA_len]; omega
        have g1 : (0 : Int) ≤ (m : Int) + (j : Int) := by omega
        have g2 : (m : Int) + (j : Int) < ((unitA (m + m) j q.a).length : Int) := by omega
        have g3 : ((m : Int) + (j : Int)).toNat = m + j := by omega
        simp [a1, q0, q1, q2, un, drow, szL, m0, hat, hput, ml2, ixN, g1, g2, g3, il]
        refine (hI (j + 1) _ _).mpr ⟨some (.d (.int (j : Int))), some (.r T.length), G ++ [.lst (((unitA (m + m) j q.a).map dq).set (m + j) (dq q.b))], by simp, ?_⟩
        rw [mt]
        simp [dwish, drow]
    · rintro env S' hh
      obtain ⟨e5, e11, G, rfl, rfl⟩ := (hI _ _ _).mp hh
      refine (hQ3 _ _).mpr ⟨_, _, G, by rw [rng_len, List.take_of_length_le (by rw [h.hl]; omega)], by rw [rng_len, List.take_of_length_le (by rw [mvW_len, h.pl]; omega)]⟩
  rintro fl S3 hh
  obtain ⟨e5, e11, G, rfl, rfl⟩ := (hQ3 _ _).mp hh
  have c0 : (S2 ++ Cell.lst ((mvW z m p.parts).map dwish) :: G)[S2.length]? = some (.lst ((mvW z m p.parts).map dwish)) := by simp
  simp [szL, c0]
  simp [dcase, caseC, dlot]
end Law
set_option Elab.async false
set_option linter.all false
set_option maxRecDepth 100000
set_option maxHeartbeats 8000000
namespace Law
open PySem PySem.Spec PyProof.Rows L2 GxR Gx Dn
/-- a comprehension over a place that stays -/
theorem ok_lcW {α : Type} {it : DIf} {g : DGf} {te : DEf} {vs : List Nat} {env : Dn.Env} {S : Sto} {e : α → D} {ws : List α} {f : α → D} {wt : List (Nat × List D)} {Q : Val → Sto → Prop} (hi : it env S = .ok ⟨ws.map e, wt⟩ S) (hwt : ∀ c, wtOk wt (S ++ [c])) (hl : ws.length ≤ szL)
    (hf : ∀ w ∈ ws, ∀ c, Ok (g (.d (e w)) (wipeE env vs) (S ++ [c])) fun env1 S1 => Ok (te env1 S1) fun z S2 => z = .d (f w) ∧ S2 = S ++ [c]) (q : Q (.d (.lst (ws.map f))) S) : Ok (dLc it g dYes te vs env S) Q := by
  have key : ∀ (es : List α) (acc : List D), (∀ d ∈ es, d ∈ ws) → acc.length + es.length ≤ szL → lcLoop g dYes te wt (wipeE env vs) S.length (es.map e) acc (S ++ [.lst acc]) = .ok (acc ++ es.map f) (S ++ [.lst (acc ++ es.map f)]) := by
    intro es
    induction es with
    | nil =>
      intro acc _ _
      simp only [List.map_nil]
      unfold lcLoop
      rw [if_pos ⟨hwt _, by simp⟩]
      simp
    | cons d es ih =>
      intro acc hm hz
      simp only [List.map_cons]
      unfold lcLoop
      rw [if_pos (hwt _)]
      obtain ⟨env1, S1, e1, z, S2, e2, rfl, rfl⟩ := hf d (hm d List.mem_cons_self) (.lst acc)
      rw [e1]
      simp only [Out.bind_ok, dYes, if_true, e2]
      rw [if_pos ⟨by simp at hz; omega, by simp⟩, push_put rfl, ih (acc ++ [f d]) (fun x hx => hm x (List.mem_cons_of_mem _ hx)) (by simp at hz ⊢; omega)]
      simp
  unfold dLc
  rw [hi]
  simp only [Out.bind_ok]
  rw [key ws [] (fun _ h => h) (by simpa using hl)]
  simp only [Out.bind_ok, List.nil_append]
  rw [push_take rfl]
  exact ok_ok.mpr q
structure SafeW (z : Nat) (w : Wish) : Prop where
  l : w.1.length = z
  q : ∀ q ∈ w.1, qb 6 q
  b : qb 12 w.2
  le : asum w.1 (List.replicate z 16) ≤ w.2
structure StOk (z p : Nat) (s : Nat × List (Rat × Rat)) : Prop where
  p : s.1 < p
  l : s.2.length = z
  s : ∀ x ∈ s.2, SpK x
structure PnOk (z m p : Nat) (s : Nat × Kept × Nat) : Prop where
  a : s.1 < p
  k : KeptOk z m s.2.1
  b : s.2.2 < p
def dst0 (s : Nat × List (Rat × Rat)) : D := .tup [.int (s.1 : Nat), .tup (s.2.map dspan)]
def dpn (s : Nat × Kept × Nat) : D := .tup [.int (s.1 : Nat), dkept s.2.1, .int (s.2.2 : Nat)]
structure Pn where
  z : Nat
  m : Nat
  st : List (Nat × List (Rat × Rat))
  pn : List (Nat × Kept × Nat)
  sf : List (List Wish)
def Pn.ch (P : Pn) : Ch := ⟨P.z, P.m, P.st.map fun s => (s.1, boxW P.z 0 s.2), P.pn.map fun s => caseC P.z P.m s.2.1 s.1 s.2.2, P.sf⟩
structure PnsOk (p : Nat) (P : Pn) : Prop where
  z0 : 1 ≤ P.z
  z1 : P.z ≤ 2
  m : P.m = 0 ∨ P.m = P.z
  s0 : 1 ≤ P.st.length
  s1 : P.st.length ≤ 2
  s : ∀ s ∈ P.st, StOk P.z p s
  c0 : 1 ≤ P.pn.length
  c1 : P.pn.length ≤ 3
  c : ∀ s ∈ P.pn, PnOk P.z P.m p s
  f0 : P.sf.length = p
  f1 : ∀ l ∈ P.sf, l.length ≤ 3
  f : ∀ l ∈ P.sf, ∀ w ∈ l, SafeW P.z w
theorem intsOf_map {α : Type} (f : α → Int) : ∀ xs : List α, intsOf (xs.map fun x => D.int (f x)) = some (xs.map f)
  | [] => rfl
  | x :: xs => by simp only [List.map_cons, intsOf, intsOf_map f xs, Option.map_some]
theorem rat_den (q : Rat) : q * (q.den : Rat) = (q.num : Rat) := by
  have h1 : (q.num : Rat) / ((q.den : Int) : Rat) = q := by rw [← Rat.divInt_eq_div]; exact Rat.num_divInt_den q
  have h2 : ((q.den : Int) : Rat) = (q.den : Rat) := rfl
  have h : (q.den : Rat) ≠ 0 := by
    have := q.den_nz
    intro z
    exact this (by exact_mod_cast z)
  rw [h2] at h1
  have := Rat.div_mul_cancel h (a := (q.num : Rat))
  rw [h1] at this
  exact this
/-- twelve times a fraction whose denominator divides 12, and 1 -/
def tw (q : Rat) : Int := (q.num.natAbs : Int) * 12 / (q.den : Int) + 1
theorem tw_ab {q : Rat} (h : (q.den : Int) ∣ 12) : 12 * ab q + 1 = (tw q : Rat) := by
  obtain ⟨k, hk⟩ := h
  have hd := den0 q
  have e : (q.num.natAbs : Int) * 12 / (q.den : Int) = (q.num.natAbs : Int) * k := by
    rw [hk, ← Int.mul_assoc, Int.mul_comm _ (q.den : Int), Int.mul_assoc, Int.mul_ediv_cancel_left _ (by omega)]
  have hq : q * (q.den : Rat) = (q.num : Rat) := rat_den q
  have hk2 : (12 : Rat) = (q.den : Rat) * (k : Rat) := by
    have : ((12 : Int) : Rat) = (((q.den : Int) * k : Int) : Rat) := by rw [hk]
    push_cast at this
    exact this
  unfold tw ab
  rw [e]
  push_cast
  by_cases s : q < 0
  · have sn : q.num < 0 := (num_lt q).mpr s
    have en : ((q.num.natAbs : Int) : Rat) = -(q.num : Rat) := by
      have : (q.num.natAbs : Int) = -q.num := by omega
      rw [this]; push_cast; rfl
    rw [if_pos s]
    have en' : ((q.num.natAbs : Nat) : Rat) = -(q.num : Rat) := by exact_mod_cast en
    rw [en', ← hq]
    grind
  · have sn : ¬ q.num < 0 := fun z => s ((num_lt q).mp z)
    have en : ((q.num.natAbs : Int) : Rat) = (q.num : Rat) := by
      have : (q.num.natAbs : Int) = q.num := by omega
      rw [this]
    rw [if_neg s]
    have en' : ((q.num.natAbs : Nat) : Rat) = (q.num : Rat) := by exact_mod_cast en
    rw [en', ← hq]
    grind
theorem asum_tw : ∀ {qs : List Rat}, (∀ q ∈ qs, (q.den : Int) ∣ 12) → 12 * asum qs (List.replicate qs.length 16) + 16 * (qs.length : Rat) = 16 * (((qs.map tw).sum : Int) : Rat)
  | [], _ => by simp [asum]; grind
  | q :: qs, h => by
    have ih := asum_tw fun x hx => h x (List.mem_cons_of_mem _ hx)
    have e := tw_ab (h q List.mem_cons_self)
    simp only [List.length_cons, List.replicate_succ, asum, List.map_cons, List.sum_cons]
    push_cast
    grind
theorem safe_bound {qs : List Rat} {d : Int} (h : ∀ q ∈ qs, (q.den : Int) ∣ 12) (h1 : 1 ≤ qs.length) (hd : 0 ≤ d) : asum qs (List.replicate qs.length 16) ≤ (((qs.map tw).sum * 16 / 12 + d : Int) : Rat) := by
  have e := asum_tw h
  generalize (qs.map tw).sum = m at e ⊢
  have f : m * 16 ≤ 12 * (m * 16 / 12 + d) + 11 := by omega
  have f2 : ((m * 16 : Int) : Rat) ≤ ((12 * (m * 16 / 12 + d) + 11 : Int) : Rat) := by exact_mod_cast f
  push_cast at f2 ⊢
  have l : (1 : Rat) ≤ (qs.length : Rat) := by exact_mod_cast h1
  grind
end Law
set_option Elab.async false
set_option linter.all false
set_option maxRecDepth 100000
set_option maxHeartbeats 16000000
namespace Law
open PySem PySem.Spec PyProof.Rows L2 GxR Gx Dn
theorem iSeq_at {n : Nat} {ds : List D} {S : Sto} (h : S[n]? = some (.lst ds)) : Dn.iSeq (.r n) S = .ok ⟨ds, [(n, ds)]⟩ S := by
  simp only [Dn.iSeq, seqL, wtV, h]
theorem wt_one {n : Nat} {ds : List D} {S : Sto} (h : S[n]? = some (.lst ds)) (c : Cell) : wtOk [(n, ds)] (S ++ [c]) := by
  intro p hp
  rw [List.mem_singleton.mp hp]
  rw [List.getElem?_append_left (List.getElem?_eq_some_iff.mp h).1]
  exact h
def dsafe (z : Nat) (l : List Wish) : D := dlot z l
theorem bSum_ints {α : Type} (f : α → Int) (xs : List α) (S : Sto) : bSum (.d (.lst (xs.map fun x => D.int (f x)))) S = .ok (.d (.int ((xs.map f).sum))) S := by
  unfold bSum
  simp only [seqL, Option.bind_some, intsOf_map]
theorem rowD_den {z : Nat} {d : D} (h : rowD z d) : ∃ qs : List Rat, d = drow qs ∧ qs.length = z ∧ (∀ q ∈ qs, qb 6 q) ∧ ∀ q ∈ qs, (q.den : Int) ∣ 12 := by
  obtain ⟨ds, rfl, hl, hx⟩ := h
  obtain ⟨qs, rfl, hq⟩ := map_of (P := numD) (e := dq) (R := fun q => qb 6 q ∧ (q.den : Int) ∣ 12) (fun d hd => by
    obtain ⟨a, b, rfl, ha, hb, h0, hg, hv⟩ := hd
    obtain ⟨k, rfl⟩ := Int.eq_ofNat_of_zero_le (Int.le_of_lt h0)
    exact ⟨⟨a, k, by omega, by simpa using hg⟩, rfl, ⟨by simpa using ha, by simpa using hb⟩, hv⟩) (ds := ds) hx
  exact ⟨qs, rfl, by simpa using hl, fun q m => (hq q m).1, fun q m => (hq q m).2⟩
def RowsD (z : Nat) (d : D) : Prop := ∃ qs : List Rat, d = drow qs ∧ qs.length = z ∧ (∀ q ∈ qs, qb 6 q) ∧ ∀ q ∈ qs, (q.den : Int) ∣ 12
def WishSD (z : Nat) (d : D) : Prop := ∃ w : Wish, d = dwish w ∧ SafeW z w
def PlannedD (p : Nat) (d : D) : Prop := ∃ P x y, d = .tup [dch P.ch, x, y] ∧ PnsOk p P
section
variable {n t : Nat} {S : Sto} {c : Cell}
/-- the wishes of one safe place, in a new cell at the end -/
theorem tw_le {q : Rat} (h : qb 6 q) : 0 ≤ tw q ∧ tw q ≤ 800 := by
  have hn := h.n
  have hd := den0 q
  have h1 : (q.num.natAbs : Int) * 12 / (q.den : Int) ≤ (q.num.natAbs : Int) * 12 := Int.ediv_le_self _ (by omega)
  have h0 : 0 ≤ (q.num.natAbs : Int) * 12 / (q.den : Int) := Int.ediv_nonneg (by omega) (by omega)
  have : q.num.natAbs < 64 := by simpa using hn
  unfold tw
  omega
theorem sum_le : ∀ {qs : List Rat}, (∀ q ∈ qs, qb 6 q) → 0 ≤ (qs.map tw).sum ∧ (qs.map tw).sum ≤ 800 * qs.length
  | [], _ => by simp
  | q :: qs, h => by
    have ih := sum_le fun x hx => h x (List.mem_cons_of_mem _ hx)
    have := tw_le (h q List.mem_cons_self)
    simp only [List.map_cons, List.sum_cons, List.length_cons]
    omega
theorem dq_intR (i : Int) : D.tup [.int i, .int 1] = dq (i : Rat) := by simp [dq]
theorem qb_intN {i : Int} {k : Nat} (h : i.natAbs < 2 ^ k) (hk : 0 < k) : qb k (i : Rat) := qb_int h hk
theorem planned_spec {p : Nat} {F : List D} (hF : ∀ d ∈ F, ∃ q, d = dq q ∧ qb 4 q ∧ -(1 / 2) ≤ q ∧ q ≤ 1 / 2) (hF0 : F ≠ []) (hFl : F.length < 1000) (hc : S[n]? = some c) (hw : WOk t c) (ht : t < 2 ^ 95) (hp0 : 1 ≤ p) (hp : p ≤ 3) :
    Ok (m__law_planned [.r n, .d (.tup F), .d (.int p), .d (.int 16)] S) (Dw n S (t + 400) (PlannedD p)) := by
  have hn := lt_of hc
  have smp : smallI (p : Int) = true := by unfold smallI; simp; omega
  unfold m__law_planned
  refine ok_fn ?_
  unfold b__law_planned
  rw [dSeq_eq, ok_bind]
  simp [-dSeq_eq]
  refine (draw_spec hc hw (by omega) (by decide) (by decide)).mono ?_
  rintro _ _ ⟨z0, c1, rfl, z00, z01, rfl, w1⟩
  obtain ⟨z, ez, z1, z2⟩ : ∃ z : Nat, (1 : Int) + z0 = z ∧ 1 ≤ z ∧ z ≤ 2 := ⟨(1 + z0).toNat, by omega, by omega, by omega⟩
  simp [-dSeq_eq, ez]
  rw [dSeq_eq, ok_bind]
  obtain ⟨Q1, hQ1⟩ : ∃ Q : Dn.Fl → Sto → Prop, ∀ fl S2, Q fl S2 ↔ ∃ (m : Nat) (c' : Cell), fl = .nx [some (.r n), some (.d (.tup F)), some (.d (.int p)), some (.d (.int 16)), some (.d (.int (z : Int))), none, none, none, some (.d (.int (m : Int))), some (.r S.length), some (.r (S.length + 1)), some (.r (S.length + 2)), none, none, none, none, none, none, none, none, none, none] ∧ S2 = S.set n c' ++ [.lst [], .lst [], .lst []] ∧ (m = 0 ∨ m = z) ∧ WOk (t + 2) c' := ⟨_, fun _ _ => Iff.rfl⟩
  refine Ok.mono (Q := Q1) ?_ ?_
  · simp
    refine (draw_spec (set_at hc c1) w1 (by omega) (by decide) (by decide)).mono ?_
    rintro _ _ ⟨m0, c2, rfl, m00, m01, rfl, w2⟩
    have cm : cMul (z : Int) m0 = true := cMul_of 4 4 (by decide) (by decide) (by omega) (by omega) (by decide)
    simp [cm, cell_nil, List.set_set]
    have : m0 = 0 ∨ m0 = 1 := by omega
    rcases this with rfl | rfl
    · exact (hQ1 _ _).mpr ⟨0, c2, by simp, by simp, .inl rfl, w2⟩
    · exact (hQ1 _ _).mpr ⟨z, c2, by simp, by simp, .inr rfl, w2⟩
  rintro fl S2 hh
  obtain ⟨m, c2, rfl, rfl, hm, w2⟩ := (hQ1 _ _).mp hh
  have hmz : m ≤ 2 := by rcases hm with rfl | rfl <;> omega
  simp only [cont_nx]
  rw [dSeq_eq, ok_bind]
  -- the starts
  obtain ⟨Q2, hQ2⟩ : ∃ Q : Dn.Fl → Sto → Prop, ∀ fl S2, Q fl S2 ↔ ∃ (A : List (Nat × List (Rat × Rat))) (c' : Cell) (e5 : Option Val), fl = .nx [some (.r n), some (.d (.tup F)), some (.d (.int p)), some (.d (.int 16)), some (.d (.int (z : Int))), e5, none, none, some (.d (.int (m : Int))), some (.r S.length), some (.r (S.length + 1)), some (.r (S.length + 2)), none, none, none, none, none, none, none, none, none, none] ∧ S2 = S.set n c' ++ [.lst (A.map dst0), .lst [], .lst []] ∧ 1 ≤ A.length ∧ A.length ≤ 2 ∧ (∀ s ∈ A, StOk z p s) ∧ WOk (t + 20) c' := ⟨_, fun _ _ => Iff.rfl⟩
  refine Ok.mono (Q := Q2) ?_ ?_
  · rw [dFor_eq, ok_bind]
    simp
    refine (draw_spec (x_get hn) w2 (by omega) (by decide) (by decide)).mono ?_
    rintro _ _ ⟨k0, c3, rfl, k00, k01, rfl, w3⟩
    obtain ⟨k, ek, k1, k2⟩ : ∃ k : Nat, (1 : Int) + k0 = k ∧ 1 ≤ k ∧ k ≤ 2 := ⟨(1 + k0).toNat, by omega, by omega, by omega⟩
    simp [ek, sm_of (i := (k : Int)) (by omega) (by omega), x_set hn]
    obtain ⟨I, hI⟩ : ∃ I : Nat → Dn.Env → Sto → Prop, ∀ j env S2, I j env S2 ↔ ∃ (A : List (Nat × List (Rat × Rat))) (c' : Cell) (e5 : Option Val), env = [some (.r n), some (.d (.tup F)), some (.d (.int p)), some (.d (.int 16)), some (.d (.int (z : Int))), e5, none, none, some (.d (.int (m : Int))), some (.r S.length), some (.r (S.length + 1)), some (.r (S.length + 2)), none, none, none, none, none, none, none, none, none, none] ∧ S2 = S.set n c' ++ [.lst (A.map dst0), .lst [], .lst []] ∧ A.length = j ∧ (∀ s ∈ A, StOk z p s) ∧ WOk (t + 3 + 5 * j) c' := ⟨_, fun _ _ _ => Iff.rfl⟩
    refine ok_loop (I := I) ((hI 0 _ _).mpr ⟨[], c3, none, rfl, rfl, rfl, by simp, w3.mono (by omega)⟩) (fun _ _ _ _ => wtOk_nil _) ?_ ?_
    · rintro j d env S' ed hh
      obtain ⟨A, c', e5, rfl, rfl, hj, hA, w⟩ := (hI _ _ _).mp hh
      have hjk : j < k := by simpa [rngD] using (List.getElem?_eq_some_iff.mp ed).1
      simp [x_at0]
      refine (draw_spec (x_get hn) w (by omega) (by omega) (by omega)).mono ?_
      rintro _ _ ⟨a0, c4, rfl, a00, a01, rfl, w4⟩
      obtain ⟨a, rfl⟩ := Int.eq_ofNat_of_zero_le a00
      simp [x_set hn]
      refine (spread_spec (x_get hn) w4 (by omega) (by omega)).mono ?_
      rintro _ _ ⟨x, c5, rfl, ⟨ss, rfl, hl, hs⟩, rfl, w5⟩
      have hz2 : A.length < 16777216 := by omega
      simp [x_set hn, x_at0, x_put0, szL, hz2]
      refine (hI (j + 1) _ _).mpr ⟨A ++ [(a, ss)], c5, some (.d d), rfl, by simp [dst0], by simp [hj], ?_, w5.mono (by omega)⟩
      intro y hy
      rcases List.mem_append.mp hy with hy | hy
      · exact hA y hy
      · rw [List.mem_singleton.mp hy]; exact ⟨by show a < p; omega, hl, hs⟩
    · rintro env S' hh
      obtain ⟨A, c', e5, rfl, rfl, hj, hA, w⟩ := (hI _ _ _).mp hh
      rw [rng_len] at hj w
      exact (hQ2 _ _).mpr ⟨A, c', e5, rfl, rfl, by omega, by omega, hA, w.mono (by omega)⟩
  rintro fl S2 hh
  obtain ⟨A, c3, e5, rfl, rfl, A0, A1, hA, w3⟩ := (hQ2 _ _).mp hh
  simp only [cont_nx]
  rw [dSeq_eq, ok_bind]
  -- the plans
  obtain ⟨Q3, hQ3⟩ : ∃ Q : Dn.Fl → Sto → Prop, ∀ fl S2, Q fl S2 ↔ ∃ (B : List (Nat × Kept × Nat)) (c' : Cell) (e5 e12 : Option Val), fl = .nx [some (.r n), some (.d (.tup F)), some (.d (.int p)), some (.d (.int 16)), some (.d (.int (z : Int))), e5, none, none, some (.d (.int (m : Int))), some (.r S.length), some (.r (S.length + 1)), some (.r (S.length + 2)), e12, none, none, none, none, none, none, none, none, none] ∧ S2 = S.set n c' ++ [.lst (A.map dst0), .lst (B.map dpn), .lst []] ∧ 1 ≤ B.length ∧ B.length ≤ 3 ∧ (∀ s ∈ B, PnOk z m p s) ∧ WOk (t + 90) c' := ⟨_, fun _ _ => Iff.rfl⟩
  refine Ok.mono (Q := Q3) ?_ ?_
  · rw [dFor_eq, ok_bind]
    simp
    refine (draw_spec (x_get hn) w3 (by omega) (by decide) (by decide)).mono ?_
    rintro _ _ ⟨k0, c4, rfl, k00, k01, rfl, w4⟩
    obtain ⟨k, ek, k1, k2⟩ : ∃ k : Nat, (1 : Int) + k0 = k ∧ 1 ≤ k ∧ k ≤ 3 := ⟨(1 + k0).toNat, by omega, by omega, by omega⟩
    simp [ek, sm_of (i := (k : Int)) (by omega) (by omega), x_set hn]
    obtain ⟨I, hI⟩ : ∃ I : Nat → Dn.Env → Sto → Prop, ∀ j env S2, I j env S2 ↔ ∃ (B : List (Nat × Kept × Nat)) (c' : Cell) (e5 e12 : Option Val), env = [some (.r n), some (.d (.tup F)), some (.d (.int p)), some (.d (.int 16)), some (.d (.int (z : Int))), e5, none, none, some (.d (.int (m : Int))), some (.r S.length), some (.r (S.length + 1)), some (.r (S.length + 2)), e12, none, none, none, none, none, none, none, none, none] ∧ S2 = S.set n c' ++ [.lst (A.map dst0), .lst (B.map dpn), .lst []] ∧ B.length = j ∧ (∀ s ∈ B, PnOk z m p s) ∧ WOk (t + 21 + 20 * j) c' := ⟨_, fun _ _ _ => Iff.rfl⟩
    refine ok_loop (I := I) ((hI 0 _ _).mpr ⟨[], c4, e5, none, rfl, rfl, rfl, by simp, w4.mono (by omega)⟩) (fun _ _ _ _ => wtOk_nil _) ?_ ?_
    · rintro j d env S' ed hh
      obtain ⟨B, c', e5, e12, rfl, rfl, hj, hB, w⟩ := (hI _ _ _).mp hh
      have hjk : j < k := by simpa [rngD] using (List.getElem?_eq_some_iff.mp ed).1
      simp
      refine (kept_spec hF hF0 hFl (x_get hn) w (by omega) (by omega) (by omega)).mono ?_
      rintro _ _ ⟨x, c5, rfl, ⟨kp, rfl, hkp⟩, rfl, w5⟩
      simp [x_set hn, x_at]
      refine (draw_spec (x_get hn) w5 (by omega) (by omega) (by omega)).mono ?_
      rintro _ _ ⟨a0, c6, rfl, a00, a01, rfl, w6⟩
      obtain ⟨a, rfl⟩ := Int.eq_ofNat_of_zero_le a00
      simp [x_set hn]
      refine (draw_spec (x_get hn) w6 (by omega) (by omega) (by omega)).mono ?_
      rintro _ _ ⟨b0, c7, rfl, b00, b01, rfl, w7⟩
      obtain ⟨b, rfl⟩ := Int.eq_ofNat_of_zero_le b00
      have hz2 : B.length < 16777216 := by omega
      simp [x_set hn, x_at, x_put, szL, hz2]
      refine (hI (j + 1) _ _).mpr ⟨B ++ [(a, kp, b)], c7, some (.d d), some (.d (dkept kp)), rfl, by simp [dpn], by simp [hj], ?_, w7.mono (by omega)⟩
      intro y hy
      rcases List.mem_append.mp hy with hy | hy
      · exact hB y hy
      · rw [List.mem_singleton.mp hy]; exact ⟨by show a < p; omega, hkp, by show b < p; omega⟩
    · rintro env S' hh
      obtain ⟨B, c', e5, e12, rfl, rfl, hj, hB, w⟩ := (hI _ _ _).mp hh
      rw [rng_len] at hj w
      exact (hQ3 _ _).mpr ⟨B, c', e5, e12, rfl, rfl, by omega, by omega, hB, w.mono (by omega)⟩
  rintro fl S2 hh
  obtain ⟨B, c4, e5, e12, rfl, rfl, B0, B1, hB, w4⟩ := (hQ3 _ _).mp hh
  simp only [cont_nx]
  rw [dSeq_eq, ok_bind]
  obtain ⟨Q4, hQ4⟩ : ∃ Q : Dn.Fl → Sto → Prop, ∀ fl S2, Q fl S2 ↔ ∃ (L : List (List Wish)) (c' : Cell) (G : List Cell) (e5 e13 e14 e15 e16 : Option Val), fl = .nx [some (.r n), some (.d (.tup F)), some (.d (.int p)), some (.d (.int 16)), some (.d (.int (z : Int))), e5, none, none, some (.d (.int (m : Int))), some (.r S.length), some (.r (S.length + 1)), some (.r (S.length + 2)), e12, e13, e14, e15, e16, none, none, none, none, none] ∧ S2 = S.set n c' ++ (.lst (A.map dst0) :: .lst (B.map dpn) :: .lst (L.map (dlot z)) :: G) ∧ L.length = p ∧ (∀ l ∈ L, l.length ≤ 3 ∧ ∀ w ∈ l, SafeW z w) ∧ WOk (t + 300) c' := ⟨_, fun _ _ => Iff.rfl⟩
  refine Ok.mono (Q := Q4) ?_ ?_
  · rw [dFor_eq, ok_bind]
    simp [smp]
    obtain ⟨I, hI⟩ : ∃ I : Nat → Dn.Env → Sto → Prop, ∀ j env S2, I j env S2 ↔ ∃ (L : List (List Wish)) (c' : Cell) (G : List Cell) (e5 e13 e14 e15 e16 : Option Val), env = [some (.r n), some (.d (.tup F)), some (.d (.int p)), some (.d (.int 16)), some (.d (.int (z : Int))), e5, none, none, some (.d (.int (m : Int))), some (.r S.length), some (.r (S.length + 1)), some (.r (S.length + 2)), e12, e13, e14, e15, e16, none, none, none, none, none] ∧ S2 = S.set n c' ++ (.lst (A.map dst0) :: .lst (B.map dpn) :: .lst (L.map (dlot z)) :: G) ∧ L.length = j ∧ (∀ l ∈ L, l.length ≤ 3 ∧ ∀ w ∈ l, SafeW z w) ∧ WOk (t + 90 + 40 * j) c' := ⟨_, fun _ _ _ => Iff.rfl⟩
    refine ok_loop (I := I) ((hI 0 _ _).mpr ⟨[], c4, [], e5, none, none, none, none, rfl, rfl, rfl, by simp, w4⟩) (fun _ _ _ _ => wtOk_nil _) ?_ ?_
    · rintro j d env S' ed hh
      obtain ⟨L, c', G, e5, e13, e14, e15, e16, rfl, rfl, hj, hL, w⟩ := (hI _ _ _).mp hh
      have hjp : j < p := by simpa [rngD] using (List.getElem?_eq_some_iff.mp ed).1
      obtain ⟨X, hX⟩ : ∃ X, X = (.lst (A.map dst0) :: .lst (B.map dpn) :: .lst (L.map (dlot z)) :: G : List Cell) := ⟨_, rfl⟩
      obtain ⟨T, hT⟩ : ∃ T, T = S.set n c' ++ X := ⟨_, rfl⟩
      have tn : T[n]? = some c' := by rw [hT]; exact x_get hn
      have tl : n < T.length := lt_of tn
      have ts : ∀ c', T.set n c' = S.set n c' ++ X := fun c' => by rw [hT, x_set hn]
      rw [← hX, ← hT]
      simp [-dSeq_eq]
      rw [dSeq_eq, asg_cell]
      simp [-dFor_eq]
      rw [dFor_eq, ok_bind]
      simp
      have tne : (T ++ [Cell.lst []])[n]? = some c' := by rw [List.getElem?_append_left tl]; exact tn
      refine (draw_spec tne w (by omega) (by decide) (by decide)).mono ?_
      rintro _ _ ⟨k0, c5, rfl, k00, k01, rfl, w5⟩
      obtain ⟨k, ek, k1, k2⟩ : ∃ k : Nat, (1 : Int) + k0 = k ∧ 1 ≤ k ∧ k ≤ 3 := ⟨(1 + k0).toNat, by omega, by omega, by omega⟩
      have se : (T ++ [Cell.lst []]).set n c5 = T.set n c5 ++ [Cell.lst []] := push_set rfl tl _ c5
      simp [ek, sm_of (i := (k : Int)) (by omega) (by omega), se]
      obtain ⟨J, hJ⟩ : ∃ I : Nat → Dn.Env → Sto → Prop, ∀ i env S2, I i env S2 ↔ ∃ (ws : List Wish) (c' : Cell) (e14 e15 e16 : Option Val), env = [some (.r n), some (.d (.tup F)), some (.d (.int p)), some (.d (.int 16)), some (.d (.int (z : Int))), some (.d d), none, none, some (.d (.int (m : Int))), some (.r S.length), some (.r (S.length + 1)), some (.r (S.length + 2)), e12, some (.r T.length), e14, e15, e16, none, none, none, none, none] ∧ S2 = T.set n c' ++ [.lst (ws.map dwish)] ∧ ws.length = i ∧ (∀ w ∈ ws, SafeW z w) ∧ WOk (t + 90 + 40 * j + 1 + 10 * i) c' := ⟨_, fun _ _ _ => Iff.rfl⟩
      refine ok_loop (I := J) ((hJ 0 _ _).mpr ⟨[], c5, e14, e15, e16, rfl, rfl, rfl, by simp, w5.mono (by omega)⟩) (fun _ _ _ _ => wtOk_nil _) ?_ ?_
      · rintro i d' env S' ed' hh
        obtain ⟨ws, c6, e14, e15, e16, rfl, rfl, hi, hws, w6⟩ := (hJ _ _ _).mp hh
        have hik : i < k := by simpa [rngD] using (List.getElem?_eq_some_iff.mp ed').1
        simp [-dSeq_eq]
        rw [dSeq_eq]
        simp [-dSeq_eq]
        refine (row_spec (x_get tl) w6 (by omega) (by omega)).mono ?_
        rintro _ _ ⟨x, c7, rfl, hx, rfl, w7⟩
        obtain ⟨qs, rfl, ql, qb6, qd⟩ := rowD_den hx
        simp [-dSeq_eq, x_set tl]
        rw [dSeq_eq]
        simp
        refine ok_lcM (e := dq) (ws := qs) (f := fun q => .int (tw q)) (by simp [drow]) (by simp [szL]; omega) (fun q hq => fun cc => ?_) ?_
        · have hb := qb6 q hq
          have nb : q.num.natAbs < 64 := by simpa using hb.n
          have cm : cMul (q.num.natAbs : Int) 12 = true := cMul_of 8 8 (by decide) (by decide) (by omega) (by decide) (by decide)
          have ea : (if q.num < 0 then -q.num else q.num) = (q.num.natAbs : Int) := by split <;> omega
          have cd : ∀ i, cDiv i (q.den : Int) = true := fun i => cDiv_of (b := 6) (by have := q.den_pos; omega) (by decide) (den_lt hb) (by decide)
          simp [wipeE, dq, ea, cm, cd, div_pos (den0 q), tw]
        · have sl := sum_le qb6
          have cm2 : cMul (qs.map tw).sum 16 = true := cMul_of 14 8 (by decide) (by decide) (by omega) (by decide) (by decide)
          have cd2 : ∀ i, cDiv i 12 = true := fun i => by unfold cDiv; decide
          have hat : (T.set n c7 ++ [Cell.lst (ws.map dwish)])[T.length]? = some (.lst (ws.map dwish)) := x_at0
          simp only [bSum_ints]
          simp [cm2, cd2, hat]
          refine (draw_spec (x_get tl) w7 (by omega) (by decide) (by decide)).mono ?_
          rintro _ _ ⟨g0, c8, rfl, g00, g01, rfl, w8⟩
          have hz2 : ws.length < 16777216 := by omega
          have e12' : (0 : Int) < 12 := by decide
          simp [x_set tl, x_at0, x_put0, szL, hz2, div_pos e12', dq_intR]
          have fb := safe_bound qd (by omega) g00
          rw [ql] at fb
          have sl2 := sl.2
          rw [ql] at sl2
          refine (hJ (i + 1) _ _).mpr ⟨ws ++ [(qs, (((qs.map tw).sum * 16 / 12 + g0 : Int) : Rat))], c8, some (.d d'), some (.d (drow qs)), some (.d (.int (qs.map tw).sum)), rfl, by simp [dwish], by simp [hi], ?_, w8.mono (by omega)⟩
          intro y hy
          rcases List.mem_append.mp hy with hy | hy
          · exact hws y hy
          · rw [List.mem_singleton.mp hy]
            exact ⟨ql, qb6, qb_int (by omega) (by decide), fb⟩
      · rintro env S' hh
        obtain ⟨ws, c6, e14, e15, e16, rfl, rfl, hi, hws, w6⟩ := (hJ _ _ _).mp hh
        rw [rng_len] at hi w6
        have hz2 : L.length < 16777216 := by omega
        have hat : (T.set n c6 ++ [Cell.lst (ws.map dwish)])[T.length]? = some (.lst (ws.map dwish)) := x_at0
        have hat2 : (T.set n c6 ++ [Cell.lst (ws.map dwish)])[S.length + 2]? = some (.lst (L.map (dlot z))) := by
          rw [ts, List.append_assoc, x_at, hX]; rfl
        have hput : ∀ e, (T.set n c6 ++ [Cell.lst (ws.map dwish)]).set (S.length + 2) e = S.set n c6 ++ (.lst (A.map dst0) :: .lst (B.map dpn) :: e :: (G ++ [Cell.lst (ws.map dwish)])) := fun e => by
          rw [ts, List.append_assoc, x_put, hX]; rfl
        simp [hat, hat2, hput, szL, hz2]
        refine (hI (j + 1) _ _).mpr ⟨L ++ [ws], c6, G ++ [Cell.lst (ws.map dwish)], some (.d d), some (.r T.length), e14, e15, e16, rfl, by simp [dlot], by simp [hj], ?_, w6.mono (by omega)⟩
        intro y hy
        rcases List.mem_append.mp hy with hy | hy
        · exact hL y hy
        · rw [List.mem_singleton.mp hy]; exact ⟨by omega, hws⟩
    · rintro env S' hh
      obtain ⟨L, c', G, e5, e13, e14, e15, e16, rfl, rfl, hj, hL, w⟩ := (hI _ _ _).mp hh
      rw [rng_len] at hj w
      exact (hQ4 _ _).mpr ⟨L, c', G, e5, e13, e14, e15, e16, rfl, rfl, hj, hL, w.mono (by omega)⟩
  rintro fl S2 hh
  obtain ⟨L, c5, G, e5', e13, e14, e15, e16, rfl, rfl, hL, hL2, w5⟩ := (hQ4 _ _).mp hh
  simp only [cont_nx]
  obtain ⟨U, hU⟩ : ∃ U, U = S.set n c5 ++ (.lst (A.map dst0) :: .lst (B.map dpn) :: .lst (L.map (dlot z)) :: G) := ⟨_, rfl⟩
  have u0 : U[S.length]? = some (.lst (A.map dst0)) := by rw [hU, x_at0]; rfl
  have u1 : U[S.length + 1]? = some (.lst (B.map dpn)) := by rw [hU, x_at]; rfl
  have u2 : U[S.length + 2]? = some (.lst (L.map (dlot z))) := by rw [hU, x_at]; rfl
  have ut : U.take S.length = S.set n c5 := by rw [hU]; exact x_take
  rw [← hU]
  rw [dSeq_eq]
  simp [-dSeq_eq]
  refine ok_lcW (e := dst0) (ws := A) (f := fun s => dstart z (s.1, boxW z 0 s.2)) (wt := [(S.length, A.map dst0)]) (by simp [iSeq_at u0]) (wt_one u0) (by simp [szL]; omega) (fun s hs => fun cc => ?_) ?_
  · have hs' := hA s hs
    have bx := fun T => l_box_eq (sp := s.2) T (by rw [hs'.l]; omega)
    rw [hs'.l] at bx
    simp [wipeE, dst0, bx, szL, dstart]
  simp [-dSeq_eq]
  rw [dSeq_eq]
  simp [-dSeq_eq]
  refine ok_lcW (e := dpn) (ws := B) (f := fun s => dcase (z + m) (caseC z m s.2.1 s.1 s.2.2)) (wt := [(S.length + 1, B.map dpn)]) (by simp [iSeq_at u1]) (wt_one u1) (by simp [szL]; omega) (fun s hs => fun cc => ?_) ?_
  · have hs' := hB s hs
    have ce := fun T => case_eq (a := s.1) (b := s.2.2) T hs'.k (by omega) hm
    simp [wipeE, dpn, ce]
  have fr : ∀ (V : Sto) (k : Nat) (ds : List D), V[k]? = some (.lst ds) → oFrz (.r k) V = .ok (.d (.lst ds)) (V.set k .dead) := fun V k ds e => by
    unfold oFrz
    simp [e]
  have u1' : (U.set S.length .dead)[S.length + 1]? = some (.lst (B.map dpn)) := by rw [List.getElem?_set_ne (by omega)]; exact u1
  have ut2 : ((U.set S.length .dead).set (S.length + 1) .dead).take S.length = S.set n c5 := by
    rw [hU, x_put0, x_put]
    exact x_take
  simp [u0, u1, u2, szL, fr _ _ _ u0, fr _ _ _ u1', ut2]
  refine ⟨_, c5, rfl, ⟨⟨z, m, A, B, L⟩, .lst (A.map dst0), .lst (B.map dpn), ?_, ⟨z1, z2, hm, A0, A1, hA, B0, B1, hB, hL, fun l hl => (hL2 l hl).1, fun l hl => (hL2 l hl).2⟩⟩, rfl, w5.mono (by omega)⟩
  simp [dch, Pn.ch, Function.comp_def]
end
end Law
set_option Elab.async false
set_option linter.all false
set_option maxRecDepth 100000
set_option maxHeartbeats 16000000
namespace Law
open PySem PySem.Spec PyProof.Rows L2 GxR Gx Dn
theorem num_pos (q : Rat) : 0 < q.num ↔ 0 < q := by
  rw [Rat.lt_iff]
  simp
theorem sgn_snoc : ∀ (a : List Rat) (r : Rat), sgn (a ++ [r]) = sgn a ++ [if 0 < r then r else 0, if r < 0 then -r else 0]
  | [], r => rfl
  | b :: a, r => by simp only [List.cons_append, sgn, sgn_snoc a r]
theorem sign_weights_eq {r : List Rat} (S : Sto) (hl : r.length ≤ 100) : m__law_sign_weights [.d (drow r)] S = .ok (.d (drow (sgn r))) S := by
  refine ok_eq ?_
  unfold m__law_sign_weights
  refine ok_fn ?_
  unfold b__law_sign_weights
  rw [dSeq_eq, asg_cell]
  simp [drow]
  obtain ⟨I, hI⟩ : ∃ I : Nat → Dn.Env → Sto → Prop, ∀ j env S', I j env S' ↔ ∃ e2, env = [some (.d (.tup (r.map dq))), some (.r S.length), e2] ∧ S' = S ++ [.lst ((sgn (r.take j)).map dq)] := ⟨_, fun _ _ _ => Iff.rfl⟩
  refine ok_loop (I := I) ((hI 0 _ _).mpr ⟨none, rfl, rfl⟩) (fun _ _ _ _ => wtOk_nil _) ?_ ?_
  · rintro j d env S' ed hh
    obtain ⟨e2, rfl, rfl⟩ := (hI _ _ _).mp hh
    obtain ⟨q, eq, rfl, hq⟩ := map_at ed
    have hj : j < r.length := (List.getElem?_eq_some_iff.mp eq).1
    have tk : sgn (r.take (j + 1)) = sgn (r.take j) ++ [if 0 < q then q else 0, if q < 0 then -q else 0] := by
      rw [List.take_add_one, eq, Option.toList_some, sgn_snoc]
    obtain ⟨M, hM⟩ : ∃ M, M = (sgn (r.take j)).map dq := ⟨_, rfl⟩
    have ml : M.length + 1 < 16777216 := by rw [hM, List.length_map, sgn_len, List.length_take]; omega
    have ml0 : M.length < 16777216 := by omega
    have j0 : ∀ T, oIx (.d (dq q)) (.d (.int 0)) T = .ok (.d (.int q.num)) T := fun T => by simp [dq]
    have j1 : ∀ T, oIx (.d (dq q)) (.d (.int 1)) T = .ok (.d (.int (q.den : Int))) T := fun T => by simp [dq]
    have z0 : D.tup [.int 0, .int 1] = dq 0 := dq_zero.symm
    have ng : D.tup [.int (-q.num), .int (q.den : Int)] = dq (-q) := by simp [dq]
    rw [← hM]
    have fin : ∀ x y : D, x = dq (if 0 < q then q else 0) → y = dq (if q < 0 then -q else 0) → I (j + 1) [some (.d (.tup (r.map dq))), some (.r S.length), some (.d (dq q))] (S ++ [.lst (M ++ [x, y])]) := fun x y hx hy => (hI (j + 1) _ _).mpr ⟨some (.d (dq q)), rfl, by rw [tk, hx, hy, hM]; simp⟩
    by_cases p : 0 < q
    · have pn : 0 < q.num := (num_pos q).mpr p
      have nn : ¬ q < 0 := by grind
      have nn2 : ¬ q.num < 0 := by omega
      simp [j0, j1, pn, nn2, szL, push_at, push_put, ml0, ml]
      exact fin _ _ (by rw [if_pos p]) (by rw [if_neg nn, dq_zero])
    · have pn : ¬ 0 < q.num := fun z => p ((num_pos q).mp z)
      by_cases s : q < 0
      · have sn : q.num < 0 := (num_lt q).mpr s
        simp [j0, j1, pn, sn, szL, push_at, push_put, ml0, ml]
        exact fin _ _ (by rw [if_neg p, dq_zero]) (by rw [if_pos s, ← ng])
      · have sn : ¬ q.num < 0 := fun z => s ((num_lt q).mp z)
        simp [j0, j1, pn, sn, szL, push_at, push_put, ml0, ml]
        exact fin _ _ (by rw [if_neg p, dq_zero]) (by rw [if_neg s, dq_zero])
  · rintro env S' hh
    obtain ⟨e2, rfl, rfl⟩ := (hI _ _ _).mp hh
    rw [List.length_map, List.take_length]
    simp [push_at rfl]
def papS (r : List Rat) : D := .tup [.str "bound", drow (sgn r)]
def papC (r : List Rat) (n : Nat) : D := .tup [.str "bound", drow (sgn r ++ List.replicate n 0)]
def startP (T : List (List Wish)) (s : Nat × List Wish) : List D := (getT T s.1).map fun w => papS w.1
def caseP (z m : Nat) (T : List (List Wish)) (c : Cs) : List D := (getT T c.t).map fun w => papC (led w.1 c.mv (z + m)) (c.g.length - 2 * m)
def safeP (l : List Wish) : List D := l.map fun w => papS w.1
def ownP (C : Ch) (T : List (List Wish)) : List D := C.st.flatMap (startP T) ++ C.cs.flatMap (caseP C.z C.m T) ++ C.sf.flatMap safeP
theorem own_papers_eq {C : Ch} {T : List (List Wish)} {n k : Nat} (S : Sto) (h : ChOk n k C) (hT : TbOk C.z C.sf.length n k T) (hn : n ≤ 40) (hk2 : k ≤ 100) (hg : ∀ c ∈ C.cs, 2 * C.m ≤ c.g.length) : m__law_own_papers [.d (dch C), .d (dtab C.z T)] S = .ok (.d (.tup (ownP C T))) S := by
  have hz1 := h.z1
  have hm1 := h.m1
  have zm := h.zm
  have sB : ∀ s ∈ C.st, (startP T s).length ≤ 40 := fun s hs => by simp only [startP, List.length_map]; exact Nat.le_trans (getT_ok hT (h.s s hs).1).l hn
  have cB : ∀ c ∈ C.cs, (caseP C.z C.m T c).length ≤ 40 := fun s hs => by simp only [caseP, List.length_map]; exact Nat.le_trans (getT_ok hT (h.c s hs).t).l hn
  have fB : ∀ l ∈ C.sf, (safeP l).length ≤ 40 := fun l hl => by simp only [safeP, List.length_map]; exact Nat.le_trans (h.f l hl).l hn
  have f1 : ∀ j, ((C.st.take j).flatMap (startP T)).length ≤ 12 * 40 := fun j => take_le sB h.s1
  have f2 : ∀ j, ((C.cs.take j).flatMap (caseP C.z C.m T)).length ≤ 120 * 40 := fun j => take_le cB h.c1
  have f4 : ∀ j, ((C.sf.take j).flatMap safeP).length ≤ 12 * 40 := fun j => take_le fB h.p1
  have f0 : (C.st.flatMap (startP T)).length ≤ 12 * 40 := by have := f1 C.st.length; rwa [List.take_length] at this
  have f3 : (C.cs.flatMap (caseP C.z C.m T)).length ≤ 120 * 40 := by have := f2 C.cs.length; rwa [List.take_length] at this
  refine ok_eq ?_
  unfold m__law_own_papers
  refine ok_fn ?_
  unfold b__law_own_papers
  rw [dSeq_eq, ok_bind]
  simp only [dAsg_eq, dVar_eq, List.map_cons, List.map_nil, List.cons_append, List.nil_append, List.getElem?_cons_zero, getV_some, Out.bind_ok]
  obtain ⟨Q0, hQ0⟩ : ∃ Q : Dn.Fl → Sto → Prop, ∀ fl S2, Q fl S2 ↔ fl = .nx [some (.d (dch C)), some (.d (dtab C.z T)), none, none, some (.d (.int (C.z : Nat))), some (.d (.int (C.m : Nat))), some (.d (.tup (C.st.map (dstart C.z)))), some (.d (.tup (C.cs.map (dcase (C.z + C.m))))), some (.d (.tup (C.sf.map (dlot C.z)))), none, none, none, none, none, none, none, none, none, none, none, none] ∧ S2 = S := ⟨_, fun _ _ => Iff.rfl⟩
  refine Ok.mono (Q := Q0) ?_ ?_
  · have e : dch C = D.tup [.int (C.z : Nat), .int (C.m : Nat), .tup (C.st.map (dstart C.z)), .tup (C.cs.map (dcase (C.z + C.m))), .tup (C.sf.map (dlot C.z))] := rfl
    rw [e, dgTup_eq]
    simp
    exact (hQ0 _ _).mpr ⟨rfl, rfl⟩
  rintro fl S2 h0
  obtain ⟨rfl, rfl⟩ := (hQ0 _ _).mp h0
  rw [cont_nx, dSeq_eq, asg_cell]
  simp only [Out.bind_ok, cont_nx]
  obtain ⟨I, hI⟩ : ∃ I : List D → Dn.Env → Sto → Prop, ∀ acc env S', I acc env S' ↔ ∃ (R : Sto) (e3 e9 e10 e11 e12 e13 e14 e15 e16 e17 e18 e19 e20 : Option Val),
      env = [some (.d (dch C)), some (.d (dtab C.z T)), some (.r R.length), e3, some (.d (.int (C.z : Nat))), some (.d (.int (C.m : Nat))), some (.d (.tup (C.st.map (dstart C.z)))), some (.d (.tup (C.cs.map (dcase (C.z + C.m))))), some (.d (.tup (C.sf.map (dlot C.z)))), e9, e10, e11, e12, e13, e14, e15, e16, e17, e18, e19, e20] ∧
      S' = R ++ [.lst acc] ∧ Gr S2 R := ⟨_, fun _ _ _ => Iff.rfl⟩
  have mk : ∀ {acc : List D} {R : Sto} {e3 e9 e10 e11 e12 e13 e14 e15 e16 e17 e18 e19 e20 : Option Val}, Gr S2 R → I acc [some (.d (dch C)), some (.d (dtab C.z T)), some (.r R.length), e3, some (.d (.int (C.z : Nat))), some (.d (.int (C.m : Nat))), some (.d (.tup (C.st.map (dstart C.z)))), some (.d (.tup (C.cs.map (dcase (C.z + C.m))))), some (.d (.tup (C.sf.map (dlot C.z)))), e9, e10, e11, e12, e13, e14, e15, e16, e17, e18, e19, e20] (R ++ [.lst acc]) :=
    fun g => (hI _ _ _).mpr ⟨_, _, _, _, _, _, _, _, _, _, _, _, _, _, rfl, rfl, g⟩
  have i0 := mk (acc := []) (R := S2) (e3 := none) (e9 := none) (e10 := none) (e11 := none) (e12 := none) (e13 := none) (e14 := none) (e15 := none) (e16 := none) (e17 := none) (e18 := none) (e19 := none) (e20 := none) Gr.self
  have sw := fun (r : List Rat) (hr : r.length ≤ 100) (S : Sto) => sign_weights_eq S hr
  -- starts
  rw [dSeq_eq, ok_bind, dFor_eq, ok_bind]
  simp
  refine ok_loop (I := fun j => I ((C.st.take j).flatMap (startP T))) (by simpa using i0) (fun _ _ _ _ => wtOk_nil _) ?_ ?_
  · rintro j d env S' ed h'
    obtain ⟨R, e3, e9, e10, e11, e12, e13, e14, e15, e16, e17, e18, e19, e20, rfl, rfl, g⟩ := (hI _ _ _).mp h'
    obtain ⟨s, es, rfl, hs⟩ := map_at ed
    obtain ⟨s1, s2⟩ := h.s s hs
    have sl : s.1 < T.length := by rw [hT.l]; exact s1
    have gl := (getT_ok hT s1).l
    have fb := f1 j
    simp [dstart]
    refine ok_lcM (e := dwish) (ws := getT T s.1) (f := fun w => papS w.1) (by simp [tab_at _ sl, lot_ix1]) (by simp [szL]; omega) (fun w hw c2 => ?_) ?_
    · have wl := ((getT_ok hT s1).w w hw).l
      simp [wipeE, dwish, szL, papS, sw w.1 (by omega)]
    · have hz : ((C.st.take j).flatMap (startP T)).length + (List.map (fun w : Wish => papS w.1) (getT T s.1)).length ≤ 16777216 := by rw [List.length_map]; omega
      rw [push_at rfl, cellL_lst, trkL_lst, cAdd_some, if_pos hz, ok_ok]
      have e : (C.st.take (j + 1)).flatMap (startP T) = (C.st.take j).flatMap (startP T) ++ List.map (fun w : Wish => papS w.1) (getT T s.1) := take_flat es
      rw [e]
      exact mk (g.push _)
  rintro env S' h'
  rw [List.length_map, List.take_length] at h'
  obtain ⟨R, e3, e9, e10, e11, e12, e13, e14, e15, e16, e17, e18, e19, e20, rfl, rfl, g⟩ := (hI _ _ _).mp h'
  -- cases
  rw [cont_nx, dSeq_eq, ok_bind, dFor_eq, ok_bind]
  simp
  refine ok_loop (I := fun j => I (C.st.flatMap (startP T) ++ (C.cs.take j).flatMap (caseP C.z C.m T))) (by simpa using mk g) (fun _ _ _ _ => wtOk_nil _) ?_ ?_
  · rintro j d env S' ed h'
    obtain ⟨R, e3, e9, e10, e11, e12, e13, e14, e15, e16, e17, e18, e19, e20, rfl, rfl, g⟩ := (hI _ _ _).mp h'
    obtain ⟨c, ec, rfl, hc⟩ := map_at ed
    have b := h.c c hc
    have bt := getT_ok hT b.t
    have btl := bt.l
    have bgl := b.g.l
    have tl : c.t < T.length := by rw [hT.l]; exact b.t
    have ml := b.ml
    have gg := hg c hc
    have fb := f2 j
    rw [dcase, dgTup_eq]
    obtain ⟨rest, hrest⟩ : ∃ r : Nat, r = c.g.length - 2 * C.m := ⟨_, rfl⟩
    have er : ((c.g.length : Nat) : Int) - 2 * (C.m : Int) = (rest : Int) := by omega
    have cm2 : cMul 2 (C.m : Int) = true := cMul_of 4 8 (by decide) (by decide) (by decide) (by omega) (by decide)
    simp [-dFor_eq, lot_ix1, cm2, er, szL, mul_noughts _ (by omega : rest ≤ 100)]
    rw [dFor_eq, ok_bind]
    simp [tab_at _ tl, lot_ix1]
    obtain ⟨F, hF⟩ : ∃ F : Wish → D, F = fun w => papC (led w.1 c.mv (C.z + C.m)) rest := ⟨_, rfl⟩
    obtain ⟨J, hJ⟩ : ∃ J : List D → Dn.Env → Sto → Prop, ∀ acc env S', J acc env S' ↔ ∃ (e16 e17 e18 e19 e20 : Option Val),
      env = [some (.d (dch C)), some (.d (dtab C.z T)), some (.r R.length), e3, some (.d (.int (C.z : Nat))), some (.d (.int (C.m : Nat))), some (.d (.tup (C.st.map (dstart C.z)))), some (.d (.tup (C.cs.map (dcase (C.z + C.m))))), some (.d (.tup (C.sf.map (dlot C.z)))), e9, e10, some (.d (.int (c.f : Nat))), some (.d (dlot (C.z + C.m) c.g)), some (.d (.tup (c.mv.map dwish))), some (.d (.int (c.t : Nat))), some (.d (.tup (List.replicate rest (.tup [.int 0, .int 1])))), e16, e17, e18, e19, e20] ∧
      S' = R ++ [.lst acc] := ⟨_, fun _ _ _ => Iff.rfl⟩
    refine ok_loop (I := fun i => J (C.st.flatMap (startP T) ++ (C.cs.take j).flatMap (caseP C.z C.m T) ++ ((getT T c.t).take i).map F)) ((hJ _ _ _).mpr ⟨_, _, _, _, _, by rfl, by simp⟩) (fun _ _ _ _ => wtOk_nil _) ?_ ?_
    · rintro i d env S' ed2 hj
      obtain ⟨e16, e17, e18, e19, e20, rfl, rfl⟩ := (hJ _ _ _).mp hj
      obtain ⟨w, ew, rfl, hw⟩ := map_at ed2
      have wb_ := bt.w w hw
      have sm : smallI ((C.z : Int) + (C.m : Int)) = true := by unfold smallI; simp; omega
      have tn : ((C.z : Int) + (C.m : Int)).toNat = C.z + C.m := by omega
      have mm : (2 * k + 2) * C.z ≤ (2 * k + 2) * 12 := Nat.mul_le_mul_left _ (by omega)
      have hz : (C.st.flatMap (startP T) ++ (C.cs.take j).flatMap (caseP C.z C.m T) ++ ((getT T c.t).take i).map F).length < 16777216 := by
        rw [List.length_append, List.length_append, List.length_map, List.length_take]; omega
      rw [show (C.st.flatMap (startP T) ++ (C.cs.take j).flatMap (caseP C.z C.m T) ++ ((getT T c.t).take (i + 1)).map F) = (C.st.flatMap (startP T) ++ (C.cs.take j).flatMap (caseP C.z C.m T) ++ ((getT T c.t).take i).map F) ++ [F w] from by rw [take_map ew, ← List.append_assoc]]
      generalize (C.st.flatMap (startP T) ++ (C.cs.take j).flatMap (caseP C.z C.m T) ++ ((getT T c.t).take i).map F) = acc at hz hj ⊢
      simp [dwish, -dFor_eq]
      refine ok_lcM (e := fun i : Nat => D.int (i : Nat)) (ws := List.range (C.z + C.m)) (f := fun i => dq (ledQ w.1 c.mv i)) (by simp [sm, tn, rng_map]) (by simp [szL]; omega) (fun l hi c2 => ?_) ?_
      · have hi : l < C.z + C.m := List.mem_range.mp hi
        have cq := col_qb b.mw hi
        simp [wipeE]
        refine ok_lcM (e := dwish) (ws := c.mv) (f := fun x => dq (x.1.getD l 0)) (by simp) (by simp [szL]; omega) (fun x hx c2 => ?_) ?_
        · have hb := b.mw x hx
          have hl : l < x.1.length := by rw [hb.l]; exact hi
          have e : x.1.getD l 0 = x.1[l] := by simp [hl]
          simp [wipeE, dwish, drow, atI_cast, List.getElem?_eq_getElem hl]
        · have m2 : (2 * k + 2) * (w.1.zip (c.mv.map fun x => x.1.getD l 0)).length ≤ (2 * k + 2) * 12 := Nat.mul_le_mul_left _ (Nat.le_trans (zip_le wb_.l) (by omega))
          have p := fun S => dot_eq S (rows2.tl w.1 (c.mv.map fun x => x.1.getD l 0)) (zip_qb wb_.r cq) (by omega) (by omega)
          simp only [List.map_map] at p
          have e2 : (c.mv.map fun x => dq (x.1.getD l 0)) = c.mv.map (dq ∘ fun x => x.1.getD l 0) := rfl
          rw [e2]
          simp only [drow, ok_ok]
          rw [p]
          simp [ledQ]
      have el : (led w.1 c.mv (C.z + C.m)).length ≤ 100 := by simp [led]; omega
      have ed : D.tup ((List.range (C.z + C.m)).map fun i => dq (ledQ w.1 c.mv i)) = drow (led w.1 c.mv (C.z + C.m)) := by simp [drow, led]
      have sl : (sgn (led w.1 c.mv (C.z + C.m))).length + rest ≤ 16777216 := by rw [sgn_len]; omega
      have ad : ∀ T, oAdd (.d (drow (sgn (led w.1 c.mv (C.z + C.m))))) (.d (.tup (List.replicate rest (.tup [.int 0, .int 1])))) T = .ok (.d (drow (sgn (led w.1 c.mv (C.z + C.m)) ++ List.replicate rest 0))) T := fun T => by
        rw [drow, oAdd_tup, if_pos (by simpa [szL] using sl), wide_row]; rfl
      simp [ed, sw _ el, ad, push_at, szL, hz, push_put]
      exact (hJ _ _ _).mpr ⟨_, _, _, _, _, rfl, by simp [hF, papC]⟩
    · rintro env S' hj
      rw [List.length_map, List.take_length] at hj
      obtain ⟨e16, e17, e18, e19, e20, rfl, rfl⟩ := (hJ _ _ _).mp hj
      have e : (C.cs.take (j + 1)).flatMap (caseP C.z C.m T) = (C.cs.take j).flatMap (caseP C.z C.m T) ++ (getT T c.t).map F := by rw [hF, hrest]; exact take_flat ec
      show I _ _ _
      rw [e, ← List.append_assoc]
      exact mk g
  rintro env S' h'
  rw [List.length_map, List.take_length] at h'
  obtain ⟨R, e3, e9, e10, e11, e12, e13, e14, e15, e16, e17, e18, e19, e20, rfl, rfl, g⟩ := (hI _ _ _).mp h'
  -- safe places
  have hp := h.p1
  rw [cont_nx, dSeq_eq, ok_bind, dFor_eq, ok_bind]
  simp
  refine ok_loop (I := fun j => I (C.st.flatMap (startP T) ++ C.cs.flatMap (caseP C.z C.m T) ++ (C.sf.take j).flatMap safeP)) (by simpa using mk g) (fun _ _ _ _ => wtOk_nil _) ?_ ?_
  · rintro j d env S' ed h'
    obtain ⟨R, e3, e9, e10, e11, e12, e13, e14, e15, e16, e17, e18, e19, e20, rfl, rfl, g⟩ := (hI _ _ _).mp h'
    obtain ⟨l, el, rfl, hl⟩ := map_at ed
    have gl := (h.f l hl).l
    have fb := f4 j
    simp
    refine ok_lcM (e := dwish) (ws := l) (f := fun w => papS w.1) (by simp [lot_ix1]) (by simp [szL]; omega) (fun w hw c2 => ?_) ?_
    · have wl := ((h.f l hl).w w hw).l
      simp [wipeE, dwish, szL, papS, sw w.1 (by omega)]
    · have hz : (C.st.flatMap (startP T) ++ C.cs.flatMap (caseP C.z C.m T) ++ (C.sf.take j).flatMap safeP).length + (List.map (fun w : Wish => papS w.1) l).length ≤ 16777216 := by rw [List.length_append, List.length_append, List.length_map]; omega
      have e : (C.sf.take (j + 1)).flatMap safeP = (C.sf.take j).flatMap safeP ++ List.map (fun w : Wish => papS w.1) l := take_flat el
      rw [e]
      simp only [List.append_assoc] at hz ⊢
      rw [show ∀ a b c d : List D, a ++ (b ++ (c ++ d)) = (a ++ (b ++ c)) ++ d from fun a b c d => by simp only [List.append_assoc]]
      generalize (C.st.flatMap (startP T) ++ (C.cs.flatMap (caseP C.z C.m T) ++ (C.sf.take j).flatMap safeP)) = acc at hz ⊢
      simp only [push_at rfl, cellL_lst, trkL_lst, cAdd_some, if_pos hz, ok_ok]
      exact mk (g.push _)
  rintro env S' h'
  rw [List.length_map, List.take_length] at h'
  obtain ⟨R, e3, e9, e10, e11, e12, e13, e14, e15, e16, e17, e18, e19, e20, rfl, rfl, g⟩ := (hI _ _ _).mp h'
  have ge := g.le
  have gt := g.tk
  simp [push_at rfl, ownP]
  rw [List.take_append_of_le_length ge, gt]
end Law
set_option Elab.async false
set_option linter.all false
set_option maxRecDepth 100000
set_option maxHeartbeats 16000000
namespace Law
open PySem PySem.Spec PyProof.Rows L2 GxR Gx Dn
def boxM (z : Nat) (M : Int) : List Wish := boxW z 0 (List.replicate z (((-M : Int) : Rat), (M : Rat)))
def tabM (C : Ch) (M : Int) : List (List Wish) := List.replicate C.sf.length (boxM C.z M)
theorem mul_one {x : D} {m : Nat} (S : Sto) (hm : m ≤ 100) : oMul (.d (.tup [x])) (.d (.int (m : Nat))) S = .ok (.d (.tup (List.replicate m x))) S := by
  rw [oMul_tup, if_pos ⟨by simp, by simp; omega⟩]
  simp [flat_one]
theorem own_table_eq {C : Ch} {M : Int} (S : Sto) (hz : C.z ≤ 12) (hp : C.sf.length ≤ 12) : m__law_own_table [.d (dch C), .d (.int M)] S = .ok (.d (dtab C.z (tabM C M))) S := by
  refine ok_eq ?_
  unfold m__law_own_table
  refine ok_fn ?_
  unfold b__law_own_table
  have e1 : D.tup [.tup [.int (-M), .int 1], .tup [.int M, .int 1]] = dspan (((-M : Int) : Rat), (M : Rat)) := by simp [dspan, dq]
  have e2 : List.replicate C.z (dspan (((-M : Int) : Rat), (M : Rat))) = (List.replicate C.z (((-M : Int) : Rat), (M : Rat))).map dspan := by rw [List.map_replicate]
  have bx := fun T => l_box_eq (sp := List.replicate C.z (((-M : Int) : Rat), (M : Rat))) T (by simpa using hz)
  rw [List.length_replicate] at bx
  obtain ⟨lo, hlo⟩ : ∃ lo : Rat, lo = ((-M : Int) : Rat) := ⟨_, rfl⟩
  rw [← hlo] at e1 e2 bx
  simp only [List.map_replicate] at bx
  simp [ch_ix0, ch_ix4, szL, e1, mul_one _ (by omega : C.z ≤ 100)]
  simp [bx, mul_one _ (by omega : C.sf.length ≤ 100), szL]
  simp only [dtab, tabM, boxM, List.map_replicate, hlo]
theorem boxM_len {z : Nat} {M : Int} : (boxM z M).length = 2 * z := by rw [boxM, boxW_len]; simp
theorem tabM_ok {C : Ch} {M : Int} {k : Nat} (hM : M.natAbs ≤ 20) (hk : 6 ≤ k) (hz : C.z ≤ 2) : TbOk C.z C.sf.length 4 k (tabM C M) := by
  refine ⟨by simp [tabM], fun l hl => ?_⟩
  rw [(List.mem_replicate.mp hl).2]
  refine ⟨by rw [boxM_len]; omega, boxW_wb (by omega) fun s hs => ?_⟩
  rw [(List.mem_replicate.mp hs).2]
  have two : 2 ^ 6 ≤ 2 ^ k := Nat.pow_le_pow_right (by decide) hk
  exact ⟨qb_int (by omega) (by omega), qb_int (by omega) (by omega)⟩
theorem tabM_get {C : Ch} {M : Int} {i : Nat} (h : i < C.sf.length) : getT (tabM C M) i = boxM C.z M := by
  simp [getT, tabM, List.getD_eq_getElem?_getD, h]
theorem unitA_wb {w k : Nat} {b : Rat} {n : Nat} (h : qb n b) : ∀ q ∈ unitA w k b, qb n q := fun q hq => by
  unfold unitA at hq
  obtain ⟨m, _, rfl⟩ := List.mem_map.mp hq
  split
  · exact h
  · exact qb_mono qb_zero (qb_pos h)
theorem moveR_len {z m w k : Nat} {p : Kp} : (moveR z m w k p).length = w := by
  unfold moveR
  split
  · rw [List.length_set, unitA_len]
  · exact unitA_len ..
theorem moveR_qb {z m w k : Nat} {p : Kp} (h : KpOk p) : ∀ q ∈ moveR z m w k p, qb 4 q := fun q hq => by
  unfold moveR at hq
  split at hq
  · rcases List.mem_or_eq_of_mem_set hq with hq | rfl
    · exact unitA_wb h.qa q hq
    · exact h.qb1
  · exact unitA_wb h.qa q hq
theorem heldW_wb {w k : Nat} (hk : 8 ≤ k) : ∀ (a : List (Option (Rat × Rat))) (i : Nat), (∀ o ∈ a, HeldOk o) → ∀ x ∈ heldW w i a, wb w k x
  | [], _, _, x, hx => by simp [heldW] at hx
  | none :: a, i, h, x, hx => heldW_wb hk a (i + 1) (fun o ho => h o (List.mem_cons_of_mem _ ho)) x hx
  | some s :: a, i, h, x, hx => by
    simp only [heldW, List.mem_cons] at hx
    have hs := h _ List.mem_cons_self s rfl
    rcases hx with rfl | rfl | hx
    · exact ⟨unitQ_len, fun q hq => qb_mono (unitQ_qb (by decide) q hq) (by omega), qb_mono hs.b (by omega)⟩
    · exact ⟨unitQ_len, fun q hq => qb_mono (unitQ_qb (by decide) q hq) (by omega), qb_neg (qb_mono hs.a (by omega))⟩
    · exact heldW_wb hk a (i + 1) (fun o ho => h o (List.mem_cons_of_mem _ ho)) x hx
theorem boxW_wbj {z k : Nat} {sp : List (Rat × Rat)} (i : Nat) (hk : 2 ≤ k) (h : ∀ s ∈ sp, qb k s.1 ∧ qb k s.2) : ∀ w ∈ boxW z i sp, wb z k w := fun w hw => by
  obtain ⟨j, s, e, q⟩ := boxW_mem sp i hw
  have hs := h s (List.mem_of_getElem? e)
  rcases q with rfl | rfl
  · exact ⟨unitQ_len, fun q hq => qb_mono (unitQ_qb (by decide) q hq) hk, hs.2⟩
  · exact ⟨unitQ_len, fun q hq => qb_mono (unitQ_qb (by decide) q hq) hk, qb_neg hs.1⟩
theorem SpK.two {s : Rat × Rat} (h : SpK s) {k : Nat} (hk : 8 ≤ k) : qb k s.1 ∧ qb k s.2 := ⟨qb_mono h.a (by omega), qb_mono h.b (by omega)⟩
theorem pn_ok {p k : Nat} {P : Pn} (h : PnsOk p P) (hp0 : 1 ≤ p) (hp : p ≤ 3) (hk : 12 ≤ k) : ChOk 8 k P.ch := by
  have z0 := h.z0
  have z1 := h.z1
  have hm := h.m
  have s0 := h.s0
  have s1 := h.s1
  have c1 := h.c1
  have f0 := h.f0
  refine ⟨z0, by show P.z ≤ 8; omega, by show P.m ≤ 6; omega, by show P.z + P.m ≤ 12; omega, by simpa [Pn.ch] using s0, by simp [Pn.ch]; omega, by simp [Pn.ch]; omega, by simp [Pn.ch]; omega, by simp [Pn.ch]; omega, fun s hs => ?_, fun c hc => ?_, fun l hl => ?_⟩
  · obtain ⟨x, hx, rfl⟩ := List.mem_map.mp hs
    have o := h.s x hx
    refine ⟨by show x.1 < P.sf.length; rw [f0]; exact o.p, ?_, ?_⟩
    · show (boxW P.z 0 x.2).length ≤ 8
      rw [boxW_len, o.l]; omega
    · exact boxW_wbj 0 (by omega) fun s hs => (o.s s hs).two (by omega)
  · obtain ⟨x, hx, rfl⟩ := List.mem_map.mp hc
    have o := h.c x hx
    have hl := heldW_len (w := P.z + P.m) x.2.1.held 0
    refine ⟨by show x.1 < P.sf.length; rw [f0]; exact o.a, by show x.2.2 < P.sf.length; rw [f0]; exact o.b, ⟨?_, fun w hw => ?_⟩, ?_, fun w hw => ?_⟩
    · show (boxW (P.z + P.m) P.z x.2.1.spans ++ heldW (P.z + P.m) 0 x.2.1.held).length ≤ 8
      rw [List.length_append, boxW_len, o.k.sl]
      rw [o.k.hl] at hl
      omega
    · rcases List.mem_append.mp hw with hw | hw
      · exact boxW_wbj _ (by omega) (fun s hs => (o.k.s s hs).two (by omega)) w hw
      · exact heldW_wb (by omega) _ _ o.k.h w hw
    · show (mvW P.z P.m x.2.1.parts).length = P.z
      rw [mvW_len, o.k.pl]
    · obtain ⟨i, hi⟩ := List.mem_iff_getElem?.mp hw
      have hil : i < x.2.1.parts.length := by
        have := (List.getElem?_eq_some_iff.mp hi).1
        simpa [caseC, mvW_len] using this
      have ep : x.2.1.parts[i]? = some x.2.1.parts[i] := List.getElem?_eq_getElem hil
      have e := mvW_at (z := P.z) (m := P.m) ep
      have e2 : (mvW P.z P.m x.2.1.parts)[i]? = some w := hi
      rw [e] at e2
      cases e2
      have kp := o.k.pp _ (List.getElem_mem hil)
      exact ⟨moveR_len, fun q hq => qb_mono (moveR_qb kp q hq) (by omega), qb_mono kp.qc (by omega)⟩
  · have o := h.f l hl
    exact ⟨Nat.le_trans (h.f1 l hl) (by decide), fun w hw => ⟨(o w hw).l, fun q hq => qb_mono ((o w hw).q q hq) (by omega), qb_mono (o w hw).b hk⟩⟩
/-! its own papers are taken -/
theorem sgn_nonneg : ∀ (r : List Rat) (n : Nat), ∀ q ∈ sgn r ++ List.replicate n 0, 0 ≤ q.num
  | [], n, q, hq => by
    have e : q = 0 := (List.mem_replicate.mp (by simpa [sgn] using hq : q ∈ List.replicate n 0)).2
    subst e
    decide
  | r :: rs, n, q, hq => by
    simp only [sgn, List.cons_append, List.mem_cons] at hq
    rcases hq with rfl | rfl | hq
    · split
      · rename_i h; exact Int.le_of_lt ((num_pos _).mpr h)
      · decide
    · split
      · rename_i h
        have := (num_lt r).mpr h
        simp; omega
      · decide
    · exact sgn_nonneg rs n q hq
theorem pap_ok {z : Nat} {ws : List Wish} {r qs : List Rat} {b : Rat} (hl : qs.length = ws.length) (h0 : ∀ q ∈ qs, 0 ≤ q.num) (hr : mixR qs ws z = r) (hb : mixB qs ws ≤ b) : papB z ws r b (.tup [.str "bound", drow qs]) = true := by
  have e : (qs.map dq).map qD = qs := by
    rw [List.map_map]
    have : qD ∘ dq = id := by funext q; exact qD_dq q
    rw [this, List.map_id]
  have w : wgtB ws.length (.tup (qs.map dq)) = true := by
    simp only [wgtB, List.length_map, hl, decide_true, Bool.true_and, List.all_map, List.all_eq_true, Function.comp_apply, Bool.and_eq_true]
    intro q hq
    exact ⟨dq_frac q, by simp [nn, dq, h0 q hq]⟩
  simp only [papB, drow, w, e, judged, if_true, hr, decide_true, hb, Bool.true_or, Bool.and_self]
theorem inM_rep {n : Nat} {s : Rat × Rat} {m : Rat} (h1 : s.2 ≤ m) (h2 : -s.1 ≤ m) (h3 : 0 ≤ m) : inM (List.replicate n s) (List.replicate n m) := by
  induction n with
  | zero => exact trivial
  | succ n ih => exact ⟨h1, h2, h3, ih⟩
theorem inM_all {m : Rat} (h3 : 0 ≤ m) : ∀ {sp : List (Rat × Rat)}, (∀ s ∈ sp, s.2 ≤ m ∧ -s.1 ≤ m) → inM sp (List.replicate sp.length m)
  | [], _ => trivial
  | s :: sp, h => ⟨(h s List.mem_cons_self).1, (h s List.mem_cons_self).2, h3, inM_all h3 fun x hx => h x (List.mem_cons_of_mem _ hx)⟩
theorem inM_app : ∀ {a b : List (Rat × Rat)} {m n : List Rat}, inM a m → inM b n → inM (a ++ b) (m ++ n)
  | [], b, [], n, _, h => h
  | s :: a, b, m :: ms, n, h, h' => ⟨h.1, h.2.1, h.2.2.1, inM_app h.2.2.2 h'⟩
  | [], b, m :: ms, n, h, _ => h.elim
  | s :: a, b, [], n, h, _ => h.elim
theorem box_paper {w n : Nat} {rest : List Wish} {sp : List (Rat × Rat)} {r ms : List Rat} {b : Rat} (h1 : sp.length = w) (h2 : r.length = w) (hn : rest.length = n) (hi : inM sp ms) (hb : asum r ms ≤ b) :
    papB w (boxW w 0 sp ++ rest) r b (.tup [.str "bound", drow (sgn r ++ List.replicate n 0)]) = true := by
  refine pap_ok ?_ (sgn_nonneg r n) (mixR_box h1 h2) ?_
  · rw [List.length_append, List.length_append, boxW_len, sgn_len, List.length_replicate, h1, h2, hn]
  · rw [mixB_box sp r 0 (by rw [h1, h2])]
    exact Rat.le_trans (wsum_le r hi) hb
theorem case_bound {z m j : Nat} (hz : z = 1 ∨ z = 2) (hm : m = 0 ∨ m = z) (hj : j < z) {q : Kp} (hq : KpOk q) {s : Rat} (hs : s = 1 ∨ s = -1) :
    asum ((List.range (z + m)).map fun i => s * (moveR z m (z + m) j q).getD i 0) (List.replicate z 16 ++ List.replicate m 5) ≤ 16 + -(s * q.c) := by
  have a0 := hq.a0
  have a1 := hq.a1
  have b0 := hq.b0
  have b1 := hq.b1
  have c0 := hq.c0
  have c1 := hq.c1
  have hj2 : j = 0 ∨ j = 1 := by omega
  rcases hz with rfl | rfl <;> rcases hm with rfl | rfl <;> rcases hj2 with rfl | rfl <;> (try omega) <;> rcases hs with rfl | rfl <;>
    simp [List.range_succ, moveR, unitA, asum, ab, List.replicate, List.range'] <;> (repeat' split) <;> grind
end Law
set_option Elab.async false
set_option linter.all false
set_option maxRecDepth 100000
set_option maxHeartbeats 16000000
namespace Law
open PySem PySem.Spec PyProof.Rows L2 GxR Gx Dn
def prsS (z : Nat) (T : List (List Wish)) (s : Nat × List Wish) : List (Tr × D) := (getT T s.1).map fun w => (⟨z, s.2, w.1, w.2⟩, papS w.1)
def prsC (z m : Nat) (T : List (List Wish)) (c : Cs) : List (Tr × D) := (getT T c.t).map fun w => (⟨z + m, caseL m T c, led w.1 c.mv (z + m), w.2 + -(brought w.1 c.mv)⟩, papC (led w.1 c.mv (z + m)) (c.g.length - 2 * m))
def prsF (z : Nat) (p : List Wish × List Wish) : List (Tr × D) := p.2.map fun w => (⟨z, p.1, w.1, w.2⟩, papS w.1)
def prs (C : Ch) (T : List (List Wish)) : List (Tr × D) := C.st.flatMap (prsS C.z T) ++ C.cs.flatMap (prsC C.z C.m T) ++ (T.zip C.sf).flatMap (prsF C.z)
theorem prs_fst (C : Ch) (T : List (List Wish)) : (prs C T).map (·.1) = allT C T := by
  unfold prs allT
  rw [List.map_append, List.map_append, List.map_flatMap, List.map_flatMap, List.map_flatMap]
  have e1 : (fun a => List.map (·.1) (prsS C.z T a)) = startT C.z T := by funext a; simp [prsS, startT, Function.comp_def]
  have e2 : (fun a => List.map (·.1) (prsC C.z C.m T a)) = caseT C.z C.m T := by funext a; simp [prsC, caseT, Function.comp_def]
  have e3 : (fun a => List.map (·.1) (prsF C.z a)) = safeT C.z := by funext a; simp [prsF, safeT, Function.comp_def]
  rw [e1, e2, e3]
theorem zip_snd : ∀ (T sf : List (List Wish)), T.length = sf.length → (T.zip sf).flatMap (fun p => safeP p.2) = sf.flatMap safeP
  | [], [], _ => rfl
  | t :: T, l :: sf, h => by
    simp only [List.zip_cons_cons, List.flatMap_cons, zip_snd T sf (by simpa using h)]
theorem prs_snd {C : Ch} {T : List (List Wish)} (h : T.length = C.sf.length) : (prs C T).map (·.2) = ownP C T := by
  unfold prs ownP
  rw [List.map_append, List.map_append, List.map_flatMap, List.map_flatMap, List.map_flatMap]
  have e1 : (fun a => List.map (·.2) (prsS C.z T a)) = startP T := by funext a; simp [prsS, startP, Function.comp_def]
  have e2 : (fun a => List.map (·.2) (prsC C.z C.m T a)) = caseP C.z C.m T := by funext a; simp [prsC, caseP, Function.comp_def]
  have e3 : (fun a => List.map (·.2) (prsF C.z a)) = fun p => safeP p.2 := by funext a; simp [prsF, safeP, Function.comp_def]
  rw [e1, e2, e3, zip_snd T C.sf h]
theorem zip_pair {α β : Type} : ∀ l : List (α × β), (l.map (·.1)).zip (l.map (·.2)) = l
  | [] => rfl
  | x :: l => by simp [zip_pair l]
theorem paps_of {C : Ch} {T : List (List Wish)} (h : T.length = C.sf.length) (ha : ∀ x ∈ prs C T, papB x.1.z x.1.ws x.1.r x.1.b x.2 = true) : papsB C T (.tup (ownP C T)) = true := by
  have l : (ownP C T).length = (allT C T).length := by rw [← prs_fst, ← prs_snd h]; simp
  simp only [papsB, l, decide_true, Bool.true_and, List.all_eq_true]
  rw [← prs_fst, ← prs_snd h, zip_pair]
  exact ha
theorem boxM_mem {z : Nat} {M : Int} {w : Wish} (h : w ∈ boxM z M) : ∃ j, j < z ∧ ∃ s : Int, (s = 1 ∨ s = -1) ∧ w = (unitQ z j s, (M : Rat)) := by
  obtain ⟨j, s, e, q⟩ := boxW_mem _ 0 h
  have hj : j < z := by simpa using (List.getElem?_eq_some_iff.mp e).1
  rw [List.getElem?_replicate, if_pos hj] at e
  cases e
  rw [Nat.zero_add] at q
  rcases q with rfl | rfl
  · exact ⟨j, hj, 1, .inl rfl, rfl⟩
  · refine ⟨j, hj, -1, .inr rfl, ?_⟩
    simp
theorem unit_five {z j : Nat} (hz : z = 1 ∨ z = 2) (hj : j < z) {s : Int} (hs : s = 1 ∨ s = -1) : asum (unitQ z j s) (List.replicate z 5) ≤ 16 := by
  have hj2 : j = 0 ∨ j = 1 := by omega
  rcases hz with rfl | rfl <;> rcases hj2 with rfl | rfl <;> (try omega) <;> rcases hs with rfl | rfl <;> decide +kernel
theorem led_unit {z m j : Nat} {parts : List Kp} {s : Int} {q : Kp} (hp : parts.length = z) (hq : parts[j]? = some q) : led (unitQ z j s) (mvW z m parts) (z + m) = (List.range (z + m)).map fun i => (s : Rat) * (moveR z m (z + m) j q).getD i 0 := by
  unfold led
  apply List.map_congr_left
  intro i _
  unfold ledQ
  have e := mvW_at (z := z) (m := m) hq
  have hx : ((mvW z m parts).map fun x => x.1.getD i 0)[j]? = some ((moveR z m (z + m) j q).getD i 0) := by rw [List.getElem?_map, e]; rfl
  exact dot_unitQ hx (by rw [List.length_map, mvW_len, hp])
theorem brought_unit {z m j : Nat} {parts : List Kp} {s : Int} {q : Kp} (hp : parts.length = z) (hq : parts[j]? = some q) : brought (unitQ z j s) (mvW z m parts) = (s : Rat) * q.c := by
  unfold brought
  have e := mvW_at (z := z) (m := m) hq
  have hx : ((mvW z m parts).map (·.2))[j]? = some q.c := by rw [List.getElem?_map, e]; rfl
  exact dot_unitQ hx (by rw [List.length_map, mvW_len, hp])
theorem span_five {s : Rat × Rat} (h : SpK s) : s.2 ≤ 5 ∧ -s.1 ≤ 5 := by
  have h1 := h.lo
  have h2 := h.hi
  exact ⟨h2, by grind⟩
theorem own_taken {p : Nat} {P : Pn} (h : PnsOk p P) : papsB P.ch (tabM P.ch 16) (.tup (ownP P.ch (tabM P.ch 16))) = true := by
  have z0 := h.z0
  have z1 := h.z1
  have hz : P.z = 1 ∨ P.z = 2 := by omega
  have cz : P.ch.z = P.z := rfl
  have cm : P.ch.m = P.m := rfl
  have cf : P.ch.sf = P.sf := rfl
  have tl : (tabM P.ch 16).length = P.ch.sf.length := by simp [tabM]
  refine paps_of tl fun x hx => ?_
  have get : ∀ {i}, i < p → getT (tabM P.ch 16) i = boxM P.z 16 := fun {i} hi => tabM_get (C := P.ch) (by show i < P.sf.length; rw [h.f0]; exact hi)
  simp only [prs, List.mem_append, List.mem_flatMap] at hx
  rcases hx with (⟨s, hs, hx⟩ | ⟨c, hc, hx⟩) | ⟨l, hl, hx⟩
  · obtain ⟨s', hs', rfl⟩ := List.mem_map.mp hs
    have o := h.s s' hs'
    simp only [prsS, get o.p, List.mem_map] at hx
    obtain ⟨w, hw, rfl⟩ := hx
    obtain ⟨j, hj, s, hs2, rfl⟩ := boxM_mem hw
    have b := box_paper (w := P.z) (n := 0) (rest := []) (sp := s'.2) (r := unitQ P.z j s) (ms := List.replicate s'.2.length 5) (b := ((16 : Int) : Rat)) o.l unitQ_len rfl (inM_all (by decide) fun x hx => span_five (o.s x hx)) (by rw [o.l]; exact unit_five hz hj hs2)
    simpa [papS, cz] using b
  · obtain ⟨c', hc', rfl⟩ := List.mem_map.mp hc
    have o := h.c c' hc'
    have gt : getT (tabM P.ch 16) (caseC P.z P.m c'.2.1 c'.1 c'.2.2).t = boxM P.z 16 := get o.b
    have gf : getT (tabM P.ch 16) (caseC P.z P.m c'.2.1 c'.1 c'.2.2).f = boxM P.z 16 := get o.a
    simp only [prsC, gt, List.mem_map] at hx
    obtain ⟨w, hw, rfl⟩ := hx
    obtain ⟨j, hj, s, hs2, rfl⟩ := boxM_mem hw
    have jl : j < c'.2.1.parts.length := by rw [o.k.pl]; exact hj
    have eq : c'.2.1.parts[j]? = some c'.2.1.parts[j] := List.getElem?_eq_getElem jl
    have hq := o.k.pp _ (List.getElem_mem jl)
    generalize c'.2.1.parts[j] = q at eq hq
    have mvE : (caseC P.z P.m c'.2.1 c'.1 c'.2.2).mv = mvW P.z P.m c'.2.1.parts := rfl
    have gE : (caseC P.z P.m c'.2.1 c'.1 c'.2.2).g = boxW (P.z + P.m) P.z c'.2.1.spans ++ heldW (P.z + P.m) 0 c'.2.1.held := rfl
    have lotE : caseL P.m (tabM P.ch 16) (caseC P.z P.m c'.2.1 c'.1 c'.2.2) = boxW (P.z + P.m) 0 (List.replicate P.z (((-16 : Int) : Rat), ((16 : Int) : Rat)) ++ c'.2.1.spans) ++ heldW (P.z + P.m) 0 c'.2.1.held := by
      unfold caseL
      rw [gf, gE, boxM, box_wide (z := P.z) (m := P.m) _ 0 (by simp), box_app, List.length_replicate, Nat.zero_add, List.append_assoc]
    have rl : (led (unitQ P.z j s) (mvW P.z P.m c'.2.1.parts) (P.z + P.m)).length = P.z + P.m := by simp [led]
    have nE : (caseC P.z P.m c'.2.1 c'.1 c'.2.2).g.length - 2 * P.m = (heldW (P.z + P.m) 0 c'.2.1.held).length := by
      rw [gE, List.length_append, boxW_len, o.k.sl]; omega
    have hs3 : (s : Rat) = 1 ∨ (s : Rat) = -1 := by rcases hs2 with rfl | rfl <;> simp
    have bd := case_bound hz h.m hj hq hs3
    rw [← led_unit o.k.pl eq] at bd
    have im : inM (List.replicate P.z (((-16 : Int) : Rat), ((16 : Int) : Rat)) ++ c'.2.1.spans) (List.replicate P.z 16 ++ List.replicate P.m 5) := by
      refine inM_app (inM_rep (by decide) (by decide) (by decide)) ?_
      have := inM_all (m := 5) (by decide) (sp := c'.2.1.spans) fun x hx => span_five (o.k.s x hx)
      rwa [o.k.sl] at this
    have b := box_paper (w := P.z + P.m) (rest := heldW (P.z + P.m) 0 c'.2.1.held) (b := ((16 : Int) : Rat) + -((s : Rat) * q.c)) (by rw [List.length_append, List.length_replicate, o.k.sl]) rl rfl im bd
    simp only [cz, cm]
    rw [lotE, mvE, nE, brought_unit o.k.pl eq]
    exact b
  · obtain ⟨h1, h2⟩ := List.of_mem_zip (a := l.1) (b := l.2) hl
    have e1 : l.1 = boxM P.z 16 := (List.mem_replicate.mp h1).2
    simp only [prsF, List.mem_map] at hx
    obtain ⟨w, hw, rfl⟩ := hx
    have o := h.f l.2 h2 w hw
    have b := box_paper (w := P.z) (n := 0) (rest := []) (sp := List.replicate P.z (((-16 : Int) : Rat), ((16 : Int) : Rat))) (r := w.1) (ms := List.replicate P.z 16) (b := w.2) (by simp) o.l rfl (inM_rep (by decide) (by decide) (by decide)) o.le
    rw [e1]
    simpa [papS, boxM, cz] using b
end Law
set_option Elab.async false
set_option linter.all false
set_option maxRecDepth 100000
set_option maxHeartbeats 8000000
namespace Law
open PySem PySem.Spec PyProof.Rows L2 GxR Gx Dn
/-! bent values whose tuples are told by their depth how long they may be -/
def lv : List Nat → D → Prop
  | [], _ => True
  | m :: ms, d => ∀ ds, d = .tup ds → ds.length ≤ m ∧ ∀ x ∈ ds, lv ms x
def lenOk (L : List Nat) (n : Nat) : Prop := ∀ m ms, L = m :: ms → n ≤ m
def up (L : List Nat) : List Nat := L.map (· + 1)
theorem lv_tup {L : List Nat} {ds : List D} : lv L (.tup ds) ↔ lenOk L ds.length ∧ ∀ x ∈ ds, lv L.tail x := by
  cases L with
  | nil => simp [lv, lenOk]
  | cons m ms =>
    simp only [lv, lenOk, List.tail_cons]
    constructor
    · intro h
      obtain ⟨h1, h2⟩ := h ds rfl
      exact ⟨fun m' ms' e => by cases e; exact h1, h2⟩
    · rintro ⟨h1, h2⟩ es e
      cases e
      exact ⟨h1 _ _ rfl, h2⟩
theorem lv_no {L : List Nat} {d : D} (h : ∀ ds, d ≠ .tup ds) : lv L d := by
  cases L with
  | nil => trivial
  | cons m ms => exact fun ds e => absurd e (h ds)
theorem lenOk_up {L : List Nat} {n : Nat} (h : lenOk L n) : lenOk (up L) (n + 1) := fun m ms e => by
  cases L with
  | nil => cases e
  | cons a as =>
    simp only [up, List.map_cons, List.cons.injEq] at e
    have := h a as rfl
    omega
theorem lenOk_le {L : List Nat} {n k : Nat} (h : lenOk L n) (hk : k ≤ n) : lenOk L k := fun m ms e => Nat.le_trans hk (h m ms e)
theorem up_tail (L : List Nat) : (up L).tail = up L.tail := by cases L <;> rfl
theorem lv_up : ∀ {L : List Nat} {d : D}, lv L d → lv (up L) d
  | [], _, _ => trivial
  | m :: ms, d, h => fun ds e => ⟨Nat.le_succ_of_le (h ds e).1, fun x hx => lv_up ((h ds e).2 x hx)⟩
theorem gD_lv {b : Nat} : ∀ {L : List Nat} {d : D}, gD b 3 d = true → (∀ m ∈ L, 3 ≤ m) → lv L d
  | [], _, _, _ => trivial
  | m :: ms, d, g, h => fun ds e => by
    subst e
    have k : ds.length ≤ 3 := by simp only [gD, Bool.and_eq_true, decide_eq_true_eq] at g; exact g.1
    have := h m List.mem_cons_self
    exact ⟨by omega, fun x hx => gD_lv (gD_items g x hx) fun y hy => h y (List.mem_cons_of_mem _ hy)⟩
theorem up_three {L : List Nat} (h : ∀ m ∈ L, 2 ≤ m) : ∀ m ∈ up L, 3 ≤ m := fun m hm => by
  obtain ⟨k, hk, rfl⟩ := List.mem_map.mp hm
  have := h k hk
  omega
theorem cut_one (ds : List D) : (cutL ds none (some 1)).length ≤ 1 := by
  cases ds with
  | nil => exact Nat.le_trans (cutL_len (xs := ([] : List D)) (lo := none) (hi := some 1)) (Nat.zero_le 1)
  | cons x xs => rw [cut_head]; simp
structure PV (b l : Nat) (L : List Nat) (d : D) : Prop where
  g : gD b l d = true
  v : lv L d
theorem cut_both {ds : List D} {j : Int} (h0 : 0 ≤ j) (h1 : j < ds.length) : (cutL ds none (some j)).length + (cutL ds (some (j + 1)) none).length + 1 ≤ ds.length := by
  obtain ⟨k, rfl⟩ := Int.eq_ofNat_of_zero_le h0
  have hk : k < ds.length := by omega
  have a1 : ¬ ((k : Int) < 0) := by omega
  have a2 : ¬ ((k : Int) + 1 < 0) := by omega
  unfold cutL HT.sIx
  simp [a1, a2]
  omega
section
variable {n t : Nat} {S : Sto} {c : Cell}
theorem bentV_step (hodd : ∀ {n t : Nat} {S : Sto} {c : Cell}, S[n]? = some c → WOk t c → t < 2 ^ 99 → Ok (m__law_odd [.r n] S) (Dw n S (t + 1) (gD 90 3 · = true))) {L : List Nat} (hL : ∀ m ∈ L, 2 ≤ m) {b l N n t : Nat} {S : Sto} {c : Cell} {d : D} (hb : 90 ≤ b) (hb2 : b ≤ 1000) (hl : 3 ≤ l) (hl2 : l ≤ 1000) (hN : N ≤ 50) (hc : S[n]? = some c) (hw : WOk t c) (ht : t + 3 * N < 2 ^ 97) (hp : pS b l N d) (hv : lv L d)
    (ih : ∀ ds x, d = .tup ds → x ∈ ds → ∀ {t' : Nat} {S : Sto} {c : Cell}, S[n]? = some c → WOk t' c → t' ≤ t + 2 → Ok (m__law_bent N [.r n, .d x] S) (Dw n S (t' + 3 * N) (PV (b + 1) (2 * l + 1) (up L.tail)))) :
    Ok (m__law_bent (N + 1) [.r n, .d d] S) (Dw n S (t + 3 * (N + 1)) (PV (b + 1) (2 * l + 1) (up L))) := by
  have hn := lt_of hc
  have two : 2 ^ (b + 1) = 2 * 2 ^ b := pow_up
  have one : 1 ≤ 2 ^ b := Nat.one_le_two_pow
  show Ok (dFn 4 (b__law_bent (fun _ => m__law_bent N) N) [.r n, .d d] S) _
  refine ok_fn ?_
  unfold b__law_bent
  simp [-dIfS_eq]
  have form : ((∃ i : Int, d = .int i ∧ i.natAbs < 2 ^ b) ∨ ∃ s, d = .str s ∧ PyData.strOk s = true) ∨ ∃ ds h, d = .tup ds ∧ ds.length ≤ l ∧ h ≤ 50 ∧ ∀ x ∈ ds, pS b l h x := by
    cases N with
    | zero => exact .inl hp
    | succ h =>
      rcases hp with hp | ⟨ds, e, h1, h2⟩
      · exact .inl hp
      · exact .inr ⟨ds, h, e, h1, by omega, h2⟩
  obtain ⟨Q, hQ⟩ : ∃ Q : Dn.Fl → Sto → Prop, ∀ fl S2, Q fl S2 ↔ (∃ x c', fl = .ret (.d x) ∧ PV (b + 1) (2 * l + 1) (up L) x ∧ S2 = S.set n c' ∧ WOk (t + 3 * (N + 1)) c') ∨ ∃ c', fl = .nx [some (.r n), some (.d d), none, none] ∧ S2 = S.set n c' ∧ WOk (t + 1) c' := ⟨_, fun _ _ => Iff.rfl⟩
  have same : Q (.nx [some (.r n), some (.d d), none, none]) S := (hQ _ _).mpr (.inr ⟨c, rfl, (set_same hc).symm, hw.mono (by omega)⟩)
  refine Ok.mono (Q := Q) ?_ ?_
  · rcases form with (⟨i, rfl, hi⟩ | ⟨s, rfl, _⟩) | ⟨ds, h, rfl, hdl, hh, hx⟩
    · simpa [isi] using same
    · simpa [isi] using same
    · by_cases he : ds = []
      · subst he
        have e := neS_nil (neg := true) (ds := []) hx (by omega) S
        simpa [isi, e] using same
      · simp [isi, neS_nil hx (by omega), he]
        refine (draw_spec hc hw (by omega) (by decide) (by decide)).mono ?_
        rintro _ _ ⟨i, c1, rfl, i0, i1, rfl, w1⟩
        simp
        by_cases hi : 0 < i
        · simp [hi]
          have hpos : 0 < ds.length := List.length_pos_iff.mpr he
          refine (draw_spec (set_at hc c1) w1 (by omega) (by omega) (by omega)).mono ?_
          rintro _ _ ⟨j, c2, rfl, j0, j1, rfl, w2⟩
          obtain ⟨x, e, hxm⟩ := atI_mem j0 j1
          simp [List.set_set, e]
          refine (ih ds x rfl hxm (set_at hc c2) w2 (by omega)).mono ?_
          rintro _ _ ⟨y, c3, rfl, hy, rfl, w3⟩
          have k1 := cutL_len (xs := ds) (lo := none) (hi := some j)
          have k2 := cutL_len (xs := ds) (lo := some (j + 1)) (hi := none)
          have z1 : (cutL ds none (some j)).length + 1 ≤ 16777216 := by omega
          have z2 : (cutL ds none (some j)).length + ((cutL ds (some (j + 1)) none).length + 1) ≤ 16777216 := by omega
          simp [List.set_set, szL, z1, z2]
          have z3 : (cutL ds none (some j)).length + 1 + (cutL ds (some (j + 1)) none).length ≤ 16777216 := by omega
          simp [z3]
          refine (hQ _ _).mpr (.inl ⟨_, c3, rfl, ?_, rfl, w3.mono (by omega)⟩)
          obtain ⟨hv1, hv2⟩ := lv_tup.mp hv
          have cl := cut_both (ds := ds) j0 j1
          refine ⟨?_, ?_⟩
          · simp only [gD, Bool.and_eq_true, decide_eq_true_eq]
            refine ⟨by simp; omega, gDs_all.mpr fun z hz => ?_⟩
            simp at hz
            rcases hz with hz | rfl | hz
            · exact gD_mono (by omega) (by omega) _ (pS_gD (hx z (cutL_mem hz)))
            · exact hy.g
            · exact gD_mono (by omega) (by omega) _ (pS_gD (hx z (cutL_mem hz)))
          · refine lv_tup.mpr ⟨lenOk_le (lenOk_up hv1) (by simp; omega), fun z hz => ?_⟩
            rw [up_tail]
            simp at hz
            rcases hz with hz | rfl | hz
            · exact lv_up (hv2 z (cutL_mem hz))
            · exact hy.v
            · exact lv_up (hv2 z (cutL_mem hz))
        · simp [hi]
          exact (hQ _ _).mpr (.inr ⟨c1, rfl, rfl, w1⟩)
  · rintro fl S2 h
    rcases (hQ _ _).mp h with ⟨x, c1, rfl, hx, rfl, w1⟩ | ⟨c1, rfl, rfl, w1⟩
    · simp [take_set]
      exact ⟨x, c1, rfl, hx, rfl, w1⟩
    · simp
      refine (draw_spec (set_at hc c1) w1 (by omega) (by decide) (by decide)).mono ?_
      rintro _ _ ⟨way, c2, rfl, y0, y1, rfl, w2⟩
      have odd : Ok (m__law_odd [.r n] (S.set n c2)) (Dw n (S.set n c2) (t + 3) (gD 90 3 · = true)) := (hodd (set_at hc c2) w2 (by omega)).mono fun x S' ⟨⟨d', c', a1, a2, a3, a4⟩⟩ => ⟨d', c', a1, a2, a3, a4.mono (by omega)⟩
      have fin : ∀ x S', Dw n (S.set n c2) (t + 3) (gD 90 3 · = true) x S' → Ok (dFin S x S') (Dw n S (t + 3 * (N + 1)) (PV (b + 1) (2 * l + 1) (up L))) := by
        rintro _ _ ⟨d', c', rfl, a2, rfl, a4⟩
        simp [List.set_set, take_set]
        exact ⟨d', c', rfl, ⟨gD_mono (by omega) (by omega) _ a2, gD_lv a2 (up_three hL)⟩, rfl, a4.mono (by omega)⟩
      rcases form with (⟨i, rfl, hi⟩ | ⟨s, rfl, _⟩) | ⟨ds, h, rfl, hdl, hh, hx⟩
      rotate_left
      · simp [isi, List.set_set]
        exact odd.mono fin
      rotate_left
      · simp [isi, List.set_set]
        by_cases q : way < 4
        · have cm : cMul 2 i = true := cMul_of 3 b (by decide) (by omega) (by decide) hi (by omega)
          simp [q, cm, szL]
          obtain ⟨x, e, hx⟩ := atI_mem (xs := [D.int (i + 1), .int (0 - i), .int (2 * i), .bl (decide (i = 1))]) y0 (by simpa using q)
          simp at e
          simp [e, take_set]
          refine ⟨x, c2, rfl, ?_, rfl, w2.mono (by omega)⟩
          simp at hx
          rcases hx with rfl | rfl | rfl | rfl <;> refine ⟨?_, lv_no fun _ e => by cases e⟩ <;> simp only [gD, decide_eq_true_eq] <;> omega
        · simp [q]
          exact odd.mono fin
      · simp [isi, List.set_set]
        by_cases q : way < 5
        · have k1 := cutL_len (xs := ds) (lo := none) (hi := some (-1))
          have k2 := cutL_len (xs := ds) (lo := none) (hi := some 1)
          have k3 := cutL_len (xs := ds) (lo := some 1) (hi := none)
          have z1 : ds.length + (cutL ds none (some 1)).length ≤ 16777216 := by omega
          simp [q, szL, z1]
          obtain ⟨x, e, hm⟩ := atI_mem (xs := [D.lst ds, .tup (cutL ds none (some (-1))), .tup (ds ++ cutL ds none (some 1)), .tup ds.reverse, .tup (cutL ds (some 1) none)]) y0 (by simpa using q)
          simp [e, take_set]
          refine ⟨x, c2, rfl, ?_, rfl, w2.mono (by omega)⟩
          have all : ∀ z ∈ ds, gD (b + 1) (2 * l + 1) z = true := fun z hz => gD_mono (by omega) (by omega) _ (pS_gD (hx z hz))
          obtain ⟨hv1, hv2⟩ := lv_tup.mp hv
          have allv : ∀ z ∈ ds, lv (up L).tail z := fun z hz => by rw [up_tail]; exact lv_up (hv2 z hz)
          have c1 := cut_one ds
          have tv : ∀ es : List D, es.length ≤ ds.length + 1 → (∀ z ∈ es, z ∈ ds) → PV (b + 1) (2 * l + 1) (up L) (.tup es) := fun es h1 h2 => by
            refine ⟨?_, lv_tup.mpr ⟨lenOk_le (lenOk_up hv1) h1, fun z hz => allv z (h2 z hz)⟩⟩
            simp only [gD, Bool.and_eq_true, decide_eq_true_eq]
            exact ⟨by omega, gDs_all.mpr fun z hz => all z (h2 z hz)⟩
          simp at hm
          rcases hm with rfl | rfl | rfl | rfl | rfl
          · refine ⟨?_, lv_no fun _ e => by cases e⟩
            simp only [gD, Bool.and_eq_true, decide_eq_true_eq]
            exact ⟨by omega, gDs_all.mpr all⟩
          · exact tv _ (by omega) fun z hz => cutL_mem hz
          · exact tv _ (by simp; omega) fun z hz => (List.mem_append.mp hz).elim id fun hz => cutL_mem hz
          · exact tv _ (by simp) fun z hz => by simpa using hz
          · exact tv _ (by omega) fun z hz => cutL_mem hz
        · simp [q]
          exact odd.mono fin
theorem bentV_spec (hodd : ∀ {n t : Nat} {S : Sto} {c : Cell}, S[n]? = some c → WOk t c → t < 2 ^ 99 → Ok (m__law_odd [.r n] S) (Dw n S (t + 1) (gD 90 3 · = true))) {b l : Nat} (hb : 90 ≤ b) (hb2 : b ≤ 1000) (hl : 3 ≤ l) (hl2 : l ≤ 1000) : ∀ (N : Nat) {L : List Nat} {n t : Nat} {S : Sto} {c : Cell} {d : D}, (∀ m ∈ L, 2 ≤ m) → N ≤ 50 → S[n]? = some c → WOk t c → t + 3 * N < 2 ^ 97 → pS b l N d → lv L d →
    Ok (m__law_bent (N + 1) [.r n, .d d] S) (Dw n S (t + 3 * (N + 1)) (PV (b + 1) (2 * l + 1) (up L))) := by
  intro N
  induction N with
  | zero =>
    intro L n t S c d hL hN hc hw ht hp hv
    refine bentV_step hodd hL hb hb2 hl hl2 hN hc hw (by omega) hp hv ?_
    rintro ds x rfl
    rcases hp with ⟨i, e, _⟩ | ⟨s, e, _⟩ <;> cases e
  | succ N ih =>
    intro L n t S c d hL hN hc hw ht hp hv
    refine bentV_step hodd hL hb hb2 hl hl2 hN hc hw (by omega) hp hv ?_
    rintro ds x rfl hx t' S c hc hw ht'
    refine ih (fun m hm => hL m (List.mem_of_mem_tail hm)) (by omega) hc hw (by omega) ?_ ((lv_tup.mp hv).2 x hx)
    rcases hp with (⟨i, e, _⟩ | ⟨s, e, _⟩) | ⟨es, e, _, h⟩
    · cases e
    · cases e
    · cases e; exact h x hx
end
end Law
set_option Elab.async false
set_option linter.all false
set_option maxRecDepth 100000
set_option maxHeartbeats 8000000
namespace Law
open PySem PySem.Spec PyProof.Rows L2 GxR Gx Dn
def oddL : List D := [.non, .bl true, .bl false, .int 0, .int 1, .int (-1), .int 13, .int 10000000000000000000000000, .str "", .str "1", .tup [], .tup [.int 1], .tup [.int 0, .int 1], .tup [.int 1, .int 1], .tup [.int 2, .int 2], .tup [.int 0, .int 2], .tup [.int 1, .int 0],
  .tup [.int 1, .int (-1)], .tup [.bl true, .int 1], .tup [.int 1, .bl true], .tup [.int 1, .int 1, .int 1], .tup [.tup [.int 1, .int 1]], .lst [], .lst [.int 1, .int 1], .dic, .tup [.non, .int 1], .tup [.str "1", .int 1], .tup [.int 1, .tup []]]
theorem odd_gD {d : D} (h : d ∈ oddL) : gD 90 3 d = true := gDs_all.mp (by decide +kernel : gDs 90 3 oddL = true) d h
section
variable {n t : Nat} {S : Sto} {c : Cell}
theorem odd_spec (hc : S[n]? = some c) (hw : WOk t c) (ht : t < 2 ^ 99) : Ok (m__law_odd [.r n] S) (Dw n S (t + 1) (gD 90 3 · = true)) := by
  unfold m__law_odd
  refine ok_fn ?_
  unfold b__law_odd
  have cp : cPow 10 25 = true := by decide
  simp [szL, cp]
  refine (of_spec hc hw (by omega) (by simp) (by simp)).mono ?_
  rintro _ _ ⟨d, c1, rfl, hd, rfl, w⟩
  simp [take_set]
  exact ⟨d, c1, rfl, odd_gD hd, rfl, w⟩
end
def PapD (b : Nat) (d : D) : Prop := ∃ qs : List Rat, d = .tup [.str "bound", drow qs] ∧ qs.length ≤ 16 ∧ ∀ q ∈ qs, qb b q
theorem PapD.mono {b b' : Nat} {d : D} (h : PapD b d) (hb : b ≤ b') : PapD b' d := by
  obtain ⟨qs, e, l, q⟩ := h
  exact ⟨qs, e, l, fun x hx => qb_mono (q x hx) hb⟩
theorem qb_nought {b : Nat} (hb : 1 ≤ b) : qb b 0 := qb_mono qb_zero hb
theorem sgn_qb {b : Nat} (hb : 1 ≤ b) : ∀ {rs : List Rat}, (∀ q ∈ rs, qb b q) → ∀ q ∈ sgn rs, qb b q
  | [], _, q, hq => by simp [sgn] at hq
  | r :: rs, h, q, hq => by
    have hr := h r List.mem_cons_self
    simp only [sgn, List.mem_cons] at hq
    rcases hq with rfl | rfl | hq
    · split
      · exact hr
      · exact qb_nought hb
    · split
      · exact qb_neg hr
      · exact qb_nought hb
    · exact sgn_qb hb (fun x hx => h x (List.mem_cons_of_mem _ hx)) q hq
theorem papS_D {b : Nat} {r : List Rat} (hb : 1 ≤ b) (hl : r.length ≤ 8) (h : ∀ q ∈ r, qb b q) : PapD b (papS r) := ⟨sgn r, rfl, by rw [sgn_len]; omega, sgn_qb hb h⟩
theorem papC_D {b m : Nat} {r : List Rat} (hb : 1 ≤ b) (hl : 2 * r.length + m ≤ 16) (h : ∀ q ∈ r, qb b q) : PapD b (papC r m) :=
  ⟨sgn r ++ List.replicate m 0, rfl, by rw [List.length_append, sgn_len, List.length_replicate]; omega, fun q hq => (List.mem_append.mp hq).elim (sgn_qb hb h q) fun e => by rw [(List.mem_replicate.mp e).2]; exact qb_nought hb⟩
theorem ownP_D {p : Nat} {P : Pn} {M : Int} (h : PnsOk p P) (hp0 : 1 ≤ p) (hp : p ≤ 3) : ∀ d ∈ ownP P.ch (tabM P.ch M), PapD 12 d := by
  have z0 := h.z0
  have z1 := h.z1
  have cz : P.ch.z = P.z := rfl
  have cm : P.ch.m = P.m := rfl
  have ck : ChOk 8 12 P.ch := pn_ok h hp0 hp (Nat.le_refl _)
  have get : ∀ {i}, i < p → getT (tabM P.ch M) i = boxM P.z M := fun {i} hi => tabM_get (C := P.ch) (by show i < P.sf.length; rw [h.f0]; exact hi)
  intro d hd
  simp only [ownP, List.mem_append, List.mem_flatMap] at hd
  rcases hd with (⟨s, hs, hd⟩ | ⟨c, hc, hd⟩) | ⟨l, hl, hd⟩
  · obtain ⟨s', hs', rfl⟩ := List.mem_map.mp hs
    have o := h.s s' hs'
    simp only [startP, get o.p, List.mem_map] at hd
    obtain ⟨w, hw, rfl⟩ := hd
    obtain ⟨j, hj, s, hs2, rfl⟩ := boxM_mem hw
    refine papS_D (by decide) (by rw [unitQ_len]; omega) fun q hq => qb_mono (unitQ_qb (by rcases hs2 with rfl | rfl <;> decide) q hq) (by decide)
  · have gl := (ck.c c hc).g.l
    obtain ⟨c', hc', rfl⟩ := List.mem_map.mp hc
    have o := h.c c' hc'
    have gt : getT (tabM P.ch M) (caseC P.z P.m c'.2.1 c'.1 c'.2.2).t = boxM P.z M := get o.b
    simp only [caseP, gt, List.mem_map] at hd
    obtain ⟨w, hw, rfl⟩ := hd
    obtain ⟨j, hj, s, hs2, rfl⟩ := boxM_mem hw
    have jl : j < c'.2.1.parts.length := by rw [o.k.pl]; exact hj
    have eq : c'.2.1.parts[j]? = some c'.2.1.parts[j] := List.getElem?_eq_getElem jl
    have hq := o.k.pp _ (List.getElem_mem jl)
    generalize c'.2.1.parts[j] = q at eq hq
    have mvE : (caseC P.z P.m c'.2.1 c'.1 c'.2.2).mv = mvW P.z P.m c'.2.1.parts := rfl
    have hm : P.m ≤ 2 := by rcases h.m with e | e <;> omega
    simp only [cz, cm, mvE]
    rw [led_unit o.k.pl eq]
    refine papC_D (by decide) (by simp; omega) fun x hx => ?_
    obtain ⟨i, hi, rfl⟩ := List.mem_map.mp hx
    have hi := List.mem_range.mp hi
    have e1 : qb 1 (s : Rat) := qb_int (by rcases hs2 with rfl | rfl <;> decide) (by decide)
    have il : i < (moveR P.z P.m (P.z + P.m) j q).length := by rw [moveR_len]; exact hi
    have e2 : qb 4 ((moveR P.z P.m (P.z + P.m) j q).getD i 0) := by
      rw [List.getD_eq_getElem?_getD, List.getElem?_eq_getElem il]
      exact moveR_qb hq _ (List.getElem_mem il)
    exact qb_mono (qb_mul e1 e2) (by decide)
  · simp only [safeP, List.mem_map] at hd
    obtain ⟨w, hw, rfl⟩ := hd
    have o := h.f l hl w hw
    refine papS_D (by decide) (by rw [o.l]; omega) fun q hq => qb_mono (o.q q hq) (by decide)
theorem ownP_len {p : Nat} {P : Pn} {M : Int} (h : PnsOk p P) (hp : p ≤ 3) : 1 ≤ (ownP P.ch (tabM P.ch M)).length ∧ (ownP P.ch (tabM P.ch M)).length ≤ 29 := by
  have z0 := h.z0
  have z1 := h.z1
  have s0 := h.s0
  have s1 := h.s1
  have c1 := h.c1
  have f0 := h.f0
  have get : ∀ {i}, i < p → getT (tabM P.ch M) i = boxM P.z M := fun {i} hi => tabM_get (C := P.ch) (by show i < P.sf.length; rw [h.f0]; exact hi)
  have ls : ∀ s ∈ P.ch.st, (startP (tabM P.ch M) s).length = 2 * P.z := fun s hs => by
    obtain ⟨s', hs', rfl⟩ := List.mem_map.mp hs
    simp only [startP, get (h.s s' hs').p, List.length_map, boxM_len]
  have lc : ∀ c ∈ P.ch.cs, (caseP P.ch.z P.ch.m (tabM P.ch M) c).length ≤ 4 := fun c hc => by
    obtain ⟨c', hc', rfl⟩ := List.mem_map.mp hc
    have gt : getT (tabM P.ch M) (caseC P.z P.m c'.2.1 c'.1 c'.2.2).t = boxM P.z M := get (h.c c' hc').b
    simp only [caseP, gt, List.length_map, boxM_len]
    omega
  have lf : ∀ l ∈ P.ch.sf, (safeP l).length ≤ 3 := fun l hl => by
    simp only [safeP, List.length_map]
    exact h.f1 l hl
  have a := flat_le (f := startP (tabM P.ch M)) (B := 4) (xs := P.ch.st) fun s hs => by rw [ls s hs]; omega
  have b := flat_le lc
  have d := flat_le lf
  have es : P.ch.st.length = P.st.length := List.length_map _
  have ec : P.ch.cs.length = P.pn.length := List.length_map _
  have ef : P.ch.sf.length = p := h.f0
  simp only [ownP, List.length_append]
  refine ⟨?_, by omega⟩
  cases e : P.ch.st with
  | nil => rw [e] at es; simp at es; omega
  | cons s r =>
    have := ls s (by rw [e]; exact List.mem_cons_self)
    simp only [List.flatMap_cons, List.length_append]
    omega
/-! the shapes of tables and papers -/
theorem pS_int {b l : Nat} {i : Int} (hi : i.natAbs < 2 ^ b) (h : Nat) : pS b l h (.int i) := pS_of (pD_int hi h)
theorem pS_dq {b l : Nat} {q : Rat} (h : qb b q) (hl : 2 ≤ l) : pS b l 1 (dq q) := pS_tup (by simpa using hl) fun x hx => by
  simp only [List.mem_cons, List.not_mem_nil, or_false] at hx
  rcases hx with rfl | rfl
  · exact pS_int h.n 0
  · exact pS_int (by simpa using h.d) 0
theorem pS_row {b l : Nat} {qs : List Rat} (h : ∀ q ∈ qs, qb b q) (hl : 2 ≤ l) (hq : qs.length ≤ l) : pS b l 2 (drow qs) := pS_tup (by simpa using hq) fun x hx => by
  obtain ⟨q, hq, rfl⟩ := List.mem_map.mp hx
  exact pS_dq (h q hq) hl
theorem pS_wish {b l z : Nat} {w : Wish} (h : wb z b w) (hl : 2 ≤ l) (hz : z ≤ l) : pS b l 3 (dwish w) := pS_tup (by simpa using hl) fun x hx => by
  simp only [List.mem_cons, List.not_mem_nil, or_false] at hx
  rcases hx with rfl | rfl
  · exact pS_row h.r hl (by rw [h.l]; exact hz)
  · exact pS_up (pS_dq h.b hl)
theorem pS_lot {b l z m : Nat} {ws : List Wish} (h : lb z m b ws) (hl : 2 ≤ l) (hz : z ≤ l) (hm : m ≤ l) (hb : z < 2 ^ b) : pS b l 5 (dlot z ws) := pS_tup (by simpa using hl) fun x hx => by
  simp only [List.mem_cons, List.not_mem_nil, or_false] at hx
  rcases hx with rfl | rfl
  · exact pS_int (by simpa using hb) 4
  · refine pS_tup (by have := h.l; simp; omega) fun y hy => ?_
    obtain ⟨w, hw, rfl⟩ := List.mem_map.mp hy
    exact pS_wish (h.w w hw) hl hz
theorem pS_tab {b l z p m : Nat} {T : List (List Wish)} (h : ∀ ws ∈ T, lb z m b ws) (ht : T.length ≤ l) (hl : 2 ≤ l) (hz : z ≤ l) (hm : m ≤ l) (hb : z < 2 ^ b) : pS b l 6 (dtab z T) := pS_tup (by simpa using ht) fun x hx => by
  obtain ⟨ws, hw, rfl⟩ := List.mem_map.mp hx
  exact pS_lot (h ws hw) hl hz hm hb
theorem pS_pap {b l : Nat} {d : D} (h : PapD b d) (hl : 16 ≤ l) : pS b l 3 d := by
  obtain ⟨qs, rfl, l1, q⟩ := h
  refine pS_tup (by simp; omega) fun x hx => ?_
  simp only [List.mem_cons, List.not_mem_nil, or_false] at hx
  rcases hx with rfl | rfl
  · exact pS_str (by decide +kernel) 2
  · exact pS_row q (by omega) (by omega)
theorem pS_own {b l z m : Nat} {T : List (List Wish)} {ps : List D} (h : ∀ ws ∈ T, lb z m b ws) (ht : T.length ≤ l) (hl : 16 ≤ l) (hz : z ≤ l) (hm : m ≤ l) (hb : z < 2 ^ b) (hp : ∀ d ∈ ps, PapD b d) (hpl : ps.length ≤ l) : pS b l 7 (.tup [dtab z T, .tup ps]) := pS_tup (by simp; omega) fun x hx => by
  simp only [List.mem_cons, List.not_mem_nil, or_false] at hx
  rcases hx with rfl | rfl
  · exact pS_tab (p := 0) h ht (by omega) hz hm hb
  · exact pS_le (h := 4) (pS_tup hpl fun y hy => pS_pap (hp y hy) hl) 2
theorem lv_own {a c e f z b : Nat} {T : List (List Wish)} {ps : List D} (ha : 2 ≤ a) (he : 2 ≤ e) (hf : 16 ≤ f) (ht : T.length ≤ c) (hw : ∀ ws ∈ T, ws.length ≤ f) (hp : ∀ d ∈ ps, PapD b d) (hpl : ps.length ≤ c) : lv [a, c, e, f] (.tup [dtab z T, .tup ps]) := by
  have le : ∀ {m k : Nat} {ms : List Nat}, k ≤ m → lenOk (m :: ms) k := fun {m k ms} hk m' ms' e => by cases e; exact hk
  refine lv_tup.mpr ⟨le (by simpa using ha), fun x hx => ?_⟩
  simp only [List.mem_cons, List.not_mem_nil, or_false] at hx
  rcases hx with rfl | rfl
  · refine lv_tup.mpr ⟨le (by simpa using ht), fun y hy => ?_⟩
    obtain ⟨ws, hws, rfl⟩ := List.mem_map.mp hy
    refine lv_tup.mpr ⟨le (by simpa using he), fun v hv => ?_⟩
    simp only [List.mem_cons, List.not_mem_nil, or_false] at hv
    rcases hv with rfl | rfl
    · exact lv_no fun _ e => by cases e
    · exact lv_tup.mpr ⟨le (by simpa using hw ws hws), fun _ _ => trivial⟩
  · refine lv_tup.mpr ⟨le hpl, fun y hy => ?_⟩
    obtain ⟨qs, rfl, l1, _⟩ := hp y hy
    refine lv_tup.mpr ⟨le (by simpa using he), fun v hv => ?_⟩
    simp only [List.mem_cons, List.not_mem_nil, or_false] at hv
    rcases hv with rfl | rfl
    · exact lv_no fun _ e => by cases e
    · exact lv_tup.mpr ⟨le (by simp; omega), fun _ _ => trivial⟩
theorem few_of {a c e N : Nat} {r : List Nat} {d : D} (h : lv (a :: c :: e :: N :: r) d) : Few N d := ⟨fun t p e1 z T e2 ws hw => by
  subst e1
  have h1 := (lv_tup.mp h).2 t List.mem_cons_self
  subst e2
  have h2 := (lv_tup.mp h1).2 (dlot z ws) (List.mem_map_of_mem hw)
  have h3 := (lv_tup.mp h2).2 (.tup (ws.map dwish)) (by simp)
  have h4 := (lv_tup.mp h3).1 N r rfl
  simpa using h4⟩
end Law
set_option Elab.async false
set_option linter.all false
set_option maxRecDepth 100000
set_option maxHeartbeats 8000000
namespace Law
open PySem PySem.Spec PyProof.Rows L2 GxR Gx Dn
def PapsD (b l : Nat) (d : D) : Prop := ∃ ps, d = .tup ps ∧ ps.length ≤ l ∧ ∀ x ∈ ps, PapD b x
section
variable {n t : Nat} {S : Sto} {c : Cell}
theorem moved_weight_spec {ps : List D} {b l : Nat} (hc : S[n]? = some c) (hw : WOk t c) (ht : t < 2 ^ 95) (h0 : 1 ≤ ps.length) (h1 : ps.length ≤ l) (hl : l ≤ 1000) (hp : ∀ x ∈ ps, PapD b x) (hb : 1 ≤ b) (hb2 : b ≤ 80) :
    Ok (m__law_moved_weight [.r n, .d (.tup ps)] S) (Dw n S (t + 3) (PapsD (b + 4) l)) := by
  have hn := lt_of hc
  unfold m__law_moved_weight
  refine ok_fn ?_
  unfold b__law_moved_weight
  simp [-dIfS_eq]
  refine (draw_spec hc hw (by omega) (by omega) (by omega)).mono ?_
  rintro _ _ ⟨j, c1, rfl, j0, j1, rfl, w1⟩
  obtain ⟨x, e, hx⟩ := atI_mem (xs := ps) j0 j1
  obtain ⟨qs, rfl, ql, hq⟩ := hp _ hx
  simp [-dIfS_eq, e]
  have nn : ∀ S : Sto, oEq (.d (.tup (qs.map dq))) (.d (.tup [])) S = .ok (.d (.bl (decide (qs = [])))) S := fun S => by
    have := neS_nil (neg := false) (b := b) (l := 2) (h := 1) (ds := qs.map dq) (fun x hx => by
      obtain ⟨q, hq', rfl⟩ := List.mem_map.mp hx
      exact pS_dq (hq q hq') (by decide)) (by decide) S
    simpa using this
  by_cases he : qs = []
  · rw [dIfS_eq]
    simp [drow, nn]
    simp [he, take_set]
    exact ⟨.tup ps, c1, rfl, ⟨ps, rfl, h1, fun x hx => (hp x hx).mono (by omega)⟩, rfl, w1.mono (by omega)⟩
  · have hpos : 0 < qs.length := List.length_pos_iff.mpr he
    rw [dIfS_eq]
    simp [drow, nn]
    simp [he]
    refine (draw_spec (set_at hc c1) w1 (by omega) (by omega) (by omega)).mono ?_
    rintro _ _ ⟨i, c2, rfl, i0, i1, rfl, w2⟩
    obtain ⟨y, e2, hy⟩ := atI_mem (xs := qs.map dq) i0 (by simpa using i1)
    obtain ⟨q, hq', rfl⟩ := List.mem_map.mp hy
    simp [List.set_set, e2, szL]
    refine (of_spec (set_at hc c2) w2 (by omega) (by simp) (by simp)).mono ?_
    rintro _ _ ⟨d, c3, rfl, hd, rfl, w3⟩
    obtain ⟨r, rfl, hr⟩ := fr_lit (m := 2) (by decide +kernel) hd
    have z1 := cutL_len (xs := qs.map dq) (lo := none) (hi := some i)
    have z2 := cutL_len (xs := qs.map dq) (lo := some (i + 1)) (hi := none)
    have z3 := cutL_len (xs := ps) (lo := none) (hi := some j)
    have z4 := cutL_len (xs := ps) (lo := some (j + 1)) (hi := none)
    have z5 := cut_both (ds := ps) j0 j1
    have z6 := cut_both (ds := qs.map dq) i0 (by simpa using i1)
    rw [List.length_map] at z1 z2 z6
    have y1 : (cutL (qs.map dq) none (some i)).length + 1 ≤ 16777216 := by omega
    have y2 : (cutL (qs.map dq) none (some i)).length + 1 + (cutL (qs.map dq) (some (i + 1)) none).length ≤ 16777216 := by omega
    have y3 : (cutL ps none (some j)).length + 1 ≤ 16777216 := by omega
    have y4 : (cutL ps none (some j)).length + 1 + (cutL ps (some (j + 1)) none).length ≤ 16777216 := by omega
    have y5 : (cutL (qs.map dq) none (some i)).length + ((cutL (qs.map dq) (some (i + 1)) none).length + 1) ≤ 16777216 := by omega
    have y6 : (cutL ps none (some j)).length + ((cutL ps (some (j + 1)) none).length + 1) ≤ 16777216 := by omega
    simp [List.set_set, plus_eq _ (hq q hq') hr (by omega), szL, y1, y2, y3, y4, y5, y6, take_set]
    have mem : ∀ {lo hi} {x : D}, x ∈ cutL (qs.map dq) lo hi → ∃ q, x = dq q ∧ qb (b + 4) q := fun {lo hi x} hx => by
      obtain ⟨q, h1, rfl⟩ := List.mem_map.mp (cutL_mem hx)
      exact ⟨q, rfl, qb_mono (hq q h1) (by omega)⟩
    obtain ⟨rs, er, hrs⟩ := map_of (e := dq) (R := qb (b + 4)) (P := fun x => ∃ q, x = dq q ∧ qb (b + 4) q) (fun d h => h) (ds := cutL (qs.map dq) none (some i) ++ dq (q + r) :: cutL (qs.map dq) (some (i + 1)) none) (fun x hx => by
      rcases List.mem_append.mp hx with hx | hx
      · exact mem hx
      · rcases List.mem_cons.mp hx with rfl | hx
        · exact ⟨_, rfl, qb_mono (qb_add (hq q hq') hr) (by omega)⟩
        · exact mem hx)
    have lr : rs.length ≤ 16 := by
      have := congrArg List.length er
      simp at this
      omega
    refine ⟨_, c3, rfl, ⟨_, rfl, ?_, ?_⟩, rfl, w3.mono (by omega)⟩
    · simp; omega
    · intro x hx
      rcases List.mem_append.mp hx with hx | hx
      · exact (hp _ (cutL_mem hx)).mono (by omega)
      · rcases List.mem_cons.mp hx with rfl | hx
        · exact ⟨rs, by rw [drow, ← er], lr, hrs⟩
        · exact (hp _ (cutL_mem hx)).mono (by omega)
end
theorem is_table_gen {C : Ch} {n k' k l : Nat} {d : D} (S : Sto) (h : ChOk n k' C) (hn : n ≤ 40) (hk : 4 ≤ k') (g : gD k l d = true) : m_is_table [.d (dch C), .d d] S = .ok (.d (.bl (hasB C d))) S := by
  refine ok_eq ?_
  unfold m_is_table
  refine ok_fn ?_
  unfold b_is_table
  simp [check_chart_eq _ h hn hk, has_lots_gen _ g]
end Law
set_option Elab.async false
set_option linter.all false
set_option maxRecDepth 100000
set_option maxHeartbeats 8000000
namespace Law
open PySem PySem.Spec PyProof.Rows L2 GxR Gx Dn
def PVo (d : D) : Prop := PV 91 61 [3, 30, 3, 17] d
section
variable {n t : Nat} {S : Sto} {c : Cell}
theorem right_spec (hc : S[n]? = some c) (hw : WOk t c) (ht : t < 2 ^ 90) : Ok (m__law_right [.r n] S) (Dw n S (t + 2000) (· = .bl true)) := by
  have hn := lt_of hc
  unfold m__law_right
  refine ok_fn ?_
  unfold b__law_right
  simp [-dFor_eq, -dIfS_eq, szL]
  refine (draw_spec hc hw (by omega) (by decide) (by decide)).mono ?_
  rintro _ _ ⟨p0, c1, rfl, p00, p01, rfl, w1⟩
  obtain ⟨p, ep, p1, p2⟩ : ∃ p : Nat, (1 : Int) + p0 = p ∧ 1 ≤ p ∧ p ≤ 3 := ⟨(1 + p0).toNat, by omega, by omega, by omega⟩
  simp [-dFor_eq, -dIfS_eq, ep]
  refine (planned_spec (p := p) (fun d hd => fr_litR (m := 4) (lo := -(1 / 2)) (hi := 1 / 2) (by decide +kernel) (by decide +kernel) hd) (by simp) (by simp) (set_at hc c1) w1 (by omega) p1 p2).mono ?_
  rintro _ _ ⟨x, c2, rfl, ⟨P, x1, x2, rfl, hP⟩, rfl, w2⟩
  have ck : ChOk 8 12 P.ch := pn_ok hP p1 p2 (Nat.le_refl _)
  have hz : P.ch.z ≤ 2 := hP.z1
  have hz0 : 1 ≤ P.ch.z := hP.z0
  have hsf : P.ch.sf.length = p := hP.f0
  have hg : ∀ c ∈ P.ch.cs, 2 * P.ch.m ≤ c.g.length := fun c hc => by
    obtain ⟨c', hc', rfl⟩ := List.mem_map.mp hc
    have o := hP.c c' hc'
    show 2 * P.m ≤ (boxW (P.z + P.m) P.z c'.2.1.spans ++ heldW (P.z + P.m) 0 c'.2.1.held).length
    rw [List.length_append, boxW_len, o.k.sl]
    omega
  have hT : ∀ M : Int, M.natAbs ≤ 20 → TbOk P.ch.z P.ch.sf.length 8 12 (tabM P.ch M) := fun M hM => by
    have a := tabM_ok (C := P.ch) (k := 12) hM (by decide) hz
    exact ⟨a.l, fun ws hw => lb_mono (a.w ws hw) (by decide) (Nat.le_refl _)⟩
  have hT4 : ∀ M : Int, M.natAbs ≤ 20 → ∀ ws ∈ tabM P.ch M, lb P.ch.z 4 12 ws := fun M hM => (tabM_ok (C := P.ch) (k := 12) hM (by decide) hz).w
  have tl : ∀ M : Int, (tabM P.ch M).length = p := fun M => by simp [tabM, hsf]
  have oT : ∀ (M : Int) (T : Sto), m__law_own_table [.d (dch P.ch), .d (.int M)] T = .ok (.d (dtab P.ch.z (tabM P.ch M))) T := fun M T => own_table_eq T (by omega) (by omega)
  have oP : ∀ M : Int, M.natAbs ≤ 20 → ∀ T : Sto, m__law_own_papers [.d (dch P.ch), .d (dtab P.ch.z (tabM P.ch M))] T = .ok (.d (.tup (ownP P.ch (tabM P.ch M)))) T := fun M hM T => own_papers_eq T ck (hT M hM) (by decide) (by decide) hg
  have pD : ∀ M : Int, ∀ d ∈ ownP P.ch (tabM P.ch M), PapD 12 d := fun M => ownP_D hP p1 p2
  have pl : ∀ M : Int, 1 ≤ (ownP P.ch (tabM P.ch M)).length ∧ (ownP P.ch (tabM P.ch M)).length ≤ 29 := fun M => ownP_len hP p2
  have tk := own_taken hP
  have oT16 := oT 16
  have oP16 := oP 16 (by decide)
  have pD16 := pD 16
  have pl16 := pl 16
  have hT16 := hT 16 (by decide)
  have hT416 := hT4 16 (by decide)
  have tl16 := tl 16
  clear hP
  generalize P.ch = C at *
  generalize tabM C 16 = T16 at *
  generalize ownP C T16 = ps at *
  -- the shapes
  have own : ∀ (M : Int) (q : List D) (T : List (List Wish)), T.length = p → (∀ ws ∈ T, lb C.z 4 12 ws) → (∀ x ∈ q, PapD 90 x) → q.length ≤ 30 → PVo (.tup [dtab C.z T, .tup q]) := fun M q T h1 h2 h3 h4 =>
    ⟨pS_gD (pS_own (b := 91) (l := 61) (m := 4) (fun ws hw => lb_mono (h2 ws hw) (Nat.le_refl _) (by decide)) (by omega) (by decide) (by omega) (by decide) (Nat.lt_of_le_of_lt hz (by decide)) (fun x hx => (h3 x hx).mono (by decide)) (by omega)),
      lv_own (b := 90) (by decide) (by decide) (by decide) (by omega) (fun ws hw => by have := (h2 ws hw).l; omega) h3 h4⟩
  have judge : ∀ {d : D} (T : Sto), PVo d → ∃ v : Bool, m_takes [.d (dch C), .d d] T = .ok (.d (.bl v)) T ∧ m__law_takes [.d (dch C), .d d] T = .ok (.d (.bl v)) T ∧ ∀ U q, d = .tup [dtab C.z U, q] → TbOk C.z C.sf.length 40 91 U → v = papsB C U q := fun {d} T h =>
    takes_eq (n := 8) (N := 17) (k := 91) (l := 61) T ⟨ck.z0, ck.z1, ck.m1, ck.zm, ck.s0, ck.s1, ck.c1, ck.p0, ck.p1, fun s hs => ⟨(ck.s s hs).1, lb_mono (ck.s s hs).2 (Nat.le_refl _) (by decide)⟩, fun c hc => ⟨(ck.c c hc).f, (ck.c c hc).t, lb_mono (ck.c c hc).g (Nat.le_refl _) (by decide), (ck.c c hc).ml, fun x hx => ⟨((ck.c c hc).mw x hx).l, fun q hq => qb_mono (((ck.c c hc).mw x hx).r q hq) (by decide), qb_mono ((ck.c c hc).mw x hx).b (by decide)⟩⟩, fun l hl => lb_mono (ck.f l hl) (Nat.le_refl _) (by decide)⟩ h.g (few_of h.v) (by decide) (by decide) (by decide) (by decide) (by decide)
  have pD90 : ∀ x ∈ ps, PapD 90 x := fun x hx => (pD16 x hx).mono (by decide)
  obtain ⟨v, jv1, jv2, jv⟩ := judge (S.set n c2) (own 0 ps T16 tl16 hT416 pD90 (by omega))
  have jv := jv T16 (.tup ps) rfl ⟨hT16.l, fun ws hw => lb_mono (hT16.w ws hw) (by decide) (by decide)⟩
  rw [tk] at jv
  subst jv
  simp [-dFor_eq, -dIfS_eq, List.set_set, oT16, oP16]
  rw [dIfS_eq]
  simp [-dFor_eq, jv1, jv2]
  have c1l := cut_one ps
  have c2l := cutL_len (xs := ps) (lo := none) (hi := some (-1))
  have z1 : ps.length + (cutL ps none (some 1)).length ≤ 16777216 := by omega
  simp [-dFor_eq, szL, z1]
  refine (of_spec (set_at hc c2) w2 (by omega) (by simp) (by simp)).mono ?_
  rintro _ _ ⟨dM, c3, rfl, hM, rfl, w3⟩
  obtain ⟨M, rfl, M0, M1⟩ := int_lit (lo := 12) (hi := 17) (by decide +kernel) hM
  have hM20 : M.natAbs ≤ 20 := by omega
  have oTM := oT M
  have oPM := oP M hM20
  have pDM := pD M
  have plM := pl M
  have hTM := hT M hM20
  have hT4M := hT4 M hM20
  have tlM := tl M
  generalize tabM C M = TM at *
  generalize ownP C TM = pn at *
  simp [-dFor_eq, List.set_set, oTM]
  refine (moved_weight_spec (b := 12) (l := 29) (set_at hc c3) w3 (by omega) pl16.1 pl16.2 (by decide) pD16 (by decide) (by decide)).mono ?_
  rintro _ _ ⟨dm, c4, rfl, ⟨pm, rfl, pml, pmD⟩, rfl, w4⟩
  have v1 : PVo (.tup [dtab C.z T16, .tup pm]) := own 0 pm T16 tl16 hT416 (fun x hx => (pmD x hx).mono (by decide)) (by omega)
  have v2 : PVo (.tup [dtab C.z T16, .tup (cutL ps none (some (-1)))]) := own 0 _ T16 tl16 hT416 (fun x hx => pD90 x (cutL_mem hx)) (by omega)
  have v3 : PVo (.tup [dtab C.z T16, .tup (ps ++ cutL ps none (some 1))]) := own 0 _ T16 tl16 hT416 (fun x hx => (List.mem_append.mp hx).elim (pD90 x) fun hx => pD90 x (cutL_mem hx)) (by simp; omega)
  have v4 : PVo (.tup [dtab C.z TM, .tup ps]) := own 0 ps TM tlM hT4M pD90 (by omega)
  have v5 : PVo (.tup [dtab C.z TM, .tup pn]) := own 0 pn TM tlM hT4M (fun x hx => (pDM x hx).mono (by decide)) (by omega)
  have so : pS 90 30 15 (.tup [dtab C.z T16, .tup ps]) := pS_le (h := 7) (pS_own (m := 4) (fun ws hw => lb_mono (hT416 ws hw) (Nat.le_refl _) (by decide)) (by omega) (by decide) (by omega) (by decide) (Nat.lt_of_le_of_lt hz (by decide)) pD90 (by omega)) 8
  have lo : lv [2, 29, 2, 16] (.tup [dtab C.z T16, .tup ps]) := lv_own (b := 90) (by decide) (by decide) (by decide) (by omega) (fun ws hw => by have := (hT416 ws hw).l; omega) pD90 (by omega)
  have st : pS 90 30 15 (dtab C.z T16) := pS_le (h := 6) (pS_tab (p := 0) (m := 4) (fun ws hw => lb_mono (hT416 ws hw) (Nat.le_refl _) (by decide)) (by omega) (by decide) (by omega) (by decide) (Nat.lt_of_le_of_lt hz (by decide))) 9
  have gM : gD 91 61 (dtab C.z TM) = true := pS_gD (pS_tab (p := 0) (m := 4) (fun ws hw => lb_mono (hT4M ws hw) (Nat.le_refl _) (by decide)) (by omega) (by decide) (by omega) (by decide) (Nat.lt_of_le_of_lt hz (by decide)))
  have gT : gD 91 61 (dtab C.z T16) = true := gD_mono (by decide) (by decide) _ (pS_gD st)
  have gP : gD 91 61 (.tup ps) = true := pS_gD (pS_tup (h := 3) (by omega) fun x hx => pS_pap ((pD16 x hx).mono (by decide)) (by decide))
  simp [-dFor_eq, List.set_set, szL]
  generalize D.tup [D.tup [D.int 1, D.int 2], D.tup [D.int 0, D.int 1], D.tup [D.int (-1), D.int 2], D.tup [D.int 1, D.int 4], D.tup [D.int (-1), D.int 3]] = Fv
  obtain ⟨Q1, hQ1⟩ : ∃ Q : Dn.Fl → Sto → Prop, ∀ fl S2, Q fl S2 ↔ ∃ (A : List D) (c' : Cell) (e8 : Option Val), fl = .nx [some (.r n), some (.d Fv), some (.d (dch C)), some (.d (dtab C.z T16)), some (.d (.tup ps)), some (.d (.tup [dtab C.z T16, .tup ps])), some (.d (dtab C.z TM)), some (.r S.length), e8, none, none] ∧ S2 = S.set n c' ++ [.lst A] ∧ A.length = 9 ∧ (∀ x ∈ A, PVo x) ∧ WOk (t + 900) c' := ⟨_, fun _ _ => Iff.rfl⟩
  refine Ok.mono (Q := Q1) ?_ ?_
  · rw [dFor_eq, ok_bind]
    have sm5 : smallI 5 = true := by decide
    simp [sm5]
    obtain ⟨I, hI⟩ : ∃ I : Nat → Dn.Env → Sto → Prop, ∀ k env S2, I k env S2 ↔ ∃ (A : List D) (c' : Cell) (e8 : Option Val), env = [some (.r n), some (.d Fv), some (.d (dch C)), some (.d (dtab C.z T16)), some (.d (.tup ps)), some (.d (.tup [dtab C.z T16, .tup ps])), some (.d (dtab C.z TM)), some (.r S.length), e8, none, none] ∧ S2 = S.set n c' ++ [.lst A] ∧ A.length = 4 + k ∧ (∀ x ∈ A, PVo x) ∧ WOk (t + 500 + 60 * k) c' := ⟨_, fun _ _ _ => Iff.rfl⟩
    refine ok_loop (I := I) ((hI 0 _ _).mpr ⟨_, c4, none, rfl, rfl, rfl, ?_, w4.mono (by omega)⟩) (fun _ _ _ _ => wtOk_nil _) ?_ ?_
    · intro x hx
      simp only [List.mem_cons, List.not_mem_nil, or_false] at hx
      rcases hx with rfl | rfl | rfl | rfl
      · exact v1
      · exact v2
      · exact v3
      · exact v4
    · rintro k d env S' ed hh
      obtain ⟨A, c5, e8, rfl, rfl, hA, hA2, w5⟩ := (hI _ _ _).mp hh
      have hk : k < 5 := by simpa [rngD] using (List.getElem?_eq_some_iff.mp ed).1
      simp
      refine (bentV_spec (b := 90) (l := 30) odd_spec (by decide) (by decide) (by decide) (by decide) 15 (L := [2, 29, 2, 16]) (by decide) (by decide) (x_get hn) w5 (by omega) so lo).mono ?_
      rintro _ _ ⟨y, c6, rfl, hy, rfl, w6⟩
      have hz2 : A.length < 16777216 := by omega
      simp [x_set hn, x_at0, x_put0, szL, hz2]
      refine (hI (k + 1) _ _).mpr ⟨A ++ [y], c6, some (.d d), rfl, rfl, by simp [hA]; omega, ?_, w6.mono (by omega)⟩
      intro x hx
      rcases List.mem_append.mp hx with hx | hx
      · exact hA2 x hx
      · rw [List.mem_singleton.mp hx]; exact hy
    · rintro env S' hh
      obtain ⟨A, c5, e8, rfl, rfl, hA, hA2, w5⟩ := (hI _ _ _).mp hh
      rw [rng_len] at hA w5
      exact (hQ1 _ _).mpr ⟨A, c5, e8, rfl, rfl, by omega, hA2, w5.mono (by omega)⟩
  rintro fl S2 hh
  obtain ⟨A, c5, e8, rfl, rfl, hA, hA2, w5⟩ := (hQ1 _ _).mp hh
  simp only [cont_nx]
  rw [dSeq_eq, ok_bind]
  obtain ⟨Q2, hQ2⟩ : ∃ Q : Dn.Fl → Sto → Prop, ∀ fl S2, Q fl S2 ↔ ∃ (B : List Cell) (c' : Cell) (e8 e9 e10 : Option Val), fl = .nx [some (.r n), some (.d Fv), some (.d (dch C)), some (.d (dtab C.z T16)), some (.d (.tup ps)), some (.d (.tup [dtab C.z T16, .tup ps])), some (.d (dtab C.z TM)), some (.r S.length), e8, e9, e10] ∧ S2 = S.set n c' ++ B ∧ WOk (t + 910) c' := ⟨_, fun _ _ => Iff.rfl⟩
  refine Ok.mono (Q := Q2) ?_ ?_
  · rw [dFor_eq, ok_bind]
    simp [szL]
    refine (odd_spec (x_get hn) w5 (by omega)).mono ?_
    rintro _ _ ⟨o, c6, rfl, ho, rfl, w6⟩
    have vo : PVo o := ⟨gD_mono (by decide) (by decide) _ ho, gD_lv ho (by decide)⟩
    have zA : A.length + 2 ≤ 16777216 := by omega
    simp [oPM, szL, x_set hn, x_at0, zA]
    obtain ⟨I, hI⟩ : ∃ I : Nat → Dn.Env → Sto → Prop, ∀ k env S2, I k env S2 ↔ ∃ (e9 e10 : Option Val), env = [some (.r n), some (.d Fv), some (.d (dch C)), some (.d (dtab C.z T16)), some (.d (.tup ps)), some (.d (.tup [dtab C.z T16, .tup ps])), some (.d (dtab C.z TM)), some (.r S.length), e8, e9, e10] ∧ S2 = S.set n c6 ++ [.lst A] := ⟨_, fun _ _ _ => Iff.rfl⟩
    refine ok_loop (I := I) ((hI 0 _ _).mpr ⟨none, none, rfl, rfl⟩) (fun _ _ _ _ => wtOk_nil _) ?_ ?_
    · rintro k d env S' ed hh
      obtain ⟨e9, e10, rfl, rfl⟩ := (hI _ _ _).mp hh
      have hd := List.mem_of_getElem? ed
      have vd : PVo d := by
        rcases List.mem_append.mp hd with hd | hd
        · exact hA2 d hd
        · simp only [List.mem_cons, List.not_mem_nil, or_false] at hd
          rcases hd with rfl | rfl
          · exact vo
          · exact v5
      obtain ⟨v, q1, q2, _⟩ := judge (S.set n c6 ++ [.lst A]) vd
      simp [q1, q2, repr_bl, permL]
      exact (hI (k + 1) _ _).mpr ⟨_, _, rfl, rfl⟩
    · rintro env S' hh
      obtain ⟨e9, e10, rfl, rfl⟩ := (hI _ _ _).mp hh
      exact (hQ2 _ _).mpr ⟨_, c6, e8, e9, e10, rfl, rfl, w6.mono (by omega)⟩
  rintro fl S2 hh
  obtain ⟨B, c6, e8, e9, e10, rfl, rfl, w6⟩ := (hQ2 _ _).mp hh
  simp only [cont_nx]
  rw [dSeq_eq, ok_bind]
  obtain ⟨Q3, hQ3⟩ : ∃ Q : Dn.Fl → Sto → Prop, ∀ fl S2, Q fl S2 ↔ ∃ (B : List Cell) (c' : Cell) (e8 e9 e10 : Option Val), fl = .nx [some (.r n), some (.d Fv), some (.d (dch C)), some (.d (dtab C.z T16)), some (.d (.tup ps)), some (.d (.tup [dtab C.z T16, .tup ps])), some (.d (dtab C.z TM)), some (.r S.length), e8, e9, e10] ∧ S2 = S.set n c' ++ B ∧ WOk (t + 1100) c' := ⟨_, fun _ _ => Iff.rfl⟩
  refine Ok.mono (Q := Q3) ?_ ?_
  · rw [dFor_eq, ok_bind]
    have bent : ∀ {c : Cell} {t' : Nat}, WOk t' c → t' < 2 ^ 92 → Ok (m__law_bent 16 [.r n, .d (dtab C.z T16)] (S.set n c ++ B)) (Dw n (S.set n c ++ B) (t' + 50) (gD 91 61 · = true)) := fun {c t'} hw hk =>
      (bentV_spec (b := 90) (l := 30) odd_spec (by decide) (by decide) (by decide) (by decide) 15 (L := []) (by simp) (by decide) (x_get hn) hw (by omega) st trivial).mono fun x S' ⟨⟨d', c', a1, a2, a3, a4⟩⟩ => ⟨d', c', a1, a2.g, a3, a4.mono (by omega)⟩
    simp
    refine (bent w6 (by omega)).mono ?_
    rintro _ _ ⟨b1, c7, rfl, g1, rfl, w7⟩
    simp [x_set hn]
    refine (bent w7 (by omega)).mono ?_
    rintro _ _ ⟨b2, c8, rfl, g2, rfl, w8⟩
    simp [x_set hn]
    refine (odd_spec (x_get hn) w8 (by omega)).mono ?_
    rintro _ _ ⟨o, c9, rfl, go, rfl, w9⟩
    simp [x_set hn, szL]
    obtain ⟨I, hI⟩ : ∃ I : Nat → Dn.Env → Sto → Prop, ∀ k env S2, I k env S2 ↔ ∃ (e9 e10 : Option Val), env = [some (.r n), some (.d Fv), some (.d (dch C)), some (.d (dtab C.z T16)), some (.d (.tup ps)), some (.d (.tup [dtab C.z T16, .tup ps])), some (.d (dtab C.z TM)), some (.r S.length), e8, e9, e10] ∧ S2 = S.set n c9 ++ B := ⟨_, fun _ _ _ => Iff.rfl⟩
    refine ok_loop (I := I) ((hI 0 _ _).mpr ⟨e9, e10, rfl, rfl⟩) (fun _ _ _ _ => wtOk_nil _) ?_ ?_
    · rintro k d env S' ed hh
      obtain ⟨e9, e10, rfl, rfl⟩ := (hI _ _ _).mp hh
      have hd := List.mem_of_getElem? ed
      have gd : gD 91 61 d = true := by
        simp only [List.mem_cons, List.not_mem_nil, or_false] at hd
        rcases hd with rfl | rfl | rfl | rfl | rfl | rfl
        · exact gT
        · exact gM
        · exact g1
        · exact g2
        · exact gD_mono (by decide) (by decide) _ go
        · exact gP
      simp [l_table_gen _ gd (by decide) (by decide) (by decide), is_table_gen _ ck (by decide) (by decide) gd, repr_bl, permL]
      exact (hI (k + 1) _ _).mpr ⟨_, _, rfl, rfl⟩
    · rintro env S' hh
      obtain ⟨e9, e10, rfl, rfl⟩ := (hI _ _ _).mp hh
      exact (hQ3 _ _).mpr ⟨B, c9, e8, e9, e10, rfl, rfl, w9.mono (by omega)⟩
  rintro fl S2 hh
  obtain ⟨B, c7, e8, e9, e10, rfl, rfl, w7⟩ := (hQ3 _ _).mp hh
  simp [x_take]
  exact ⟨_, c7, rfl, rfl, rfl, w7.mono (by omega)⟩
end
end Law
set_option Elab.async false
set_option linter.all false
set_option maxRecDepth 100000
set_option maxHeartbeats 2000000
namespace Law
open PySem PySem.Spec PyProof.Rows L2 GxR Gx Dn
theorem law_so (ns : List Int) (hl : ns.length ≤ 63) (hb : ∀ z ∈ ns, Builtin.Int.intBits z ≤ 1048576) : ∃ S', m_law [.d (.con (ns.map .int))] [] = .ok (.d (.bl true)) S' := by
  suffices h : Ok (m_law [.d (.con (ns.map .int))] []) fun x _ => x = .d (.bl true) by
    obtain ⟨x, S', e, rfl⟩ := h
    exact ⟨S', e⟩
  unfold m_law
  refine ok_fn ?_
  unfold b_law
  simp
  obtain ⟨k, hk, hk3⟩ : ∃ k : Nat, (if (if 2 < (ns.length : Int) then 2 else (ns.length : Int)) > 1 then (if 2 < (ns.length : Int) then 2 else (ns.length : Int)) else 1) = (k : Int) ∧ k ≤ 3 := by
    refine ⟨((if (if 2 < (ns.length : Int) then 2 else (ns.length : Int)) > 1 then (if 2 < (ns.length : Int) then 2 else (ns.length : Int)) else 1)).toNat, ?_, ?_⟩ <;> split <;> split <;> omega
  have sm : smallI (k : Int) = true := by unfold smallI; simp; omega
  refine ok_lcR (ds := rngD 0 k) (f := fun _ => .bl true) (by simp [hk, sm]) (by simp [rngD, szL]; omega) (fun d hd c R => ?_) ?_
  · simp [rngD] at hd
    obtain ⟨i, hi, rfl⟩ := hd
    simp [wipeE]
    refine (well_spec (by omega) hl).mono ?_
    rintro _ _ ⟨c2, rfl, rfl, w⟩
    simp
    refine (right_spec (n := R.length + 1) (c := c2) (by simp) w (by decide)).mono ?_
    rintro _ _ ⟨d, c', rfl, rfl, rfl, _⟩
    simp
  · simp [bAll, seqL, blsOf_map]
end Law
set_option Elab.async false
set_option linter.all false
set_option maxRecDepth 100000
set_option maxHeartbeats 0
namespace Law
open PySem PySem.Spec PyProof.Rows L2 GxR Gx Dn
def d__law_box : He.DefD := ⟨("_law_box", none), "_law_box", "_law_box", defArgs s__law_box, defBody s__law_box, defScope s__law_box, [], []⟩
def d__law_own_table : He.DefD := ⟨("_law_own_table", none), "_law_own_table", "_law_own_table", defArgs s__law_own_table, defBody s__law_own_table, defScope s__law_own_table, [], []⟩
def d__law_sign_weights : He.DefD := ⟨("_law_sign_weights", none), "_law_sign_weights", "_law_sign_weights", defArgs s__law_sign_weights, defBody s__law_sign_weights, defScope s__law_sign_weights, [], []⟩
def d__law_frac : He.DefD := ⟨("_law_frac", none), "_law_frac", "_law_frac", defArgs s__law_frac, defBody s__law_frac, defScope s__law_frac, [], []⟩
def d__law_plus : He.DefD := ⟨("_law_plus", none), "_law_plus", "_law_plus", defArgs s__law_plus, defBody s__law_plus, defScope s__law_plus, [], []⟩
def d__law_times : He.DefD := ⟨("_law_times", none), "_law_times", "_law_times", defArgs s__law_times, defBody s__law_times, defScope s__law_times, [], []⟩
def d__law_dot : He.DefD := ⟨("_law_dot", none), "_law_dot", "_law_dot", defArgs s__law_dot, defBody s__law_dot, defScope s__law_dot, [], []⟩
def d__law_own_papers : He.DefD := ⟨("_law_own_papers", none), "_law_own_papers", "_law_own_papers", defArgs s__law_own_papers, defBody s__law_own_papers, defScope s__law_own_papers, [], []⟩
def d__law_draw : He.DefD := ⟨("_law_draw", none), "_law_draw", "_law_draw", defArgs s__law_draw, defBody s__law_draw, defScope s__law_draw, [], []⟩
def d__law_of : He.DefD := ⟨("_law_of", none), "_law_of", "_law_of", defArgs s__law_of, defBody s__law_of, defScope s__law_of, [], []⟩
def d__law_span : He.DefD := ⟨("_law_span", none), "_law_span", "_law_span", defArgs s__law_span, defBody s__law_span, defScope s__law_span, [], []⟩
def d__law_spread : He.DefD := ⟨("_law_spread", none), "_law_spread", "_law_spread", defArgs s__law_spread, defBody s__law_spread, defScope s__law_spread, [], []⟩
def d__law_kept : He.DefD := ⟨("_law_kept", none), "_law_kept", "_law_kept", defArgs s__law_kept, defBody s__law_kept, defScope s__law_kept, [], []⟩
def d__law_number : He.DefD := ⟨("_law_number", none), "_law_number", "_law_number", defArgs s__law_number, defBody s__law_number, defScope s__law_number, [], []⟩
def d__law_row : He.DefD := ⟨("_law_row", none), "_law_row", "_law_row", defArgs s__law_row, defBody s__law_row, defScope s__law_row, [], []⟩
def d__law_unit : He.DefD := ⟨("_law_unit", none), "_law_unit", "_law_unit", defArgs s__law_unit, defBody s__law_unit, defScope s__law_unit, [], []⟩
def d__law_sides : He.DefD := ⟨("_law_sides", none), "_law_sides", "_law_sides", defArgs s__law_sides, defBody s__law_sides, defScope s__law_sides, [], []⟩
def d__law_case : He.DefD := ⟨("_law_case", none), "_law_case", "_law_case", defArgs s__law_case, defBody s__law_case, defScope s__law_case, [], []⟩
def d__law_planned : He.DefD := ⟨("_law_planned", none), "_law_planned", "_law_planned", defArgs s__law_planned, defBody s__law_planned, defScope s__law_planned, [], []⟩
def d__law_odd : He.DefD := ⟨("_law_odd", none), "_law_odd", "_law_odd", defArgs s__law_odd, defBody s__law_odd, defScope s__law_odd, [], []⟩
def d__law_bent : He.DefD := ⟨("_law_bent", none), "_law_bent", "_law_bent", defArgs s__law_bent, defBody s__law_bent, defScope s__law_bent, [], []⟩
def d__law_wishes : He.DefD := ⟨("_law_wishes", none), "_law_wishes", "_law_wishes", defArgs s__law_wishes, defBody s__law_wishes, defScope s__law_wishes, [], []⟩
def d__law_is_whole : He.DefD := ⟨("_law_is_whole", none), "_law_is_whole", "_law_is_whole", defArgs s__law_is_whole, defBody s__law_is_whole, defScope s__law_is_whole, [], []⟩
def d__law_is_frac : He.DefD := ⟨("_law_is_frac", none), "_law_is_frac", "_law_is_frac", defArgs s__law_is_frac, defBody s__law_is_frac, defScope s__law_is_frac, [], []⟩
def d__law_is_row : He.DefD := ⟨("_law_is_row", none), "_law_is_row", "_law_is_row", defArgs s__law_is_row, defBody s__law_is_row, defScope s__law_is_row, [], []⟩
def d__law_is_lot : He.DefD := ⟨("_law_is_lot", none), "_law_is_lot", "_law_is_lot", defArgs s__law_is_lot, defBody s__law_is_lot, defScope s__law_is_lot, [], []⟩
def d__law_is_table : He.DefD := ⟨("_law_is_table", none), "_law_is_table", "_law_is_table", defArgs s__law_is_table, defBody s__law_is_table, defScope s__law_is_table, [], []⟩
def d__law_mixed : He.DefD := ⟨("_law_mixed", none), "_law_mixed", "_law_mixed", defArgs s__law_mixed, defBody s__law_mixed, defScope s__law_mixed, [], []⟩
def d__law_are_weights : He.DefD := ⟨("_law_are_weights", none), "_law_are_weights", "_law_are_weights", defArgs s__law_are_weights, defBody s__law_are_weights, defScope s__law_are_weights, [], []⟩
def d__law_up_to : He.DefD := ⟨("_law_up_to", none), "_law_up_to", "_law_up_to", defArgs s__law_up_to, defBody s__law_up_to, defScope s__law_up_to, [], []⟩
def d__law_is_paper : He.DefD := ⟨("_law_is_paper", none), "_law_is_paper", "_law_is_paper", defArgs s__law_is_paper, defBody s__law_is_paper, defScope s__law_is_paper, [], []⟩
def d__law_takes : He.DefD := ⟨("_law_takes", none), "_law_takes", "_law_takes", defArgs s__law_takes, defBody s__law_takes, defScope s__law_takes, [], []⟩
def d_is_tuple_of : He.DefD := ⟨("is_tuple_of", none), "is_tuple_of", "is_tuple_of", defArgs s_is_tuple_of, defBody s_is_tuple_of, defScope s_is_tuple_of, [], []⟩
def d_is_whole : He.DefD := ⟨("is_whole", none), "is_whole", "is_whole", defArgs s_is_whole, defBody s_is_whole, defScope s_is_whole, [], []⟩
def d_is_whole_from : He.DefD := ⟨("is_whole_from", none), "is_whole_from", "is_whole_from", defArgs s_is_whole_from, defBody s_is_whole_from, defScope s_is_whole_from, [], []⟩
def d_is_index : He.DefD := ⟨("is_index", none), "is_index", "is_index", defArgs s_is_index, defBody s_is_index, defScope s_is_index, [], []⟩
def d_is_fraction : He.DefD := ⟨("is_fraction", none), "is_fraction", "is_fraction", defArgs s_is_fraction, defBody s_is_fraction, defScope s_is_fraction, [], []⟩
def d_is_row_of : He.DefD := ⟨("is_row_of", none), "is_row_of", "is_row_of", defArgs s_is_row_of, defBody s_is_row_of, defScope s_is_row_of, [], []⟩
def d_is_wish : He.DefD := ⟨("is_wish", none), "is_wish", "is_wish", defArgs s_is_wish, defBody s_is_wish, defScope s_is_wish, [], []⟩
def d_is_lot : He.DefD := ⟨("is_lot", none), "is_lot", "is_lot", defArgs s_is_lot, defBody s_is_lot, defScope s_is_lot, [], []⟩
def d_is_small_lot : He.DefD := ⟨("is_small_lot", none), "is_small_lot", "is_small_lot", defArgs s_is_small_lot, defBody s_is_small_lot, defScope s_is_small_lot, [], []⟩
def d_is_start : He.DefD := ⟨("is_start", none), "is_start", "is_start", defArgs s_is_start, defBody s_is_start, defScope s_is_start, [], []⟩
def d_is_move : He.DefD := ⟨("is_move", none), "is_move", "is_move", defArgs s_is_move, defBody s_is_move, defScope s_is_move, [], []⟩
def d_is_map : He.DefD := ⟨("is_map", none), "is_map", "is_map", defArgs s_is_map, defBody s_is_map, defScope s_is_map, [], []⟩
def d_is_case : He.DefD := ⟨("is_case", none), "is_case", "is_case", defArgs s_is_case, defBody s_is_case, defScope s_is_case, [], []⟩
def d_is_chart : He.DefD := ⟨("is_chart", none), "is_chart", "is_chart", defArgs s_is_chart, defBody s_is_chart, defScope s_is_chart, [], []⟩
def d_check_chart : He.DefD := ⟨("check_chart", none), "check_chart", "check_chart", defArgs s_check_chart, defBody s_check_chart, defScope s_check_chart, [], []⟩
def d_fraction : He.DefD := ⟨("fraction", none), "fraction", "fraction", defArgs s_fraction, defBody s_fraction, defScope s_fraction, [], []⟩
def d_product_of : He.DefD := ⟨("product_of", none), "product_of", "product_of", defArgs s_product_of, defBody s_product_of, defScope s_product_of, [], []⟩
def d_led_back : He.DefD := ⟨("led_back", none), "led_back", "led_back", defArgs s_led_back, defBody s_led_back, defScope s_led_back, [], []⟩
def d_total : He.DefD := ⟨("total", none), "total", "total", defArgs s_total, defBody s_total, defScope s_total, [], []⟩
def d_opposite : He.DefD := ⟨("opposite", none), "opposite", "opposite", defArgs s_opposite, defBody s_opposite, defScope s_opposite, [], []⟩
def d_brought_by_moves : He.DefD := ⟨("brought_by_moves", none), "brought_by_moves", "brought_by_moves", defArgs s_brought_by_moves, defBody s_brought_by_moves, defScope s_brought_by_moves, [], []⟩
def d_bound_back : He.DefD := ⟨("bound_back", none), "bound_back", "bound_back", defArgs s_bound_back, defBody s_bound_back, defScope s_bound_back, [], []⟩
def d_case_wishes : He.DefD := ⟨("case_wishes", none), "case_wishes", "case_wishes", defArgs s_case_wishes, defBody s_case_wishes, defScope s_case_wishes, [], []⟩
def d_all_wishes : He.DefD := ⟨("all_wishes", none), "all_wishes", "all_wishes", defArgs s_all_wishes, defBody s_all_wishes, defScope s_all_wishes, [], []⟩
def d_has_lots : He.DefD := ⟨("has_lots", none), "has_lots", "has_lots", defArgs s_has_lots, defBody s_has_lots, defScope s_has_lots, [], []⟩
def d_weighed : He.DefD := ⟨("weighed", none), "weighed", "weighed", defArgs s_weighed, defBody s_weighed, defScope s_weighed, [], []⟩
def d_are_weights : He.DefD := ⟨("are_weights", none), "are_weights", "are_weights", defArgs s_are_weights, defBody s_are_weights, defScope s_are_weights, [], []⟩
def d_is_up_to : He.DefD := ⟨("is_up_to", none), "is_up_to", "is_up_to", defArgs s_is_up_to, defBody s_is_up_to, defScope s_is_up_to, [], []⟩
def d_shows : He.DefD := ⟨("shows", none), "shows", "shows", defArgs s_shows, defBody s_shows, defScope s_shows, [], []⟩
def d_takes : He.DefD := ⟨("takes", none), "takes", "takes", defArgs s_takes, defBody s_takes, defScope s_takes, [], []⟩
def d__law_moved_weight : He.DefD := ⟨("_law_moved_weight", none), "_law_moved_weight", "_law_moved_weight", defArgs s__law_moved_weight, defBody s__law_moved_weight, defScope s__law_moved_weight, [], []⟩
def d_is_table : He.DefD := ⟨("is_table", none), "is_table", "is_table", defArgs s_is_table, defBody s_is_table, defScope s_is_table, [], []⟩
def d__law_right : He.DefD := ⟨("_law_right", none), "_law_right", "_law_right", defArgs s__law_right, defBody s__law_right, defScope s__law_right, [], []⟩
def d__law_well : He.DefD := ⟨("_law_well", none), "_law_well", "_law_well", defArgs s__law_well, defBody s__law_well, defScope s__law_well, [], []⟩
def d_law : He.DefD := ⟨("law", none), "law", "law", defArgs s_law, defBody s_law, defScope s_law, [], []⟩
def fn : List He.DefD := [d__law_box, d__law_own_table, d__law_sign_weights, d__law_frac, d__law_plus, d__law_times, d__law_dot, d__law_own_papers, d__law_draw, d__law_of, d__law_span, d__law_spread, d__law_kept, d__law_number, d__law_row, d__law_unit, d__law_sides, d__law_case, d__law_planned, d__law_odd, d__law_bent, d__law_wishes, d__law_is_whole, d__law_is_frac, d__law_is_row, d__law_is_lot, d__law_is_table, d__law_mixed, d__law_are_weights, d__law_up_to, d__law_is_paper, d__law_takes, d_is_tuple_of, d_is_whole, d_is_whole_from, d_is_index, d_is_fraction, d_is_row_of, d_is_wish, d_is_lot, d_is_small_lot, d_is_start, d_is_move, d_is_map, d_is_case, d_is_chart, d_check_chart, d_fraction, d_product_of, d_led_back, d_total, d_opposite, d_brought_by_moves, d_bound_back, d_case_wishes, d_all_wishes, d_has_lots, d_weighed, d_are_weights, d_is_up_to, d_shows, d_takes, d__law_moved_weight, d_is_table, d__law_right, d__law_well, d_law]
def fa : List He.Fa := [.glo "_law_box", .glo "_law_own_table", .glo "_law_sign_weights", .glo "_law_frac", .glo "_law_plus", .glo "_law_times", .glo "_law_dot", .glo "_law_own_papers", .glo "_law_draw", .glo "_law_of", .glo "_law_span", .glo "_law_spread", .glo "_law_kept", .glo "_law_number", .glo "_law_row", .glo "_law_unit", .glo "_law_sides", .glo "_law_case", .glo "_law_planned", .glo "_law_odd", .glo "_law_bent", .glo "_law_wishes", .glo "_law_is_whole", .glo "_law_is_frac", .glo "_law_is_row", .glo "_law_is_lot", .glo "_law_is_table", .glo "_law_mixed", .glo "_law_are_weights", .glo "_law_up_to", .glo "_law_is_paper", .glo "_law_takes", .glo "is_tuple_of", .glo "is_whole", .glo "is_whole_from", .glo "is_index", .glo "is_fraction", .glo "is_row_of", .glo "is_wish", .glo "is_lot", .glo "is_small_lot", .glo "is_start", .glo "is_move", .glo "is_map", .glo "is_case", .glo "is_chart", .glo "check_chart", .glo "fraction", .glo "product_of", .glo "led_back", .glo "total", .glo "opposite", .glo "brought_by_moves", .glo "bound_back", .glo "case_wishes", .glo "all_wishes", .glo "has_lots", .glo "weighed", .glo "are_weights", .glo "is_up_to", .glo "shows", .glo "takes", .glo "_law_moved_weight", .glo "is_table", .glo "_law_right", .glo "_law_well", .glo "law", .free "abs", .free "all", .free "bool", .free "divmod", .free "int", .free "isinstance", .free "len", .free "list", .free "max", .free "min", .free "range", .free "repr", .free "str", .free "sum", .free "tuple", .free "zip"]
def ts : List He.Tab := []
def ex (K : PySem.W.Frag) : Bool := (He.eqO (PySem.W.nsIn K mainGlobals "gcd") (some (some (.builtin "math.gcd"))))
abbrev R : PySem.W.OpenRow := PySem.W.OpenLaw.row PySem.Challenge.rw_safehelms_k17_whole_table_papers_judged
abbrev hk : PySem.W.Hook := He.hookX 2 fa fn ts tf ex
def ob (s : PySem.W.SharedT) : He.AlX := He.obsX 2 fa fn ts tf ex (HandSHeadRun.getT s)
theorem ob_eq (s : PySem.W.SharedT) : ob s = hk.obs s.abs := He.obsX_eq (HandSHeadRun.getT_eq s)
def loose : List PySem.Str := (["HelmError", "InvalidChart", "is_whole", "is_whole_from", "is_index", "is_tuple_of", "is_fraction", "fraction", "opposite", "total", "is_up_to", "product_of", "shows", "are_weights", "weighed", "is_row_of", "is_lot", "is_wish", "is_chart", "is_small_lot"] : List PySem.Str) ++ (["is_start", "is_case", "is_map", "is_move", "check_chart", "is_table", "has_lots", "all_wishes", "case_wishes", "led_back", "bound_back", "brought_by_moves", "takes", "_law_well", "_law_draw", "_law_of", "_law_frac", "_law_plus", "_law_times", "_law_up_to"] : List PySem.Str) ++ (["_law_dot", "_law_number", "_law_row", "_law_is_whole", "_law_is_frac", "_law_is_row", "_law_is_lot", "_law_box", "_law_mixed", "_law_are_weights", "_law_is_paper", "_law_wishes", "_law_is_table", "_law_takes", "_law_span", "_law_spread", "_law_kept", "_law_unit", "_law_sides", "_law_case"] : List PySem.Str) ++ (["_law_planned", "_law_own_table", "_law_sign_weights", "_law_own_papers", "_law_odd", "_law_bent", "_law_moved_weight", "_law_right"] : List PySem.Str)
theorem run (w : World) : HandSHeadRun.RunEqI R (PySem.W.view R.prog [0, 77]) hk ob 6000 loose w := by
  unfold HandSHeadRun.RunEqI
  kernel_rfl
theorem gf {w : World} {h : Heap} {K : PySem.W.Frag} {mg : Str → Option Value} {base : Heap} (c : He.SaysX fa fn ts tf ex w h K) (X : K.In base) (N : base.Ns mainGlobals mg) (tb : ∀ p ∈ tf.map (He.cT K), TabB base mg p.1 p.2) : Gf K mg base where
  b_abs := He.free_ok X N (c.t.d.fact 67 (f := .free "abs") rfl)
  b_all := He.free_ok X N (c.t.d.fact 68 (f := .free "all") rfl)
  b_bool := He.free_ok X N (c.t.d.fact 69 (f := .free "bool") rfl)
  b_divmod := He.free_ok X N (c.t.d.fact 70 (f := .free "divmod") rfl)
  b_int := He.free_ok X N (c.t.d.fact 71 (f := .free "int") rfl)
  b_isinstance := He.free_ok X N (c.t.d.fact 72 (f := .free "isinstance") rfl)
  b_len := He.free_ok X N (c.t.d.fact 73 (f := .free "len") rfl)
  b_list := He.free_ok X N (c.t.d.fact 74 (f := .free "list") rfl)
  b_max := He.free_ok X N (c.t.d.fact 75 (f := .free "max") rfl)
  b_min := He.free_ok X N (c.t.d.fact 76 (f := .free "min") rfl)
  b_range := He.free_ok X N (c.t.d.fact 77 (f := .free "range") rfl)
  b_repr := He.free_ok X N (c.t.d.fact 78 (f := .free "repr") rfl)
  b_str := He.free_ok X N (c.t.d.fact 79 (f := .free "str") rfl)
  b_sum := He.free_ok X N (c.t.d.fact 80 (f := .free "sum") rfl)
  b_tuple := He.free_ok X N (c.t.d.fact 81 (f := .free "tuple") rfl)
  b_zip := He.free_ok X N (c.t.d.fact 82 (f := .free "zip") rfl)
  gcd := PySem.W.mg_of X N (He.eqO_ok c.more)
  t_is_row_of := tb _ (List.mem_map.mpr ⟨("is_row_of", none), by simp [tf], rfl⟩)
  t_is_lot := tb _ (List.mem_map.mpr ⟨("is_lot", none), by simp [tf], rfl⟩)
  t_is_map := tb _ (List.mem_map.mpr ⟨("is_map", none), by simp [tf], rfl⟩)
  t_is_chart := tb _ (List.mem_map.mpr ⟨("is_chart", none), by simp [tf], rfl⟩)
  t_has_lots := tb _ (List.mem_map.mpr ⟨("has_lots", none), by simp [tf], rfl⟩)
  t_are_weights := tb _ (List.mem_map.mpr ⟨("are_weights", none), by simp [tf], rfl⟩)
  t_takes := tb _ (List.mem_map.mpr ⟨("takes", none), by simp [tf], rfl⟩)
  f__law_box := c.t.d.def_ 0 (d := d__law_box) rfl
  f__law_own_table := c.t.d.def_ 1 (d := d__law_own_table) rfl
  f__law_sign_weights := c.t.d.def_ 2 (d := d__law_sign_weights) rfl
  f__law_frac := c.t.d.def_ 3 (d := d__law_frac) rfl
  f__law_plus := c.t.d.def_ 4 (d := d__law_plus) rfl
  f__law_times := c.t.d.def_ 5 (d := d__law_times) rfl
  f__law_dot := c.t.d.def_ 6 (d := d__law_dot) rfl
  f__law_own_papers := c.t.d.def_ 7 (d := d__law_own_papers) rfl
  f__law_draw := c.t.d.def_ 8 (d := d__law_draw) rfl
  f__law_of := c.t.d.def_ 9 (d := d__law_of) rfl
  f__law_span := c.t.d.def_ 10 (d := d__law_span) rfl
  f__law_spread := c.t.d.def_ 11 (d := d__law_spread) rfl
  f__law_kept := c.t.d.def_ 12 (d := d__law_kept) rfl
  f__law_number := c.t.d.def_ 13 (d := d__law_number) rfl
  f__law_row := c.t.d.def_ 14 (d := d__law_row) rfl
  f__law_unit := c.t.d.def_ 15 (d := d__law_unit) rfl
  f__law_sides := c.t.d.def_ 16 (d := d__law_sides) rfl
  f__law_case := c.t.d.def_ 17 (d := d__law_case) rfl
  f__law_planned := c.t.d.def_ 18 (d := d__law_planned) rfl
  f__law_odd := c.t.d.def_ 19 (d := d__law_odd) rfl
  f__law_bent := c.t.d.def_ 20 (d := d__law_bent) rfl
  f__law_wishes := c.t.d.def_ 21 (d := d__law_wishes) rfl
  f__law_is_whole := c.t.d.def_ 22 (d := d__law_is_whole) rfl
  f__law_is_frac := c.t.d.def_ 23 (d := d__law_is_frac) rfl
  f__law_is_row := c.t.d.def_ 24 (d := d__law_is_row) rfl
  f__law_is_lot := c.t.d.def_ 25 (d := d__law_is_lot) rfl
  f__law_is_table := c.t.d.def_ 26 (d := d__law_is_table) rfl
  f__law_mixed := c.t.d.def_ 27 (d := d__law_mixed) rfl
  f__law_are_weights := c.t.d.def_ 28 (d := d__law_are_weights) rfl
  f__law_up_to := c.t.d.def_ 29 (d := d__law_up_to) rfl
  f__law_is_paper := c.t.d.def_ 30 (d := d__law_is_paper) rfl
  f__law_takes := c.t.d.def_ 31 (d := d__law_takes) rfl
  f_is_tuple_of := c.t.d.def_ 32 (d := d_is_tuple_of) rfl
  f_is_whole := c.t.d.def_ 33 (d := d_is_whole) rfl
  f_is_whole_from := c.t.d.def_ 34 (d := d_is_whole_from) rfl
  f_is_index := c.t.d.def_ 35 (d := d_is_index) rfl
  f_is_fraction := c.t.d.def_ 36 (d := d_is_fraction) rfl
  f_is_row_of := c.t.d.def_ 37 (d := d_is_row_of) rfl
  f_is_wish := c.t.d.def_ 38 (d := d_is_wish) rfl
  f_is_lot := c.t.d.def_ 39 (d := d_is_lot) rfl
  f_is_small_lot := c.t.d.def_ 40 (d := d_is_small_lot) rfl
  f_is_start := c.t.d.def_ 41 (d := d_is_start) rfl
  f_is_move := c.t.d.def_ 42 (d := d_is_move) rfl
  f_is_map := c.t.d.def_ 43 (d := d_is_map) rfl
  f_is_case := c.t.d.def_ 44 (d := d_is_case) rfl
  f_is_chart := c.t.d.def_ 45 (d := d_is_chart) rfl
  f_check_chart := c.t.d.def_ 46 (d := d_check_chart) rfl
  f_fraction := c.t.d.def_ 47 (d := d_fraction) rfl
  f_product_of := c.t.d.def_ 48 (d := d_product_of) rfl
  f_led_back := c.t.d.def_ 49 (d := d_led_back) rfl
  f_total := c.t.d.def_ 50 (d := d_total) rfl
  f_opposite := c.t.d.def_ 51 (d := d_opposite) rfl
  f_brought_by_moves := c.t.d.def_ 52 (d := d_brought_by_moves) rfl
  f_bound_back := c.t.d.def_ 53 (d := d_bound_back) rfl
  f_case_wishes := c.t.d.def_ 54 (d := d_case_wishes) rfl
  f_all_wishes := c.t.d.def_ 55 (d := d_all_wishes) rfl
  f_has_lots := c.t.d.def_ 56 (d := d_has_lots) rfl
  f_weighed := c.t.d.def_ 57 (d := d_weighed) rfl
  f_are_weights := c.t.d.def_ 58 (d := d_are_weights) rfl
  f_is_up_to := c.t.d.def_ 59 (d := d_is_up_to) rfl
  f_shows := c.t.d.def_ 60 (d := d_shows) rfl
  f_takes := c.t.d.def_ 61 (d := d_takes) rfl
  f__law_moved_weight := c.t.d.def_ 62 (d := d__law_moved_weight) rfl
  f_is_table := c.t.d.def_ 63 (d := d_is_table) rfl
  f__law_right := c.t.d.def_ 64 (d := d__law_right) rfl
  f__law_well := c.t.d.def_ 65 (d := d__law_well) rfl
  f_law := c.t.d.def_ 66 (d := d_law) rfl
  g__law_box := He.glo_ok X N (c.t.d.fact 0 (f := .glo "_law_box") rfl)
  g__law_own_table := He.glo_ok X N (c.t.d.fact 1 (f := .glo "_law_own_table") rfl)
  g__law_sign_weights := He.glo_ok X N (c.t.d.fact 2 (f := .glo "_law_sign_weights") rfl)
  g__law_frac := He.glo_ok X N (c.t.d.fact 3 (f := .glo "_law_frac") rfl)
  g__law_plus := He.glo_ok X N (c.t.d.fact 4 (f := .glo "_law_plus") rfl)
  g__law_times := He.glo_ok X N (c.t.d.fact 5 (f := .glo "_law_times") rfl)
  g__law_dot := He.glo_ok X N (c.t.d.fact 6 (f := .glo "_law_dot") rfl)
  g__law_own_papers := He.glo_ok X N (c.t.d.fact 7 (f := .glo "_law_own_papers") rfl)
  g__law_draw := He.glo_ok X N (c.t.d.fact 8 (f := .glo "_law_draw") rfl)
  g__law_of := He.glo_ok X N (c.t.d.fact 9 (f := .glo "_law_of") rfl)
  g__law_span := He.glo_ok X N (c.t.d.fact 10 (f := .glo "_law_span") rfl)
  g__law_spread := He.glo_ok X N (c.t.d.fact 11 (f := .glo "_law_spread") rfl)
  g__law_kept := He.glo_ok X N (c.t.d.fact 12 (f := .glo "_law_kept") rfl)
  g__law_number := He.glo_ok X N (c.t.d.fact 13 (f := .glo "_law_number") rfl)
  g__law_row := He.glo_ok X N (c.t.d.fact 14 (f := .glo "_law_row") rfl)
  g__law_unit := He.glo_ok X N (c.t.d.fact 15 (f := .glo "_law_unit") rfl)
  g__law_sides := He.glo_ok X N (c.t.d.fact 16 (f := .glo "_law_sides") rfl)
  g__law_case := He.glo_ok X N (c.t.d.fact 17 (f := .glo "_law_case") rfl)
  g__law_planned := He.glo_ok X N (c.t.d.fact 18 (f := .glo "_law_planned") rfl)
  g__law_odd := He.glo_ok X N (c.t.d.fact 19 (f := .glo "_law_odd") rfl)
  g__law_bent := He.glo_ok X N (c.t.d.fact 20 (f := .glo "_law_bent") rfl)
  g__law_wishes := He.glo_ok X N (c.t.d.fact 21 (f := .glo "_law_wishes") rfl)
  g__law_is_whole := He.glo_ok X N (c.t.d.fact 22 (f := .glo "_law_is_whole") rfl)
  g__law_is_frac := He.glo_ok X N (c.t.d.fact 23 (f := .glo "_law_is_frac") rfl)
  g__law_is_row := He.glo_ok X N (c.t.d.fact 24 (f := .glo "_law_is_row") rfl)
  g__law_is_lot := He.glo_ok X N (c.t.d.fact 25 (f := .glo "_law_is_lot") rfl)
  g__law_is_table := He.glo_ok X N (c.t.d.fact 26 (f := .glo "_law_is_table") rfl)
  g__law_mixed := He.glo_ok X N (c.t.d.fact 27 (f := .glo "_law_mixed") rfl)
  g__law_are_weights := He.glo_ok X N (c.t.d.fact 28 (f := .glo "_law_are_weights") rfl)
  g__law_up_to := He.glo_ok X N (c.t.d.fact 29 (f := .glo "_law_up_to") rfl)
  g__law_is_paper := He.glo_ok X N (c.t.d.fact 30 (f := .glo "_law_is_paper") rfl)
  g__law_takes := He.glo_ok X N (c.t.d.fact 31 (f := .glo "_law_takes") rfl)
  g_is_tuple_of := He.glo_ok X N (c.t.d.fact 32 (f := .glo "is_tuple_of") rfl)
  g_is_whole := He.glo_ok X N (c.t.d.fact 33 (f := .glo "is_whole") rfl)
  g_is_whole_from := He.glo_ok X N (c.t.d.fact 34 (f := .glo "is_whole_from") rfl)
  g_is_index := He.glo_ok X N (c.t.d.fact 35 (f := .glo "is_index") rfl)
  g_is_fraction := He.glo_ok X N (c.t.d.fact 36 (f := .glo "is_fraction") rfl)
  g_is_row_of := He.glo_ok X N (c.t.d.fact 37 (f := .glo "is_row_of") rfl)
  g_is_wish := He.glo_ok X N (c.t.d.fact 38 (f := .glo "is_wish") rfl)
  g_is_lot := He.glo_ok X N (c.t.d.fact 39 (f := .glo "is_lot") rfl)
  g_is_small_lot := He.glo_ok X N (c.t.d.fact 40 (f := .glo "is_small_lot") rfl)
  g_is_start := He.glo_ok X N (c.t.d.fact 41 (f := .glo "is_start") rfl)
  g_is_move := He.glo_ok X N (c.t.d.fact 42 (f := .glo "is_move") rfl)
  g_is_map := He.glo_ok X N (c.t.d.fact 43 (f := .glo "is_map") rfl)
  g_is_case := He.glo_ok X N (c.t.d.fact 44 (f := .glo "is_case") rfl)
  g_is_chart := He.glo_ok X N (c.t.d.fact 45 (f := .glo "is_chart") rfl)
  g_check_chart := He.glo_ok X N (c.t.d.fact 46 (f := .glo "check_chart") rfl)
  g_fraction := He.glo_ok X N (c.t.d.fact 47 (f := .glo "fraction") rfl)
  g_product_of := He.glo_ok X N (c.t.d.fact 48 (f := .glo "product_of") rfl)
  g_led_back := He.glo_ok X N (c.t.d.fact 49 (f := .glo "led_back") rfl)
  g_total := He.glo_ok X N (c.t.d.fact 50 (f := .glo "total") rfl)
  g_opposite := He.glo_ok X N (c.t.d.fact 51 (f := .glo "opposite") rfl)
  g_brought_by_moves := He.glo_ok X N (c.t.d.fact 52 (f := .glo "brought_by_moves") rfl)
  g_bound_back := He.glo_ok X N (c.t.d.fact 53 (f := .glo "bound_back") rfl)
  g_case_wishes := He.glo_ok X N (c.t.d.fact 54 (f := .glo "case_wishes") rfl)
  g_all_wishes := He.glo_ok X N (c.t.d.fact 55 (f := .glo "all_wishes") rfl)
  g_has_lots := He.glo_ok X N (c.t.d.fact 56 (f := .glo "has_lots") rfl)
  g_weighed := He.glo_ok X N (c.t.d.fact 57 (f := .glo "weighed") rfl)
  g_are_weights := He.glo_ok X N (c.t.d.fact 58 (f := .glo "are_weights") rfl)
  g_is_up_to := He.glo_ok X N (c.t.d.fact 59 (f := .glo "is_up_to") rfl)
  g_shows := He.glo_ok X N (c.t.d.fact 60 (f := .glo "shows") rfl)
  g_takes := He.glo_ok X N (c.t.d.fact 61 (f := .glo "takes") rfl)
  g__law_moved_weight := He.glo_ok X N (c.t.d.fact 62 (f := .glo "_law_moved_weight") rfl)
  g_is_table := He.glo_ok X N (c.t.d.fact 63 (f := .glo "is_table") rfl)
  g__law_right := He.glo_ok X N (c.t.d.fact 64 (f := .glo "_law_right") rfl)
  g__law_well := He.glo_ok X N (c.t.d.fact 65 (f := .glo "_law_well") rfl)
  g_law := He.glo_ok X N (c.t.d.fact 66 (f := .glo "law") rfl)
end Law
open PySem PySem.W PySem.Calls PyProof.Rows
theorem PySem.Challenge.cw_safehelms_k17_whole_table_papers_judged_holds : PySem.Challenge.rw_safehelms_k17_whole_table_papers_judged.Holds := by
  w_on; o_law
  refine HandSHeadRun.head_imp (r := OpenLaw.row PySem.Challenge.rw_safehelms_k17_whole_table_papers_judged) (q := view (OpenLaw.row PySem.Challenge.rw_safehelms_k17_whole_table_papers_judged).prog [0, 77]) (H := Law.hk) (ob := Law.ob) (M := 6000) (loose := Law.loose) (d := HandSHeadRun.topDef (OpenLaw.row PySem.Challenge.rw_safehelms_k17_whole_table_papers_judged).prog 77) (kwd := []) Law.ob_eq
    Law.run (by kernel_rfl) (by kernel_rfl) (by kernel_rfl) (by rfl) (by first | assumption | decide +kernel) (by decide +kernel) ⟨rfl, rfl, rfl, rfl, rfl, by decide +kernel⟩ ?hw ?hc
  case hw => w_witness2
  case hc =>
    refine Dn.walk_G (l := PySem.Challenge.rw_safehelms_k17_whole_table_papers_judged) (n := 63) (k := 24) (x := "_law_script") (m := Law.m_law) rfl (by decide) (by kernel_rfl) ⟨rfl, by decide, by decide⟩ ?F Law.law_so
    intro w mg fa h Y N hmg0
    obtain ⟨K, KX, c⟩ := Y
    have hmg : mg ("law" : PySem.Str) = some (.ref fa) := by
      have e : (HandSHeadRun.topDef (OpenLaw.row PySem.Challenge.rw_safehelms_k17_whole_table_papers_judged).prog 77).name = ("law" : PySem.Str) := by kernel_rfl
      rw [← e]
      exact hmg0
    have g0 : mg ("law" : PySem.Str) = some (.ref (He.fAd K ("law", none))) := He.glo_ok KX N (c.t.d.fact 66 (f := .glo "law") rfl)
    have e0 := hmg.symm.trans g0
    cases e0
    obtain ⟨fd0, F0⟩ := c.t.d.def_ 66 (d := Law.d_law) rfl
    have b0 := L2.FunD.bindsA (ps := ["_law_script"]) F0 fun _ _ _ _ _ _ us hl => match us, hl with | [_], _ => rfl
    refine ⟨K, Law.WK K, fd0, Law.tf.map (He.cT K), KX, rfl, by simp [Law.WK, List.map_map, Function.comp_def], fun p hp => ?_, fun p hp => ?_, fun p hp => ?_, fun s v => b0 s [v] rfl, fun base X2 N2 tb => ?_⟩
    · obtain ⟨q, hq, rfl⟩ := List.mem_map.mp hp
      exact c.empty q hq
    · obtain ⟨q, hq, rfl⟩ := List.mem_map.mp hp
      exact c.out q hq
    · obtain ⟨q, hq, rfl⟩ := List.mem_map.mp hp
      exact PySem.W.codeHd_of_K KX (c.hd q hq)
    · obtain ⟨fd1, F1, h1⟩ := Law.fn_law (P := PySem.Challenge.rw_safehelms_k17_whole_table_papers_judged.prog) (w := w) (Law.gf c X2 N2 tb)
      have ef : fd1 = fd0 := by
        obtain ⟨_, _, _, _, _, _, _, _, _, _, _, l1, _⟩ := F1.ex
        obtain ⟨_, _, _, _, _, _, _, _, _, _, _, l2, _⟩ := F0.ex
        have z := congrArg (fun o : Option Obj => o.map fun u => u.data) (l1.symm.trans l2)
        simpa using z
      rw [← ef]
      exact h1
