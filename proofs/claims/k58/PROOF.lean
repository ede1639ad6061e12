import PyProof.Rows.All
import Wide.All
import OpenK.AllK
import Wide.FinOn
import KE.KNest
import HandS.Base
import HandS.Call
import HandS.List
import HandS.Comp
import HandS.AnyAll
import HandS.GenList
import HandS.Words
import HandS.Walk
import HandS.Zip
import HandS.IsInst
import HandS.Style
import HandS.TupLe
import HandS.TupAny
import HandS.TupMul
import HandS.Wide
import HandS.Gcd
import HandS.Conv
import HandS.Exc
import HandS.ExcOwn
import HandS.Flow
import HandS.HeadWalk
import HandS.HeadHook4
import HandS.Head2
import KE.GoesMore
import PyProof.EnumMake
import HandS.WideBits
import HandS.Zip0
import PySem.Challenge.RW_safehelms_k58_plants_moved_and_read_by_o
import HandS.Head3
set_option Elab.async false
set_option linter.all false
set_option maxRecDepth 100000
set_option maxHeartbeats 2000000
/-! all(test for target in iter), the test any expression of the layer -/
namespace Gx
open PySem PySem.Spec PyProof.Rows L2 GenW GxR

/-- the frame of a generator expression of X's def -/
abbrev genv (X : Cx) (scope : Scope) (cl : List (Str × Addr)) (C : Addr) (code : Value) : Env := genEnv scope cl C code builtinsNs X.env
/-- its context -/
abbrev gcx (X : Cx) (s : Shared) (H : Hp) (G : Env) (fp : List Addr) (pn : List (Addr × Obj)) : Cx :=
  { X with A := X.A.in1.in1.deeper G, s_0 := s, H_0 := H, env := G, outer := X.stack, stack := G :: X.stack, ex := fp, fn := fun _ => false, pn := pn, xe := fun _ _ => False }

section
variable {X : Cx} {pins : List (Addr × Obj)} {σ : L2.St} {H : Hp} {s : Shared}

theorem inv_woken {pl : List (Addr × Obj)} {s2 : Shared} (I : Inv X pl σ H s) (eh : s2.heap = s.heap) (eo : s2.os = s.os) (eb : AllBare s2.gens) : Inv X pl σ H s2 := by
  obtain ⟨hh, g, d, t, o⟩ := s2
  have eh' : hh = s.heap := eh
  have eo' : o = s.os := eo
  subst eh' eo'
  exact ⟨I.ok, I.os, eb, I.base, I.loc, I.cell, I.free, I.freeC, I.pin, I.hok, I.len⟩

theorem gen_start {scope : Scope} {own : List (Str × Nat)} {fp : List Addr} {code : Value} {it : Value} {s' : Shared} (I : Inv X pins σ H s) (ok : BlkOk X.N X.env.scope scope own) (hcell : ∀ y ∈ scope.names, y.2 ≠ .cell)
    (hN : X.N.Nodup) (hh : X.A.handled = none) (hfp : ∀ b ∈ fp, FpOk X pins H b ∧ b < s.heap.objs.size)
    (hns : s'.heap.Ns s.heap.objs.size (fun y => if y = ".0" then some it else none)) (kp : ∀ b o, s.heap.get? b = some o → s'.heap.get? b = some o) (ho : s'.os = s.os) (hb : AllBare s'.gens) :
    Inv (gcx X s H (genv X scope (cloFrom X.env.cells scope.names []) s.heap.objs.size code) fp []) [] (wipe σ (own.map (·.2))) H s' := by
  have hfree : ∀ y ∈ scope.names, y.2 = .free → ∃ c, X.env.cells.lookup y.1 = some c := fun y hy e =>
    (ok.free y hy e).elim (fun k => I.ok.has _ (.inl k)) fun k => I.ok.has _ (.inr k)
  have cm : ∀ {y c}, (y, c) ∈ cloFrom X.env.cells scope.names [] → X.env.cells.lookup y = some c := fun {y c} hm => by
    rcases cloFrom_mem hm with hm | ⟨h1, rfl⟩
    · cases hm
    · obtain ⟨c, hc⟩ := hfree _ h1 rfl
      rw [hc] <;> rfl
  have cml : ∀ {y c}, (cloFrom X.env.cells scope.names []).lookup y = some c → X.env.cells.lookup y = some c := fun e => cm (PySem.mem_of_lookup e)
  have look : ∀ {y}, scope.names.lookup y = some .free → ∃ c, (cloFrom X.env.cells scope.names []).lookup y = some c ∧ X.env.cells.lookup y = some c := fun {y} hl => by
    obtain ⟨c', e'⟩ := mem_lookup (cloFrom_has (cells := X.env.cells) (acc := []) (PySem.mem_of_lookup hl))
    exact ⟨c', e', cml e'⟩
  have okB : (gcx X s H (genv X scope (cloFrom X.env.cells scope.names []) s.heap.objs.size code) fp []).Ok := by
    refine ⟨I.ok.mod, ok.kind, I.ok.glob, rfl, Nat.le_refl _, fun y z c e1 e2 => I.ok.inj y z c (cml e1) (cml e2), fun y hy => ?_, fun y c z e => ?_, fun _ => hh, Around.frames_deeper I.ok.frames, .inr ⟨rfl, rfl⟩,
      fun b hb => ⟨Nat.ne_of_lt (hfp b hb).2, fun y c e => (hfp b hb).1.2.2.2.2.1 y c (cml e)⟩, I.bs, Nat.le_trans I.ok.bsz I.sz, fun b o e hb => ?_, fun b hb z => ?_, I.stack, I.stkFree⟩
    · rcases hy with hy | hy
      · exact absurd rfl (hcell _ (PySem.mem_of_lookup (show scope.names.lookup y = some .cell from hy)))
      · obtain ⟨c, h1, _⟩ := look hy
        exact ⟨c, h1⟩
    · exact absurd (show false = true from z) Bool.false_ne_true
    · rcases (hfp b hb).1.2.2.2.1 with z | z
      · exact I.ok.noex b o e z
      · exact absurd (Nat.lt_of_lt_of_le (Heap.lt_size e) (Nat.le_trans I.ok.bsz z)) (Nat.lt_irrefl _)
    · rcases List.mem_cons.mp (I.stkSub b z) with z | z
      · exact (hfp b hb).1.2.1 z
      · exact (hfp b hb).1.2.2.1 z
  refine ⟨okB, ho, hb, Un.kept kp, ⟨_, hns, fun i y av e1 e2 e3 => ?_⟩, fun y c e => ?_, I.hok.fresh (Nat.le_refl _), fun y c e => I.freeC y c (cml e), fun p hp => ?_, I.hok.kept kp, by rw [wipe_length]; exact I.len⟩
  · obtain ⟨e2, hne⟩ := wipe_some e2
    have no : ∀ k, scope.names.lookup y = some k → (k = .local ∨ k = .cell) → False := fun k e hk => by
      rcases ok.own _ (PySem.mem_of_lookup e) hk with e' | e'
      · obtain ⟨p, hp, hpy⟩ := List.mem_map.mp e'
        have e4 := ok.ix p hp
        rw [show p.1 = y from hpy] at e4
        exact hne (List.mem_map.mpr ⟨p, hp, nodup_ix hN e4 e1⟩)
      · exact e' (List.mem_of_getElem? e1)
    have hfr : scope.names.lookup y = some .free := by
      rcases e3 with e3 | e3 | e3
      · exact (no _ e3 (.inl rfl)).elim
      · exact (no _ e3 (.inr rfl)).elim
      · exact e3
    obtain ⟨m, hn, hl⟩ := I.loc
    have hvis : Vis X.env.scope y := (ok.free _ (PySem.mem_of_lookup hfr) rfl).elim (fun k => .inr (.inl k)) fun k => .inr (.inr k)
    obtain ⟨w, r, q⟩ := hl i y av e1 e2 hvis
    obtain ⟨c, h1, h2⟩ := look hfr
    refine ⟨w, r, .inr ⟨.inr hfr, c, h1, ?_⟩⟩
    rcases q with ⟨k, _⟩ | ⟨_, c', e', z⟩
    · have k : X.env.scope.names.lookup y = some .local := k
      rcases ok.free _ (PySem.mem_of_lookup hfr) rfl with k' | k' <;> rw [show X.env.scope.names.lookup y = _ from k'] at k <;> cases k
    · rw [h2] at e'
      cases e'
      exact z.keeps kp
  · obtain ⟨w, z⟩ := I.cell y c (cml e)
    exact ⟨w, z.keeps kp⟩
  · exact absurd (show p ∈ ([] : List (Addr × Obj)) ++ [] from hp) (by simp)

/-- pins more in its context -/
theorem gen_pinned {s1 : Shared} {H' : Hp} {G : Env} {fp : List Addr} {pn : List (Addr × Obj)} {σ' : L2.St} (I : Inv (gcx X s H G fp []) [] σ' H' s1)
    (h : ∀ p ∈ pn, s1.heap.get? p.1 = some p.2 ∧ H' p.1 = none ∧ p.1 ≠ G.locals ∧ p.1 ∉ frs X.stack ∧ ∀ v, p.2.data ≠ .cell v) : Inv (gcx X s H G fp pn) [] σ' H' s1 :=
  ⟨⟨I.ok.mod, I.ok.kind, I.ok.glob, I.ok.blt, I.ok.above, I.ok.inj, I.ok.has, I.ok.cab, I.ok.hd, I.ok.frames, I.ok.stk, I.ok.exf, I.ok.bs, I.ok.bsz, I.ok.noex, I.ok.exfs, I.ok.funs, I.ok.frf⟩, I.os, I.bare, I.base, I.loc, I.cell, I.free, I.freeC,
    fun p hp => h p (by simpa using hp), I.hok, I.len⟩

theorem over_comp {A : Around} {elt : Expr} {gs : List Comprehension} {scope : Scope} {pos : Pos} {it acc : Value} {env : Env} : A.over (.compLoop (.GeneratorExp elt gs scope pos) 0 it acc env) [] = A.deeper env := rfl
theorem over_comp0 {A : Around} {elt : Expr} {gs : List Comprehension} {scope : Scope} {pos : Pos} {it acc : Value} {env : Env} : A.over (.compStart (.GeneratorExp elt gs scope pos) 0 it acc env) [] = A.deeper env := rfl
end
end Gx
set_option Elab.async false
set_option linter.all false
set_option maxRecDepth 100000
set_option maxHeartbeats 2000000
namespace Gx
open PySem PySem.Spec PyProof.Rows L2 GenW GxR

/-- how a run of it ends: Qe, all were true -/
abbrev gEnd (X' : Cx) (σw : L2.St) (Qe : Hp → Prop) : GenEnd := fun _ _ r s1 => ((r = .ok (.ret .none) ∨ r = .ok .next) ∧ (∃ H', Inv X' [] σw H' s1 ∧ Qe H')) ∨ ∃ e, r = .error e ∧ False
/-- a test's answer is handed out; Qx: it was false -/
abbrev gYld (X' : Cx) (Qx : Hp → Prop) : Protocol := fun _ _ v s1 kap => ∃ (k : Bool) (pl : List (Addr × Obj)) (σ2 : L2.St) (H' : Hp), v = .bool k ∧ Inv X' pl σ2 H' s1 ∧ (k = false → Qx H') ∧
  (k = true → ∀ s2 : Shared, s2.heap = s1.heap → s2.os = s1.os → AllBare s2.gens → kap (.send .none) s2)

section
variable {X : Cx} {σ : L2.St} {H : Hp} {s : Shared}
theorem gen_loop {G : Env} {fp : List Addr} {pn : List (Addr × Obj)} {elt tg iter : Expr} {scope : Scope} {pos : Pos} {g : TG} {te : TE} {it : Addr} {J : It} {tn : Nat → Heap → Prop} {vs : List Nat} {Qe Qx : Hp → Prop} {W : Nat → Nat → Hp → Prop}
    (hc : X.calm = true) (hco : G.scope.isCoroutine = false) (pg : PG (gcx X s H G fp pn) tg g) (pe : PE (gcx X s H G fp pn) elt te) (T : Turn X.prog X.w X.K tg J fp it tn)
    (turn : ∀ i m H', W i m H' → (J.stop i H' ∧ Qe H') ∨ (J.go i H' ∧ ∃ Nx : Hp → Prop, (∀ H2, Nx H2 → ∃ m', m' < m ∧ W (i + 1) m' H2) ∧ ∀ x H2, J.yld i H' x H2 → g x (wipe σ vs) H2 fun σ2 H3 => wipe σ2 vs = wipe σ vs ∧
      te σ2 H3 fun y H4 => ∃ k : Bool, y = .bl k ∧ if k = true then Nx H4 else Qx H4))
    (hpn : ∀ b ∈ fp, ∀ p ∈ pn, p.1 ≠ b) : ∀ (n m i : Nat) (H' : Hp) (s₀ s1 : Shared), m < n → Inv (gcx X s H G fp pn) [] (wipe σ vs) H' s1 → tn i s1.heap → (∀ b ∈ fp, H' b = none) → W i m H' →
      Seg (model X.prog X.w) X.A.in1.in1 (gEnd (gcx X s H G fp pn) (wipe σ vs) Qe) (gYld (gcx X s H G fp pn) Qx) n s₀ (.compLoop (.GeneratorExp elt [⟨tg, iter, [], 0⟩] scope pos) 0 (.ref it) .none G)
        ((model X.prog X.w).den (.compLoop (.GeneratorExp elt [⟨tg, iter, [], 0⟩] scope pos) 0 (.ref it) .none G)) [] s1 := by
  have stat : ∀ {σ' : L2.St} {H' : Hp} {s' : Shared}, Inv (gcx X s H G fp pn) [] σ' H' s' → (∀ b ∈ fp, H' b = none) → ∀ b ∈ fp, FpOk (gcx X s H G fp pn) [] H' b := fun {σ' H' s'} I' hn b hb =>
    ⟨hn b hb, (I'.ok.exf b hb).1, I'.ok.exfs b hb, .inl hb, fun x c e => (I'.ok.exf b hb).2 x c e, fun p hp => hpn b hb p (by simpa using hp)⟩
  intro n
  induction n with
  | zero => intro m i H' s₀ s1 hm; exact absurd hm (Nat.not_lt_zero m)
  | succ n ih =>
    intro m i H' s₀ s1 hm I st hfn w
    show Seg _ _ _ _ _ s₀ _ ((compTurn (.GeneratorExp elt [⟨tg, iter, [], 0⟩] scope pos) 0 (.ref it) .none G).onRaise (leaving G)) [] s1
    rw [compTurn_gen, Sem.onRaise_eq_wrap]
    refine seg_bind_wrap (wpAny_standAt ?_)
    rcases turn i m H' w with ⟨stop, qe⟩ | ⟨go, Nx, hNx, step⟩
    · have td := T.done (gcx X s H G fp pn) rfl rfl rfl hc i [] s1 _ H' (fun _ _ => False) I (stat I hfn) st stop
      refine seg_bind_wrap ?_
      rw [over_comp]
      refine wpAny_mono td (fun r s2 hr => ?_) fun _ _ z => z.elim
      obtain ⟨hr, I2⟩ := hr
      subst hr
      exact seg_end (.ok .next) (.inl ⟨.inr rfl, H', I2, qe⟩)
    · have ti := T.item (gcx X s H G fp pn) rfl rfl rfl hc i [] s1 _ H' (fun _ _ => False) I (stat I hfn) st go
      refine seg_bind_wrap ?_
      rw [over_comp]
      refine wpAny_mono ti (fun r s2 hr => ?_) fun _ _ z => z.elim
      obtain ⟨u, hr, h2⟩ := hr
      subst hr
      refine seg_bind_wrap ?_
      rw [over_comp]
      refine wpAny_mono h2 (fun _ s3 h3 => ?_) fun _ _ z => z.elim
      obtain ⟨x, H3, I3, r3, y3, st3, n3⟩ := h3
      have I3' := I3.pinned (stat I3 n3) (T.obj _ _ st3)
      refine seg_bind_wrap ?_
      rw [over_comp]
      refine wpAny_mono (pg.run _ s3 _ H3 x u _ I3' r3 (step x H3 y3)) (fun _ s4 h4 => ?_) fun _ _ z => z.elim
      obtain ⟨σ4, H4, I4, hw4, q4⟩ := h4
      refine seg_bind_wrap ?_
      refine wpAny_tests_nil ?_
      simp only [if_true]
      have hy : ∀ v, yieldOut G v = yieldValue v := fun v => by simp only [yieldOut, hco, Bool.false_eq_true, if_false]
      simp only [hy]
      rw [Sem.bind_eq_wrap', Sem.bind_eq_wrap', Sem.wrap_wrap, Sem.wrap_wrap]
      refine seg_wrap ?_
      rw [over_comp]
      refine wpAny_mono (pe.run _ s4 σ4 H4 _ I4 q4) (fun yv s5 h5 => ?_) fun _ _ z => z.elim
      obtain ⟨y, H5, I5, r5, k, ek, q5⟩ := h5
      subst ek
      obtain rfl : yv = Value.bool k := r5
      refine seg_at (seg_yield rfl rfl rfl ⟨k, _, σ4, H5, rfl, I5, fun hk => ?_, fun hk s6 e1 e2 e3 => ?_⟩)
      · rw [hk] at q5
        exact q5
      · rw [if_pos hk] at q5
        obtain ⟨m', hm', w'⟩ := hNx H5 q5
        have I6 := inv_woken I5 e1 e2 e3
        have pin6 : ∀ b ∈ fp, ∀ o, s3.heap.get? b = some o → s6.heap.get? b = some o ∧ H5 b = none := fun b hb o e =>
          let z := I6.pin (b, o) (List.mem_append_right _ (List.mem_append_right _ (mem_pinsAt hb e)))
          ⟨z.1, z.2.1⟩
        refine seg_again rfl (ih m' (i + 1) H5 s6 s6 (by omega) ((I6.unpinned (pins := [])).weak (by rw [← hw4, wipe_length]) fun j v e => ?_) (T.keep _ _ _ st3 fun b hb o e => (pin6 b hb o e).1) (fun b hb => ?_) w')
        · rw [← hw4] at e
          exact (wipe_some e).1
        · obtain ⟨o, e, _⟩ := T.obj _ _ st3 b hb
          exact (pin6 b hb o e).2

theorem gen_begin {G : Env} {fp : List Addr} {pn : List (Addr × Obj)} {elt tg iter : Expr} {scope : Scope} {pos : Pos} {it : Addr} {J : It} {tn : Nat → Heap → Prop} {R : GenEnd} {Y : Protocol} {n : Nat} {s₀ s1 : Shared} (T : Turn X.prog X.w X.K tg J fp it tn) (st : tn 0 s1.heap)
    (loop : Seg (model X.prog X.w) X.A.in1.in1 R Y n s₀ (.compLoop (.GeneratorExp elt [⟨tg, iter, [], 0⟩] scope pos) 0 (.ref it) .none G) ((model X.prog X.w).den (.compLoop (.GeneratorExp elt [⟨tg, iter, [], 0⟩] scope pos) 0 (.ref it) .none G)) [] s1) :
    Seg (model X.prog X.w) X.A.in1.in1 R Y n s₀ (.compStart (.GeneratorExp elt [⟨tg, iter, [], 0⟩] scope pos) 0 (.ref it) .none G) ((model X.prog X.w).den (.compStart (.GeneratorExp elt [⟨tg, iter, [], 0⟩] scope pos) 0 (.ref it) .none G)) [] s1 := by
  show Seg _ _ _ _ _ s₀ _ ((compStart (.GeneratorExp elt [⟨tg, iter, [], 0⟩] scope pos) 0 (.ref it) .none G).onRaise (leaving G)) [] s1
  unfold compStart
  rw [Sem.onRaise_eq_wrap]
  show Seg _ _ _ _ _ s₀ _ ((ask >>= _).wrap _ _ _ _) [] s1
  refine seg_bind_wrap (wpAny_askSetting ?_)
  split
  · exact seg_again rfl loop
  · first
      | exact seg_bind_wrap (wpAny_rule (seg_bind_wrap (wpAny_standAt (seg_bind_wrap (T.self _ 0 s1 _ _ st (seg_again rfl loop))))))
      | (refine seg_bind_wrap (wpAny_rule ?_)
         show Seg _ _ _ _ _ s₀ _ ((standAt iter.pos >>= _).wrap _ _ _ _) [] s1
         exact seg_bind_wrap (wpAny_standAt (seg_bind_wrap (T.self _ 0 s1 _ _ st (seg_again rfl loop)))))
end
end Gx
set_option Elab.async false
set_option linter.all false
set_option maxRecDepth 100000
set_option maxHeartbeats 2000000
namespace Gx
open PySem PySem.Spec PyProof.Rows L2 GenW GxR

section
variable {X' : Cx} {A : Around} {σw : L2.St} {Qe Qx : Hp → Prop} {a : Addr} {g : Nat}
/-- where a drawn value's generator stands -/
def Sus (X' : Cx) (A : Around) (σw : L2.St) (Qe Qx : Hp → Prop) (a : Addr) (g n : Nat) (s : Shared) : Prop :=
  s.heap.IsGen a g ∧ s.heap.NoLimit ∧ ∃ gs, s.gens[g]? = some gs ∧ gs.Goes (model X'.prog X'.w) A.in1.in1 (gEnd X' σw Qe) (gYld X' Qx) n (.send .none) (s.setGen g .running)

theorem step_next {n : Nat} {s : Shared} {Q : Option Value → Shared → Prop} {E : Value → Shared → Prop} (hh : A.handled = none) (hd : A.depth < recursionLimit)
    (hg : ∀ pl σ2 H2 s2, Inv X' pl σ2 H2 s2 → s2.heap.IsGen a g ∧ s2.heap.NoLimit) (hS : Sus X' A σw Qe Qx a g n s)
    (hy : ∀ s1 pl σ2 H2, Inv X' pl σ2 H2 s1 → Qx H2 → Q (some (.bool false)) s1) (hk : ∀ m s1 pl σ2 H2, n = m + 1 → Inv X' pl σ2 H2 s1 → Sus X' A σw Qe Qx a g m s1 → Q (some (.bool true)) s1)
    (hz : ∀ s1 H2, Inv X' [] σw H2 s1 → Qe H2 → Q none s1) : wpAny (model X'.prog X'.w) A.in1 (pyNext (.ref a)) Q E s := by
  obtain ⟨h1, h2, gs, hgs, hgo⟩ := hS
  have hgl : g < s.gens.size := (Array.getElem?_eq_some_iff.mp hgs).1
  refine wpAny_gsz (n := g + 1) hgl (next_genG (A := A.in1) hh h2 hd h1 hgs hgo (fun v s₁ gs' hb hv => ?_) (fun s₁ hp h' hkp => ?_) fun e s₁ he => he.elim)
  · intro hsz
    obtain ⟨k, pl, σ2, H', rfl, I, qx, kap⟩ := hv
    have I2 : Inv X' pl σ2 H' (s₁.setGen g gs') := inv_woken I rfl rfl (allBare_setGen I.bare hb)
    cases k with
    | false => exact hy _ pl σ2 H' I2 (qx rfl)
    | true =>
      have q := kap rfl
      cases n with
      | zero => exact (q s₁ rfl rfl I.bare).elim
      | succ m =>
        have hsz1 : g < s₁.gens.size := by
          have z : (s₁.setGen g gs').gens.size = s₁.gens.size := setGen_size _ _ _
          have hsz' : g + 1 ≤ (s₁.setGen g gs').gens.size := hsz
          omega
        obtain ⟨j1, j2⟩ := hg _ _ _ _ I2
        exact hk m _ pl σ2 H' rfl I2 ⟨j1, j2, gs', setGen_at hsz1, q _ rfl rfl (allBare_setGen (allBare_setGen I.bare hb) rfl)⟩
  · intro _
    obtain ⟨H', I, qe⟩ := hp
    have I2 : Inv X' [] σw H' (s₁.setGen g .finished) := inv_woken I rfl rfl (allBare_setGen I.bare rfl)
    exact hz _ H' (I2.kept (t' := s₁.toks) hkp) qe

theorem all_drain {R : Result → Shared → Prop} (hh : A.handled = none) (hd : A.depth < recursionLimit)
    (hg : ∀ pl σ2 H2 s2, Inv X' pl σ2 H2 s2 → s2.heap.IsGen a g ∧ s2.heap.NoLimit)
    (hy : ∀ s1 pl σ2 H2, Inv X' pl σ2 H2 s1 → Qx H2 → R (.ok (.ret (.bool false))) s1) (hz : ∀ s1 H2, Inv X' [] σw H2 s1 → Qe H2 → R (.ok (.ret (.bool true))) s1) :
    ∀ (n : Nat) (s : Shared), Sus X' A σw Qe Qx a g n s → codeAny (model X'.prog X'.w) A (.builtin "all.loop" ⟨[.ref a], []⟩) R s := by
  intro n
  induction n with
  | zero =>
    intro s hS
    refine codeAny_builtin F.entry_all_loop ?_
    rw [Around.under_plainId F.plain_all_loop _]
    show wpAny _ A.in1 (pyNext (.ref a) >>= _) _ _ s
    refine wpAny_bind (step_next hh hd hg hS (fun s1 pl σ2 H2 I q => ?_) (fun m s1 pl σ2 H2 e => nomatch e) fun s1 H2 I q => ?_)
    · refine wpAny_bind (wpAny_holding (wpAny_truthy_bool ?_))
      refine wpAny_bind (wpAny_letGo ?_)
      simp only [Bool.false_eq_true, if_false]
      exact wpAny_bind (wpAny_rule (wpAny_pure (hy _ _ _ _ I q)))
    · exact wpAny_bind (wpAny_rule (wpAny_pure (hz _ _ I q)))
  | succ n ih =>
    intro s hS
    refine codeAny_builtin F.entry_all_loop ?_
    rw [Around.under_plainId F.plain_all_loop _]
    show wpAny _ A.in1 (pyNext (.ref a) >>= _) _ _ s
    refine wpAny_bind (step_next hh hd hg hS (fun s1 pl σ2 H2 I q => ?_) (fun m s1 pl σ2 H2 e I hS1 => ?_) fun s1 H2 I q => ?_)
    · refine wpAny_bind (wpAny_holding (wpAny_truthy_bool ?_))
      refine wpAny_bind (wpAny_letGo ?_)
      simp only [Bool.false_eq_true, if_false]
      exact wpAny_bind (wpAny_rule (wpAny_pure (hy _ _ _ _ I q)))
    · obtain rfl : n = m := by omega
      refine wpAny_bind (wpAny_holding (wpAny_truthy_bool ?_))
      refine wpAny_bind (wpAny_letGo ?_)
      simp only [if_true]
      exact wpAny_pure ⟨plainId_quiet F.plain_all_loop _, ih _ hS1⟩
    · exact wpAny_bind (wpAny_rule (wpAny_pure (hz _ _ I q)))

theorem call_allG {Q' : Value → Shared → Prop} {E : Value → Shared → Prop} {n : Nat} {s : Shared} (hh : A.handled = none) (hd : A.depth < recursionLimit)
    (hg : ∀ pl σ2 H2 s2, Inv X' pl σ2 H2 s2 → s2.heap.IsGen a g ∧ s2.heap.NoLimit) (hS : Sus X' A σw Qe Qx a g n s)
    (hy : ∀ s1 pl σ2 H2, Inv X' pl σ2 H2 s1 → Qx H2 → Q' (.bool false) s1) (hz : ∀ s1 H2, Inv X' [] σw H2 s1 → Qe H2 → Q' (.bool true) s1) :
    wpAny (model X'.prog X'.w) A (call (.builtin "all") [.ref a]) Q' E s := by
  refine call_function_tree F.kind_all F.plain_all F.entry_all (F.args_all1 _) ?_
  unfold Builtin.«all»
  refine wpAny_bind (m := oneArg "all" _) (wpAny_pure ?_)
  refine wpAny_bind (wpAny_pyIter_gen hS.1 ?_)
  refine wpAny_pure ⟨plainId_quiet F.plain_all_loop _, all_drain hh hd hg (fun s1 pl σ2 H2 I q => ?_) (fun s1 H2 I q => ?_) n s hS⟩
  · exact hy _ _ _ _ I q
  · exact hz _ _ I q
end
end Gx
set_option Elab.async false
set_option linter.all false
set_option maxRecDepth 100000
set_option maxHeartbeats 2000000
namespace Gx
open PySem PySem.Spec PyProof.Rows L2 GenW GxR

/-- all(elt for tg in iter): behind the first look at iter the def's table may have grown; W by the turn and a measure -/
def tAllG (P : Addr) (wi : TI) (g : TG) (te : TE) (vs : List Nat) : TE := fun σ H Q => wi σ H fun J H1 => TabG H1 P ∧ ∀ H2, Tabbed P H1 H2 → ∃ W : Nat → Nat → Hp → Prop, (∃ m, W 0 m H2) ∧ ∀ i m H', W i m H' →
  (J.stop i H' ∧ Q (.bl true) H') ∨ (J.go i H' ∧ ∃ Nx : Hp → Prop, (∀ H3, Nx H3 → ∃ m', m' < m ∧ W (i + 1) m' H3) ∧ ∀ x H3, J.yld i H' x H3 → g x (wipe σ vs) H3 fun σ2 H4 => wipe σ2 vs = wipe σ vs ∧
    te σ2 H4 fun y H5 => ∃ k : Bool, y = .bl k ∧ if k = true then Nx H5 else Q (.bl false) H5)

section
variable {X : Cx} {pins : List (Addr × Obj)} {σ : L2.St} {H : Hp} {s : Shared}
/-- the code object of the expression: taken from the def's table, or made and laid there -/
theorem gen_code {c P : Addr} {gpos : Pos} {qn : Str} {scope : Scope} {Q : Value → Shared → Prop} (TB : TabB X.base X.mg c P) (hcode : X.env.code = .ref c) (I : Inv X pins σ H s) (ht : TabG H P)
    (hQ : ∀ code H2 s2, Tabbed P H H2 → Inv X pins σ H2 s2 → (∀ b o, b ≠ P → s.heap.get? b = some o → s2.heap.get? b = some o) → Q code s2) :
    wpAny (model X.prog X.w) X.A (genexprCode X.env gpos qn scope) Q X.xe s := by
  obtain ⟨ps, hP, htr⟩ := ht
  have hPs : s.heap.get? P = some { cls := .none, data := .fields ps } := I.hok P _ hP
  have cd : PySem.W.CodeHd s.heap c P := TB.code.keeps fun b u e => I.bk b u e
  cases hf : codeAmong gpos ps.toList with
  | some cv => exact wpAny_genexprCode_hit hcode (cd.code hPs htr) hf (hQ cv H s ⟨⟨ps, hP, htr⟩, fun _ _ => rfl⟩ I fun _ _ _ e => e)
  | none =>
    refine wpAny_genexprCodeX hcode (cd.code hPs htr) (cd.tab hPs) hf fun c' h' tk hx _ _ hco' _ htab' _ => ?_
    obtain ⟨_, _, _, _, _, _, _, _, _, _, _, _, _, _, _, _, _, _, _, htr2, _⟩ := hco'
    refine hQ _ (upd H P (.tbl (ps ++ #[rawInt gpos.line, rawInt gpos.col, .ref c']))) _ ⟨⟨_, upd_same, htr2⟩, fun b hb => upd_ne hb⟩ ?_ fun b o hb e => hx b o hb e
    exact inv_tab (g' := s.gens) (d' := s.drawn) (t' := tk) I hP (fun b o hb e => hx b o hb e) htab'.2 I.bare

theorem pe_allG {c P : Addr} {elt tg iter : Expr} {p pos gpos : Pos} {scope : Scope} {own : List (Str × Nat)} {wi : TI} {g : TG} {te : TE} {k : Nat}
    (hr : Room (k + 4) X.A) (hc : X.calm = true) (hN : X.N.Nodup) (hgl : Gl X "all") (hm : X.mg "all" = none) (TB : TabB X.base X.mg c P) (hcode : X.env.code = .ref c)
    (hi : PI X tg iter wi) (ok : BlkOk X.N X.env.scope scope own) (hco : scope.isCoroutine = false) (hcell : ∀ y ∈ scope.names, y.2 ≠ .cell) (hdot : scope.names.lookup (".0" : Str) = some NameKind.local)
    (hg : ∀ (s : Shared) (H : Hp) (C : Addr) (cl : List (Str × Addr)) (code : Value) (fp : List Addr) (pn : List (Addr × Obj)), PG (gcx X s H (genv X scope cl C code) fp pn) tg g)
    (he : ∀ (s : Shared) (H : Hp) (C : Addr) (cl : List (Str × Addr)) (code : Value) (fp : List Addr) (pn : List (Addr × Obj)), Room k (gcx X s H (genv X scope cl C code) fp pn).A → PE (gcx X s H (genv X scope cl C code) fp pn) elt te)
    (hs : ∀ v, genFold iter X.env v = pure v := by intro _; rfl)
    (hst : starEach [.GeneratorExp elt [⟨tg, iter, [], 0⟩] scope gpos] X.env = (false, eval (.GeneratorExp elt [⟨tg, iter, [], 0⟩] scope gpos) X.env) :: starEach [] X.env := by rfl) :
    PE X (.Call (.Name "all" p) [.GeneratorExp elt [⟨tg, iter, [], 0⟩] scope gpos] [] pos) (tAllG P wi g te (own.map (·.2))) := by
  refine ⟨fun pins s σ H Q I h => ?_⟩
  have hb : bootBuiltins "all" = some (.builtin "all") := by decide +kernel
  have hfree : ∀ y ∈ scope.names, y.2 = .free → ∃ c, X.env.cells.lookup y.1 = some c := fun y hy e =>
    (ok.free y hy e).elim (fun k => I.ok.has _ (.inl k)) fun k => I.ok.has _ (.inr k)
  refine wpAny_Call_Name_kw (ld_blt I hgl hm hb ?_)
  refine PyProof.Rows.callWith_builtin1 ?_ hst (by rfl)
  rw [hst]
  show wpAny _ _ (spliced ((false, eval (.GeneratorExp elt [⟨tg, iter, [], 0⟩] scope gpos) X.env) :: backTo pos (starEach [] X.env))) _ _ s
  refine Calls.spliced_cons ?_
  refine wpAny_GeneratorExp_make hco (closure_ok hfree) hcell hdot ok.kind (by have := hr.dp; omega) ?_ hs
  refine thn (hi.run pins s σ H _ I h) fun xv s1 hx => thn hx fun itv s2 h2 => ?_
  obtain ⟨it, fp, tn, J, H2, e, I2, T, st2, f2, hT, q⟩ := h2
  subst e
  refine ⟨I2.nolimit, gen_code TB hcode I2 hT fun code H3 s3 hT3 I3 k3 => ?_⟩
  obtain ⟨W, ⟨m0, w0⟩, turn⟩ := q H3 hT3
  obtain ⟨bm, ob, b1, b2, b3, b4, b5, b6, b7, b8⟩ := TB.bm
  refine wpAny_builtinsFor (m := X.mg) (by rw [I3.ok.glob]; exact I3.mod.glob.keeps I3.bk) b1 b2 (I3.bk _ _ b5) b6 b7 b8 ?_
  intro h4 hns hsb
  refine Calls.spliced_nil ?_
  -- where the iterator's objects stand
  obtain ⟨ps, hPt, _⟩ := id hT
  have fpP : ∀ b ∈ fp, b ≠ P := fun b hb z => by
    have z1 := (f2 b hb).1
    rw [z, hPt] at z1
    cases z1
  have st3 : tn 0 s3.heap := T.keep _ _ _ st2 fun b hb o e => k3 b o (fpP b hb) e
  have f3 : ∀ b ∈ fp, FpOk X pins H3 b ∧ b < s3.heap.objs.size := fun b hb => by
    obtain ⟨o, e, _⟩ := T.obj _ _ st3 b hb
    exact ⟨⟨by rw [hT3.2 b (fpP b hb)]; exact (f2 b hb).1, (f2 b hb).2⟩, Heap.lt_size e⟩
  have sz4 : h4.objs.size = s3.heap.objs.size + 1 := by rw [hsb.1, Heap.size_push]
  have k4 : ∀ b o, s3.heap.get? b = some o → h4.get? b = some o := fun b o e => hsb.extBut b o (Nat.ne_of_lt (Heap.lt_size e)) (Heap.get?_push_of_some _ e)
  generalize hgo : ({ cls := .type "generator", data := .fields #[.int s3.gens.size 0, .str "<genexpr>" (s3.toks + 1), .str (X.env.qual ++ "<genexpr>") (s3.toks + 1 + 1)] } : Obj) = go
  have goc : go.cls = .type "generator" := by rw [← hgo] <;> rfl
  have god : go.data = .fields #[.int s3.gens.size 0, .str "<genexpr>" (s3.toks + 1), .str (X.env.qual ++ "<genexpr>") (s3.toks + 1 + 1)] := by rw [← hgo] <;> rfl
  have gos : go.slots = #[] := by rw [← hgo] <;> rfl
  have gop : (h4.push go).get? h4.objs.size = some go := by
    rw [← hgo]
    exact Heap.get?_push_size _ rfl
  have k5 : ∀ b o, s3.heap.get? b = some o → (h4.push go).get? b = some o := fun b o e => Heap.get?_push_of_some _ (k4 b o e)
  -- its context, from its first step on
  have I5 := gen_start (code := code) (s' := { s3 with gens := s3.gens.push (.fresh (.compStart (.GeneratorExp elt [⟨tg, iter, [], 0⟩] scope gpos) 0 (.ref it) .none (genEnv scope (cloFrom X.env.cells scope.names []) s3.heap.objs.size code builtinsNs X.env))), toks := s3.toks + 1 + 1 + 1, heap := h4.push go }) I3 ok hcell hN hr.hd f3 (hns.push _) k5 rfl (I3.bare.push rfl)
  have hga : ∀ v, go.data ≠ .cell v := fun v z => by rw [god] at z; cases z
  have I6 := gen_pinned (pn := [(h4.objs.size, go)]) I5 fun p hp => by
    rw [List.mem_singleton.mp hp]
    refine ⟨gop, I3.hok.fresh (by rw [sz4]; exact Nat.le_succ _), by show h4.objs.size ≠ s3.heap.objs.size; rw [sz4]; exact Nat.succ_ne_self _, fun z => ?_, hga⟩
    rcases List.mem_cons.mp (I3.stkSub _ z) with z | z
    · have z1 := I3.lt
      rw [← z, sz4] at z1
      exact absurd (Nat.lt_of_succ_lt z1) (Nat.lt_irrefl _)
    · exact I3.nofs (by rw [sz4]; exact Nat.le_succ _) z
  have hgen : ∀ pl σ2 H' s', Inv (gcx X s3 H3 (genv X scope (cloFrom X.env.cells scope.names []) s3.heap.objs.size code) fp [(h4.objs.size, go)]) pl σ2 H' s' → s'.heap.IsGen h4.objs.size s3.gens.size ∧ s'.heap.NoLimit := fun pl σ2 H' s' I' =>
    ⟨⟨go, _, _, (I'.pin (h4.objs.size, go) (List.mem_append_left _ (List.mem_singleton.mpr rfl))).1, goc, god, gos⟩, I'.nolimit⟩
  have room : Room k (gcx X s3 H3 (genv X scope (cloFrom X.env.cells scope.names []) s3.heap.objs.size code) fp [(h4.objs.size, go)]).A := (((hr.mono (by omega : k + 3 ≤ k + 4)).in1.in1).deeper _)
  have st5 : tn 0 (h4.push go) := T.keep _ _ _ st3 fun b hb o e => k5 b o e
  -- back in the def
  have back : ∀ {pl : List (Addr × Obj)} {σ2 : L2.St} {H' : Hp} {s' : Shared}, Inv (gcx X s3 H3 (genv X scope (cloFrom X.env.cells scope.names []) s3.heap.objs.size code) fp [(h4.objs.size, go)]) pl σ2 H' s' → Inv X pins σ H' s' := fun {pl σ2 H' s'} I' =>
    I3.call' (ch := fp) I'.os I'.base I'.hok I'.bare fun b hb => ⟨(f3 b hb).1.2.2.2.1, (f3 b hb).1.2.1, (f3 b hb).1.2.2.2.2.1, (f3 b hb).1.2.2.2.2.2⟩
  refine call_allG (X' := gcx X s3 H3 (genv X scope (cloFrom X.env.cells scope.names []) s3.heap.objs.size code) fp [(h4.objs.size, go)]) (g := s3.gens.size) (n := m0 + 1) (σw := wipe σ (own.map (·.2))) (Qe := fun H' => Q (.bl true) H') (Qx := fun H' => Q (.bl false) H') hr.hd (by have := hr.dp; omega) hgen ?_ ?_ ?_
  · obtain ⟨j1, j2⟩ := hgen _ _ _ _ I6
    refine ⟨j1, j2, _, Array.getElem?_push_size .., rfl, ?_⟩
    refine gen_begin (pn := []) T (by exact st5) (gen_loop hc hco (hg _ _ _ _ _ _ _) (he _ _ _ _ _ _ _ room) T turn (fun b hb p hp z => ?_) (m0 + 1) m0 0 H3 _ _ (Nat.lt_succ_self _) (inv_woken I6 rfl rfl (allBare_setGen I6.bare rfl)) (by exact st5) (fun b hb => (f3 b hb).1.1) w0)
    rw [List.mem_singleton.mp hp] at z
    have z1 := (f3 b hb).2
    rw [← z, sz4] at z1
    exact absurd (Nat.lt_of_succ_lt z1) (Nat.lt_irrefl _)
  · intro s' pl σ2 H' I' q'
    exact ⟨.bl false, H', back I', rfl, q'⟩
  · intro s' H' I' q'
    exact ⟨.bl true, H', back I', rfl, q'⟩
end
end Gx
set_option Elab.async false
set_option linter.all false
set_option maxRecDepth 100000
set_option maxHeartbeats 2000000
/-! # The layer Dn: what a def does, as a function of plain data.
A value is data (a tree that is never written to) or a place r n in the store, a list that may be written to.
con: a list of the written part, or the script. -/
namespace Dn
open PySem PySem.Spec PyProof.Rows L2 GxR

inductive D where
  | non | bl (b : Bool) | int (i : Int) | str (x : Str) | tup (ds : List D) | lst (ds : List D) | con (ds : List D) | dic | obj (c : Str) (fs : List (Str × D))
inductive Val where
  | d (x : D) | r (n : Nat)
inductive Cell where
  | lst (ds : List D) | dead
abbrev Sto := List Cell
abbrev Env := List (Option Val)
/-- an error in flight: its class, its fields -/
structure Exn where
  c : Str
  fs : List (Str × D)
inductive Out (α : Type) where
  | ok (a : α) (S : Sto) | exc (x : Exn) (S : Sto) | bad
def Out.bind {α β : Type} (r : Out α) (k : α → Sto → Out β) : Out β := match r with
  | .ok a S => k a S
  | .exc x S => .exc x S
  | .bad => .bad
@[simp] theorem Out.bind_ok {α β : Type} (a : α) (S : Sto) (k : α → Sto → Out β) : (Out.ok a S).bind k = k a S := (rfl)
@[simp] theorem Out.bind_exc {α β : Type} (x : Exn) (S : Sto) (k : α → Sto → Out β) : (Out.exc x S : Out α).bind k = .exc x S := (rfl)
@[simp] theorem Out.bind_bad {α β : Type} (k : α → Sto → Out β) : (Out.bad : Out α).bind k = .bad := (rfl)

/-- what is fixed: the written part, the tables of the defs that have generator expressions, the classes' places -/
structure Wd where
  K : PySem.W.Frag
  tabs : List Addr
  ca : Str → Addr

abbrev Mu := List (Option Addr)
def outM (μ : Mu) (a : Addr) : Prop := ∀ n : Nat, μ[n]? ≠ some (some a)

/-- a tracked list apart from the store -/
def FrL (H : Hp) (μ : Mu) (a : Addr) (vs : List V) : Prop := outM μ a ∧ H a = some (.lst vs)
/-- a list that nobody can write to -/
def CoL (W : Wd) (H : Hp) (μ : Mu) (a : Addr) (vs : List V) : Prop := FrL H μ a vs ∨ (∃ o, H a = some (.frz o (.lst vs))) ∨
  ∃ (o : Obj) (its : Array Value) (n : Nat), W.K.lookup a = some o ∧ o.cls = .type "list" ∧ o.dict = none ∧ o.data = .seq its n ∧ its.size ≤ sizeLine ∧ Vals vs its.toList
theorem FrL.sq {W : Wd} {H : Hp} {μ : Mu} {a : Addr} {vs : List V} (h : FrL H μ a vs) : SqL W.K H a vs := .inl (.inl h.2)
theorem CoL.sq {W : Wd} {H : Hp} {μ : Mu} {a : Addr} {vs : List V} (h : CoL W H μ a vs) : SqL W.K H a vs := h.elim FrL.sq fun h => h.elim (fun z => .inl (.inr z)) .inr
theorem CoL.of {W : Wd} {H : Hp} {μ : Mu} {a : Addr} {vs : List V} (h : SqL W.K H a vs) (n : outM μ a) : CoL W H μ a vs := h.elim (fun z => z.elim (fun z => .inl ⟨n, z⟩) fun z => .inr (.inl z)) fun z => .inr (.inr z)
mutual
def RelD (W : Wd) (H : Hp) (μ : Mu) : D → V → Prop
  | .non, v => v = .non
  | .bl b, v => v = .bl b
  | .int i, v => v = .int i
  | .str x, v => v = .str x
  | .tup ds, v => ∃ a vs, v = .ref a ∧ SqT W.K H a vs ∧ RelDs W H μ ds vs
  | .lst ds, v => ∃ a vs, v = .ref a ∧ FrL H μ a vs ∧ RelDs W H μ ds vs
  | .con ds, v => ∃ a vs, v = .ref a ∧ CoL W H μ a vs ∧ RelDs W H μ ds vs
  | .dic, v => ∃ a, v = .ref a ∧ outM μ a ∧ H a = some (.dK [])
  | .obj c fs, v => ∃ a dx gs, v = .ref a ∧ outM μ a ∧ H a = some (.ins (W.ca c) dx gs) ∧ RelFs W H μ fs gs
def RelDs (W : Wd) (H : Hp) (μ : Mu) : List D → List V → Prop
  | [], vs => vs = []
  | d :: ds, vs => ∃ v r, vs = v :: r ∧ RelD W H μ d v ∧ RelDs W H μ ds r
def RelFs (W : Wd) (H : Hp) (μ : Mu) : List (Str × D) → List (Str × V) → Prop
  | [], gs => gs = []
  | (f, d) :: fs, gs => ∃ v r, gs = (f, v) :: r ∧ RelD W H μ d v ∧ RelFs W H μ fs r
end
def RelV' (W : Wd) (H : Hp) (μ : Mu) : Val → V → Prop
  | .d x, v => RelD W H μ x v
  | .r n, v => match μ[n]? with
    | some (some a) => v = .ref a
    | some none => True
    | none => False
def CellOk (W : Wd) (H : Hp) (μ : Mu) : Cell → Option Addr → Prop
  | .lst ds, o => ∃ a vs, o = some a ∧ H a = some (.lst vs) ∧ RelDs W H μ ds vs
  | .dead, _ => True
structure RelS (W : Wd) (H : Hp) (μ : Mu) (S : Sto) : Prop where
  len : S.length = μ.length
  nd : ∀ (n m : Nat) (a : Addr), μ[n]? = some (some a) → μ[m]? = some (some a) → n = m
  cell : ∀ (n : Nat) c o, S[n]? = some c → μ[n]? = some o → CellOk W H μ c o
  is : ∀ (n : Nat) a, μ[n]? = some (some a) → ∃ vs, H a = some (.lst vs)
  tab : ∀ P ∈ W.tabs, TabG H P
def RelE (W : Wd) (H : Hp) (μ : Mu) (env : Env) (σ : L2.St) : Prop :=
  env.length = σ.length ∧ ∀ (i : Nat) x, env[i]? = some (some x) → ∃ v, σ[i]? = some (some v) ∧ RelV' W H μ x v
/-- what goes on keeps: places in the store stay or die; what is no place of the store stays as it is, but tables -/
structure Le (H : Hp) (μ : Mu) (H' : Hp) (μ' : Mu) : Prop where
  len : μ.length ≤ μ'.length
  at_ : ∀ (n : Nat) o, μ[n]? = some o → μ'[n]? = some o ∨ μ'[n]? = some none
  keep : ∀ b o, H b = some o → outM μ b → (∀ ps, o ≠ .tbl ps) → H' b = some o ∧ outM μ' b

section
variable {W : Wd} {H H' H2 : Hp} {μ μ' μ2 : Mu}
theorem Le.refl : Le H μ H μ := ⟨Nat.le_refl _, fun _ _ e => .inl e, fun _ _ e n _ => ⟨e, n⟩⟩
theorem Le.trans (a : Le H μ H' μ') (b : Le H' μ' H2 μ2) : Le H μ H2 μ2 := by
  refine ⟨Nat.le_trans a.len b.len, fun n o e => ?_, fun c o e n t => ?_⟩
  · rcases a.at_ n o e with q | q
    · exact b.at_ n o q
    · exact .inr ((b.at_ n none q).elim id id)
  · obtain ⟨e1, n1⟩ := a.keep c o e n t
    exact b.keep c o e1 n1 t
theorem Le.sqT {a : Addr} {vs : List V} (l : Le H μ H' μ') (is : ∀ (n : Nat) a, μ[n]? = some (some a) → ∃ vs, H a = some (.lst vs)) (h : SqT W.K H a vs) : SqT W.K H' a vs := by
  rcases h with (h | ⟨o, h⟩) | h
  · refine .inl (.inl (l.keep a _ h (fun n e => ?_) fun ps z => by cases z).1)
    obtain ⟨ws, q⟩ := is n a e
    rw [h] at q; cases q
  · refine .inl (.inr ⟨o, (l.keep a _ h (fun n e => ?_) fun ps z => by cases z).1⟩)
    obtain ⟨ws, q⟩ := is n a e
    rw [h] at q; cases q
  · exact .inr h
theorem Le.frL {a : Addr} {vs : List V} (l : Le H μ H' μ') (h : FrL H μ a vs) : FrL H' μ' a vs := by
  obtain ⟨n, h⟩ := h
  obtain ⟨q1, q2⟩ := l.keep a _ h n fun ps z => by cases z
  exact ⟨q2, q1⟩
theorem Le.coL {a : Addr} {vs : List V} (l : Le H μ H' μ') (is : ∀ (n : Nat) a, μ[n]? = some (some a) → ∃ vs, H a = some (.lst vs)) (h : CoL W H μ a vs) : CoL W H' μ' a vs := by
  rcases h with h | ⟨o, h⟩ | h
  · exact .inl (l.frL h)
  · refine .inr (.inl ⟨o, (l.keep a _ h (fun n e => ?_) fun ps z => by cases z).1⟩)
    obtain ⟨ws, q⟩ := is n a e
    rw [h] at q; cases q
  · exact .inr (.inr h)
end
/-- the places of the store hold lists -/
def Is (H : Hp) (μ : Mu) : Prop := ∀ (n : Nat) a, μ[n]? = some (some a) → ∃ vs, H a = some (.lst vs)
/-- a constant of the written part that is no place of the store -/
theorem outM_of {H : Hp} {μ : Mu} {a : Addr} (is : Is H μ) (h : ∀ vs, H a ≠ some (.lst vs)) : outM μ a := fun n e => by
  obtain ⟨vs, q⟩ := is n a e
  exact h vs q
end Dn
set_option Elab.async false
set_option linter.all false
set_option maxRecDepth 100000
set_option maxHeartbeats 2000000
namespace Dn
open PySem PySem.Spec PyProof.Rows L2 GxR

section
variable {W : Wd} {H H' H2 : Hp} {μ μ' μ2 : Mu} {S S' : Sto}
theorem RelS.Is (r : RelS W H μ S) : Is H μ := r.is
mutual
theorem RelD.mono (l : Le H μ H' μ') (is : Is H μ) : ∀ (d : D) (v : V), RelD W H μ d v → RelD W H' μ' d v
  | .non, v, h => by simpa [RelD] using h
  | .bl b, v, h => by simpa [RelD] using h
  | .int i, v, h => by simpa [RelD] using h
  | .str x, v, h => by simpa [RelD] using h
  | .tup ds, v, h => by
    simp only [RelD] at h ⊢
    obtain ⟨a, vs, e, q, r⟩ := h
    exact ⟨a, vs, e, l.sqT is q, RelDs.mono l is ds vs r⟩
  | .lst ds, v, h => by
    simp only [RelD] at h ⊢
    obtain ⟨a, vs, e, q, r⟩ := h
    exact ⟨a, vs, e, l.frL q, RelDs.mono l is ds vs r⟩
  | .con ds, v, h => by
    simp only [RelD] at h ⊢
    obtain ⟨a, vs, e, q, r⟩ := h
    exact ⟨a, vs, e, l.coL is q, RelDs.mono l is ds vs r⟩
  | .dic, v, h => by
    simp only [RelD] at h ⊢
    obtain ⟨a, e, n, q⟩ := h
    obtain ⟨q1, q2⟩ := l.keep a _ q n fun ps z => by cases z
    exact ⟨a, e, q2, q1⟩
  | .obj c fs, v, h => by
    simp only [RelD] at h ⊢
    obtain ⟨a, dx, gs, e, n, q, r⟩ := h
    obtain ⟨q1, q2⟩ := l.keep a _ q n fun ps z => by cases z
    exact ⟨a, dx, gs, e, q2, q1, RelFs.mono l is fs gs r⟩
theorem RelDs.mono (l : Le H μ H' μ') (is : Is H μ) : ∀ (ds : List D) (vs : List V), RelDs W H μ ds vs → RelDs W H' μ' ds vs
  | [], vs, h => by simpa [RelDs] using h
  | d :: ds, vs, h => by
    simp only [RelDs] at h ⊢
    obtain ⟨v, r, e, h1, h2⟩ := h
    exact ⟨v, r, e, RelD.mono l is d v h1, RelDs.mono l is ds r h2⟩
theorem RelFs.mono (l : Le H μ H' μ') (is : Is H μ) : ∀ (fs : List (Str × D)) (gs : List (Str × V)), RelFs W H μ fs gs → RelFs W H' μ' fs gs
  | [], gs, h => by simpa [RelFs] using h
  | (f, d) :: fs, gs, h => by
    simp only [RelFs] at h ⊢
    obtain ⟨v, r, e, h1, h2⟩ := h
    exact ⟨v, r, e, RelD.mono l is d v h1, RelFs.mono l is fs r h2⟩
end
theorem RelV'.mono (l : Le H μ H' μ') (is : Is H μ) {x : Val} {v : V} (h : RelV' W H μ x v) : RelV' W H' μ' x v := by
  cases x with
  | d x => exact RelD.mono l is x v h
  | r n =>
    simp only [RelV'] at h ⊢
    cases e : μ[n]? with
    | none => rw [e] at h; exact h.elim
    | some o =>
      rcases l.at_ n o e with q | q
      · rw [q, ← e]; exact h
      · rw [q]; trivial
theorem RelE.mono {env : Env} {σ : L2.St} (l : Le H μ H' μ') (is : Is H μ) (h : RelE W H μ env σ) : RelE W H' μ' env σ :=
  ⟨h.1, fun i x e => let ⟨v, e1, r⟩ := h.2 i x e; ⟨v, e1, r.mono l is⟩⟩
theorem RelDs.length : ∀ {ds : List D} {vs : List V}, RelDs W H μ ds vs → ds.length = vs.length
  | [], vs, h => by simp only [RelDs] at h; subst h; rfl
  | d :: ds, vs, h => by
    simp only [RelDs] at h
    obtain ⟨v, r, rfl, _, h2⟩ := h
    simp [RelDs.length h2]
theorem RelDs.get : ∀ {ds : List D} {vs : List V} {i : Nat} {d : D}, RelDs W H μ ds vs → ds[i]? = some d → ∃ v, vs[i]? = some v ∧ RelD W H μ d v
  | [], vs, i, d, h, e => by simp at e
  | x :: ds, vs, i, d, h, e => by
    simp only [RelDs] at h
    obtain ⟨v, r, rfl, h1, h2⟩ := h
    cases i with
    | zero => simp at e; subst e; exact ⟨v, by simp, h1⟩
    | succ i => simp at e; obtain ⟨u, q, z⟩ := RelDs.get h2 e; exact ⟨u, by simpa using q, z⟩
theorem RelDs.append : ∀ {ds es : List D} {vs ws : List V}, RelDs W H μ ds vs → RelDs W H μ es ws → RelDs W H μ (ds ++ es) (vs ++ ws)
  | [], es, vs, ws, h, h' => by simp only [RelDs] at h; subst h; simpa using h'
  | x :: ds, es, vs, ws, h, h' => by
    simp only [RelDs] at h
    obtain ⟨v, r, rfl, h1, h2⟩ := h
    simp only [List.cons_append, RelDs]
    exact ⟨v, r ++ ws, rfl, h1, RelDs.append h2 h'⟩
theorem RelDs.take : ∀ {ds : List D} {vs : List V} (n : Nat), RelDs W H μ ds vs → RelDs W H μ (ds.take n) (vs.take n)
  | [], vs, n, h => by simp only [RelDs] at h; subst h; simp [RelDs]
  | x :: ds, vs, n, h => by
    simp only [RelDs] at h
    obtain ⟨v, r, rfl, h1, h2⟩ := h
    cases n with
    | zero => simp [RelDs]
    | succ n => simp only [List.take_succ_cons, RelDs]; exact ⟨v, r.take n, rfl, h1, RelDs.take n h2⟩
theorem RelDs.drop : ∀ {ds : List D} {vs : List V} (n : Nat), RelDs W H μ ds vs → RelDs W H μ (ds.drop n) (vs.drop n)
  | [], vs, n, h => by simp only [RelDs] at h; subst h; simp [RelDs]
  | x :: ds, vs, n, h => by
    cases n with
    | zero => simpa using h
    | succ n =>
      simp only [RelDs] at h
      obtain ⟨v, r, rfl, h1, h2⟩ := h
      simpa using RelDs.drop n h2
theorem RelDs.set : ∀ {ds : List D} {vs : List V} {d : D} {v : V} (n : Nat), RelDs W H μ ds vs → RelD W H μ d v → RelDs W H μ (ds.set n d) (vs.set n v)
  | [], vs, d, v, n, h, r => by simp only [RelDs] at h; subst h; simp [RelDs]
  | x :: ds, vs, d, v, n, h, r => by
    simp only [RelDs] at h
    obtain ⟨u, us, rfl, h1, h2⟩ := h
    cases n with
    | zero => simp only [List.set_cons_zero, RelDs]; exact ⟨v, us, rfl, r, h2⟩
    | succ n => simp only [List.set_cons_succ, RelDs]; exact ⟨u, us.set n v, rfl, h1, RelDs.set n h2 r⟩
theorem RelDs.reverse {ds : List D} : ∀ {vs : List V}, RelDs W H μ ds vs → RelDs W H μ ds.reverse vs.reverse := by
  induction ds with
  | nil => intro vs h; simp only [RelDs] at h; subst h; simp [RelDs]
  | cons x ds ih =>
    intro vs h
    simp only [RelDs] at h
    obtain ⟨v, r, rfl, h1, h2⟩ := h
    simp only [List.reverse_cons]
    exact (ih h2).append (by simp only [RelDs]; exact ⟨v, [], rfl, h1, rfl⟩)
theorem RelDs.rep {ds : List D} {vs : List V} (h : RelDs W H μ ds vs) : ∀ k : Nat, RelDs W H μ (List.replicate k ds).flatten (List.replicate k vs).flatten
  | 0 => by simp [RelDs]
  | k + 1 => by simp only [List.replicate_succ, List.flatten_cons]; exact h.append (h.rep k)

/-- something new that is no place of the store -/
theorem Le.new {p : Addr} {o : HO} (hp : H p = none) : Le H μ (upd H p o) μ :=
  ⟨Nat.le_refl _, fun _ _ e => .inl e, fun b u e n _ => ⟨by rw [upd_ne (ne_of_none e hp)]; exact e, n⟩⟩
theorem outM.new {p : Addr} (is : Is H μ) (hp : H p = none) : outM μ p := fun n e => by
  obtain ⟨vs, q⟩ := is n p e
  rw [hp] at q; cases q
theorem TabG.upd' {P p : Addr} {o : HO} (h : TabG H P) (hp : H p = none) : TabG (upd H p o) P := by
  obtain ⟨ps, e, t⟩ := h
  exact ⟨ps, by rw [upd_ne (ne_of_none e hp)]; exact e, t⟩
theorem RelS.new {p : Addr} {o : HO} (h : RelS W H μ S) (hp : H p = none) : RelS W (upd H p o) μ S := by
  refine ⟨h.len, h.nd, fun n c o' e e1 => ?_, fun n a e => ?_, fun P hP => TabG.upd' (h.tab P hP) hp⟩
  · have ok := h.cell n c o' e e1
    cases c with
    | dead => trivial
    | lst ds =>
      obtain ⟨a, vs, e2, e3, r⟩ := ok
      exact ⟨a, vs, e2, by rw [upd_ne (ne_of_none e3 hp)]; exact e3, RelDs.mono (Le.new hp) h.is ds vs r⟩
  · obtain ⟨vs, q⟩ := h.is n a e
    exact ⟨vs, by rw [upd_ne (ne_of_none q hp)]; exact q⟩
end
end Dn
set_option Elab.async false
set_option linter.all false
set_option maxRecDepth 100000
set_option maxHeartbeats 2000000
namespace Dn
open PySem PySem.Spec PyProof.Rows L2 GxR
section
variable {W : Wd} {H H' H2 : Hp} {μ μ' μ2 : Mu} {S S' : Sto}
mutual
theorem RelD.sub (o : ∀ a, outM μ a → outM μ' a) : ∀ (d : D) (v : V), RelD W H μ d v → RelD W H μ' d v
  | .non, v, h => by simpa [RelD] using h
  | .bl b, v, h => by simpa [RelD] using h
  | .int i, v, h => by simpa [RelD] using h
  | .str x, v, h => by simpa [RelD] using h
  | .tup ds, v, h => by
    simp only [RelD] at h ⊢
    obtain ⟨a, vs, e, q, r⟩ := h
    exact ⟨a, vs, e, q, RelDs.sub o ds vs r⟩
  | .lst ds, v, h => by
    simp only [RelD] at h ⊢
    obtain ⟨a, vs, e, q, r⟩ := h
    exact ⟨a, vs, e, ⟨o _ q.1, q.2⟩, RelDs.sub o ds vs r⟩
  | .con ds, v, h => by
    simp only [RelD] at h ⊢
    obtain ⟨a, vs, e, q, r⟩ := h
    exact ⟨a, vs, e, q.imp (fun z => ⟨o _ z.1, z.2⟩) id, RelDs.sub o ds vs r⟩
  | .dic, v, h => by
    simp only [RelD] at h ⊢
    obtain ⟨a, e, n, q⟩ := h
    exact ⟨a, e, o _ n, q⟩
  | .obj c fs, v, h => by
    simp only [RelD] at h ⊢
    obtain ⟨a, dx, gs, e, n, q, r⟩ := h
    exact ⟨a, dx, gs, e, o _ n, q, RelFs.sub o fs gs r⟩
theorem RelDs.sub (o : ∀ a, outM μ a → outM μ' a) : ∀ (ds : List D) (vs : List V), RelDs W H μ ds vs → RelDs W H μ' ds vs
  | [], vs, h => by simpa [RelDs] using h
  | d :: ds, vs, h => by
    simp only [RelDs] at h ⊢
    obtain ⟨v, r, e, h1, h2⟩ := h
    exact ⟨v, r, e, RelD.sub o d v h1, RelDs.sub o ds r h2⟩
theorem RelFs.sub (o : ∀ a, outM μ a → outM μ' a) : ∀ (fs : List (Str × D)) (gs : List (Str × V)), RelFs W H μ fs gs → RelFs W H μ' fs gs
  | [], gs, h => by simpa [RelFs] using h
  | (f, d) :: fs, gs, h => by
    simp only [RelFs] at h ⊢
    obtain ⟨v, r, e, h1, h2⟩ := h
    exact ⟨v, r, e, RelD.sub o d v h1, RelFs.sub o fs r h2⟩
end
/-! ### a new place -/
theorem outM.push {p : Addr} {b : Addr} (h : outM μ b) (hb : b ≠ p) : outM (μ ++ [some p]) b := fun n e => by
  by_cases hn : n < μ.length
  · rw [List.getElem?_append_left hn] at e
    exact h n e
  · rw [List.getElem?_append_right (Nat.le_of_not_lt hn)] at e
    cases hk : n - μ.length with
    | zero => rw [hk] at e; simp at e; exact hb e.symm
    | succ k => rw [hk] at e; simp at e
theorem Le.push {p : Addr} {o : HO} (hp : H p = none) : Le H μ (upd H p o) (μ ++ [some p]) :=
  ⟨by simp, fun n o e => .inl (by rw [List.getElem?_append_left (List.getElem?_eq_some_iff.mp e).1]; exact e),
   fun b u e n _ => ⟨by rw [upd_ne (ne_of_none e hp)]; exact e, n.push (ne_of_none e hp)⟩⟩
theorem RelS.push {p : Addr} {ds : List D} {vs : List V} (h : RelS W H μ S) (hp : H p = none) (r : RelDs W H μ ds vs) : RelS W (upd H p (.lst vs)) (μ ++ [some p]) (S ++ [.lst ds]) := by
  have hl := h.len
  have out := outM.new h.is hp
  refine ⟨by simp [hl], fun n m a e1 e2 => ?_, fun n c o e1 e2 => ?_, fun n a e => ?_, fun P hP => TabG.upd' (h.tab P hP) hp⟩
  · by_cases hn : n < μ.length
    · rw [List.getElem?_append_left hn] at e1
      by_cases hm : m < μ.length
      · rw [List.getElem?_append_left hm] at e2
        exact h.nd n m a e1 e2
      · rw [List.getElem?_append_right (Nat.le_of_not_lt hm)] at e2
        cases hk : m - μ.length with
        | zero => rw [hk] at e2; simp at e2; rw [← e2] at e1; exact (out n e1).elim
        | succ k => rw [hk] at e2; simp at e2
    · rw [List.getElem?_append_right (Nat.le_of_not_lt hn)] at e1
      cases hk : n - μ.length with
      | succ k => rw [hk] at e1; simp at e1
      | zero =>
        rw [hk] at e1; simp at e1
        by_cases hm : m < μ.length
        · rw [List.getElem?_append_left hm] at e2
          rw [← e1] at e2; exact (out m e2).elim
        · rw [List.getElem?_append_right (Nat.le_of_not_lt hm)] at e2
          cases hk2 : m - μ.length with
          | zero => omega
          | succ k => rw [hk2] at e2; simp at e2
  · by_cases hn : n < S.length
    · rw [List.getElem?_append_left hn] at e1
      rw [List.getElem?_append_left (hl ▸ hn)] at e2
      have ok := h.cell n c o e1 e2
      cases c with
      | dead => trivial
      | lst es =>
        obtain ⟨a, ws, e3, e4, r4⟩ := ok
        exact ⟨a, ws, e3, by rw [upd_ne (ne_of_none e4 hp)]; exact e4, RelDs.mono (Le.push hp) h.is es ws r4⟩
    · rw [List.getElem?_append_right (Nat.le_of_not_lt hn)] at e1
      rw [List.getElem?_append_right (Nat.le_of_not_lt (hl ▸ hn))] at e2
      rw [hl] at e1
      cases hk : n - μ.length with
      | succ k => rw [hk] at e1; simp at e1
      | zero =>
        rw [hk] at e1 e2; simp at e1 e2
        subst e1; subst e2
        exact ⟨p, vs, rfl, upd_same, RelDs.mono (Le.push hp) h.is ds vs r⟩
  · by_cases hn : n < μ.length
    · rw [List.getElem?_append_left hn] at e
      obtain ⟨ws, q⟩ := h.is n a e
      exact ⟨ws, by rw [upd_ne (ne_of_none q hp)]; exact q⟩
    · rw [List.getElem?_append_right (Nat.le_of_not_lt hn)] at e
      cases hk : n - μ.length with
      | succ k => rw [hk] at e; simp at e
      | zero => rw [hk] at e; simp at e; subst e; exact ⟨vs, upd_same⟩
/-! ### a place is written -/
theorem Le.put {a : Addr} {n : Nat} {vs : List V} (hn : μ[n]? = some (some a)) : Le H μ (upd H a (.lst vs)) μ :=
  ⟨Nat.le_refl _, fun _ _ e => .inl e, fun b u e o _ => ⟨by rw [upd_ne (fun z => o n (by rw [z]; exact hn))]; exact e, o⟩⟩
theorem TabG.put {P a : Addr} {ws vs : List V} (h : TabG H P) (ha : H a = some (.lst ws)) : TabG (upd H a (.lst vs)) P := by
  obtain ⟨ps, e, t⟩ := h
  refine ⟨ps, ?_, t⟩
  rw [upd_ne (fun z => by rw [z, ha] at e; cases e)]
  exact e
theorem RelS.put {a : Addr} {n : Nat} {ds : List D} {vs : List V} (h : RelS W H μ S) (hn : μ[n]? = some (some a)) (r : RelDs W H μ ds vs) : RelS W (upd H a (.lst vs)) μ (S.set n (.lst ds)) := by
  obtain ⟨ws, hw⟩ := h.is n a hn
  refine ⟨by simp [h.len], h.nd, fun m c o e1 e2 => ?_, fun m b e => ?_, fun P hP => TabG.put (h.tab P hP) hw⟩
  · by_cases hm : n = m
    · subst hm
      have hlt : n < S.length := by rw [h.len]; exact (List.getElem?_eq_some_iff.mp hn).1
      rw [List.getElem?_set_self hlt] at e1
      cases e1
      rw [hn] at e2; cases e2
      exact ⟨a, vs, rfl, upd_same, RelDs.mono (Le.put hn) h.is ds vs r⟩
    · rw [List.getElem?_set_ne hm] at e1
      have ok := h.cell m c o e1 e2
      cases c with
      | dead => trivial
      | lst es =>
        obtain ⟨b, us, e3, e4, r4⟩ := ok
        subst e3
        exact ⟨b, us, rfl, by rw [upd_ne (fun z => hm (h.nd n m a hn (by rw [← z]; exact e2)))]; exact e4, RelDs.mono (Le.put hn) h.is es us r4⟩
  · by_cases hb : b = a
    · subst hb; exact ⟨vs, upd_same⟩
    · obtain ⟨us, q⟩ := h.is m b e
      exact ⟨us, by rw [upd_ne hb]; exact q⟩
/-! ### a place dies -/
theorem outM.kill {b : Addr} (n : Nat) (h : outM μ b) : outM (μ.set n none) b := fun m e => by
  by_cases hm : n = m
  · subst hm
    by_cases hl : n < μ.length
    · rw [List.getElem?_set_self hl] at e; cases e
    · rw [List.getElem?_eq_none (by simp; omega)] at e; cases e
  · rw [List.getElem?_set_ne hm] at e; exact h m e
theorem Le.kill (n : Nat) : Le H μ H (μ.set n none) := by
  refine ⟨by simp, fun m o e => ?_, fun b o e h _ => ⟨e, h.kill n⟩⟩
  by_cases hm : n = m
  · subst hm
    exact .inr (List.getElem?_set_self (List.getElem?_eq_some_iff.mp e).1)
  · exact .inl (by rw [List.getElem?_set_ne hm]; exact e)
theorem RelS.kill (n : Nat) (h : RelS W H μ S) : RelS W H (μ.set n none) (S.set n .dead) := by
  refine ⟨by simp [h.len], fun i j a e1 e2 => ?_, fun m c o e1 e2 => ?_, fun m a e => ?_, h.tab⟩
  · by_cases hi : n = i
    · subst hi
      by_cases hl : n < μ.length
      · rw [List.getElem?_set_self hl] at e1; cases e1
      · rw [List.getElem?_eq_none (by simp; omega)] at e1; cases e1
    · rw [List.getElem?_set_ne hi] at e1
      by_cases hj : n = j
      · subst hj
        by_cases hl : n < μ.length
        · rw [List.getElem?_set_self hl] at e2; cases e2
        · rw [List.getElem?_eq_none (by simp; omega)] at e2; cases e2
      · rw [List.getElem?_set_ne hj] at e2
        exact h.nd i j a e1 e2
  · by_cases hm : n = m
    · subst hm
      by_cases hl : n < S.length
      · rw [List.getElem?_set_self hl] at e1; cases e1; trivial
      · rw [List.getElem?_eq_none (by simp; omega)] at e1; cases e1
    · rw [List.getElem?_set_ne hm] at e1 e2
      have ok := h.cell m c o e1 e2
      cases c with
      | dead => trivial
      | lst es =>
        obtain ⟨b, us, e3, e4, r4⟩ := ok
        exact ⟨b, us, e3, e4, RelDs.sub (fun _ z => z.kill n) es us r4⟩
  · by_cases hm : n = m
    · subst hm
      by_cases hl : n < μ.length
      · rw [List.getElem?_set_self hl] at e; cases e
      · rw [List.getElem?_eq_none (by simp; omega)] at e; cases e
    · rw [List.getElem?_set_ne hm] at e
      exact h.is m a e
theorem outM.dead {a : Addr} {n : Nat} (h : RelS W H μ S) (hn : μ[n]? = some (some a)) : outM (μ.set n none) a := fun m e => by
  by_cases hm : n = m
  · subst hm
    rw [List.getElem?_set_self (List.getElem?_eq_some_iff.mp hn).1] at e; cases e
  · rw [List.getElem?_set_ne hm] at e
    exact hm (h.nd n m a hn e)
/-! ### places behind the first k go -/
theorem outM.take {b : Addr} (k : Nat) (h : outM μ b) : outM (μ.take k) b := fun n e => by
  rw [List.getElem?_take] at e
  split at e
  · exact h n e
  · cases e
theorem RelS.take (k : Nat) (h : RelS W H μ S) : RelS W H (μ.take k) (S.take k) := by
  refine ⟨by simp [h.len], fun i j a e1 e2 => ?_, fun m c o e1 e2 => ?_, fun m a e => ?_, h.tab⟩
  · rw [List.getElem?_take] at e1 e2
    split at e1
    · split at e2
      · exact h.nd i j a e1 e2
      · cases e2
    · cases e1
  · rw [List.getElem?_take] at e1 e2
    split at e1
    · rename_i hk
      rw [if_pos hk] at e2
      have ok := h.cell m c o e1 e2
      cases c with
      | dead => trivial
      | lst es =>
        obtain ⟨b, us, e3, e4, r4⟩ := ok
        exact ⟨b, us, e3, e4, RelDs.sub (fun _ z => z.take k) es us r4⟩
    · cases e1
  · rw [List.getElem?_take] at e
    split at e
    · exact h.is m a e
    · cases e
theorem Le.take (l : Le H μ H' μ') : Le H μ H' (μ'.take μ.length) := by
  refine ⟨by rw [List.length_take]; exact Nat.le_min.mpr ⟨Nat.le_refl _, l.len⟩, fun n o e => ?_, fun b o e n t => let ⟨q1, q2⟩ := l.keep b o e n t; ⟨q1, q2.take _⟩⟩
  have hn := (List.getElem?_eq_some_iff.mp e).1
  rw [List.getElem?_take, if_pos hn]
  exact l.at_ n o e
/-- but the one at n, which becomes the k-th -/
theorem outM.comp {b : Addr} {o : Option Addr} {k n : Nat} (hn : μ[n]? = some o) (h : outM μ b) : outM (μ.take k ++ [o]) b := fun m e => by
  by_cases hm : m < (μ.take k).length
  · rw [List.getElem?_append_left hm] at e
    exact h.take k m e
  · rw [List.getElem?_append_right (Nat.le_of_not_lt hm)] at e
    cases hk : m - (μ.take k).length with
    | zero => rw [hk] at e; simp at e; rw [e] at hn; exact h n hn
    | succ j => rw [hk] at e; simp at e
theorem RelS.comp {k n : Nat} {o : Option Addr} {c : Cell} (h : RelS W H μ S) (hk : k ≤ n) (hn : μ[n]? = some o) (hc : S[n]? = some c) : RelS W H (μ.take k ++ [o]) (S.take k ++ [c]) := by
  have hnl := (List.getElem?_eq_some_iff.mp hn).1
  have l1 : (μ.take k).length = k := by rw [List.length_take]; omega
  have l2 : (S.take k).length = k := by rw [List.length_take, h.len]; omega
  have back : ∀ (i : Nat) (a : Addr), (μ.take k ++ [o])[i]? = some (some a) → (i < k ∧ μ[i]? = some (some a)) ∨ (i = k ∧ o = some a) := fun i a e => by
    by_cases hi : i < k
    · rw [List.getElem?_append_left (by omega), List.getElem?_take, if_pos hi] at e
      exact .inl ⟨hi, e⟩
    · rw [List.getElem?_append_right (by omega), l1] at e
      cases hq : i - k with
      | zero => rw [hq] at e; simp at e; exact .inr ⟨by omega, e⟩
      | succ j => rw [hq] at e; simp at e
  refine ⟨by simp [h.len], fun i j a e1 e2 => ?_, fun m c' o' e1 e2 => ?_, fun m a e => ?_, h.tab⟩
  · rcases back i a e1 with ⟨h1, q1⟩ | ⟨h1, q1⟩ <;> rcases back j a e2 with ⟨h2, q2⟩ | ⟨h2, q2⟩
    · exact h.nd i j a q1 q2
    · rw [q2] at hn
      have := h.nd i n a q1 hn
      omega
    · rw [q1] at hn
      have := h.nd j n a q2 hn
      omega
    · omega
  · have sub : ∀ a, outM μ a → outM (μ.take k ++ [o]) a := fun a z => z.comp hn
    have fin : CellOk W H μ c' o' → CellOk W H (μ.take k ++ [o]) c' o' := fun ok => by
      cases c' with
      | dead => trivial
      | lst es =>
        obtain ⟨b, us, e3, e4, r4⟩ := ok
        exact ⟨b, us, e3, e4, RelDs.sub sub es us r4⟩
    by_cases hi : m < k
    · rw [List.getElem?_append_left (by omega), List.getElem?_take, if_pos hi] at e1 e2
      exact fin (h.cell m c' o' e1 e2)
    · rw [List.getElem?_append_right (by omega), l2] at e1
      rw [List.getElem?_append_right (by omega), l1] at e2
      cases hq : m - k with
      | zero =>
        rw [hq] at e1 e2; simp at e1 e2
        subst e1; subst e2
        exact fin (h.cell n c o hc hn)
      | succ j => rw [hq] at e1; simp at e1
  · rcases back m a e with ⟨_, q⟩ | ⟨_, q⟩
    · exact h.is m a q
    · rw [q] at hn; exact h.is n a hn
theorem Le.comp {n : Nat} {o : Option Addr} (l : Le H μ H' μ') (hn : μ'[n]? = some o) : Le H μ H' (μ'.take μ.length ++ [o]) := by
  have l1 : (μ'.take μ.length).length = μ.length := by rw [List.length_take]; have := l.len; omega
  refine ⟨by simp; have := l.len; omega, fun m p e => ?_, fun b u e z t => let ⟨q1, q2⟩ := l.keep b u e z t; ⟨q1, q2.comp hn⟩⟩
  have hm := (List.getElem?_eq_some_iff.mp e).1
  rw [List.getElem?_append_left (by omega), List.getElem?_take, if_pos hm]
  exact l.at_ m p e
end
end Dn
set_option Elab.async false
set_option linter.all false
set_option maxRecDepth 100000
set_option maxHeartbeats 2000000
/-! ### readings by such a function -/
namespace Dn
open PySem PySem.Spec PyProof.Rows L2 GxR

def RelVs (W : Wd) (H : Hp) (μ : Mu) : List Val → List V → Prop
  | [], vs => vs = []
  | x :: xs, vs => ∃ v r, vs = v :: r ∧ RelV' W H μ x v ∧ RelVs W H μ xs r
/-- an error in flight (told of more later) -/
def RelX (W : Wd) (H : Hp) (μ : Mu) (x : Exn) (u : Value) (dd : Option Addr) : Prop := u = .ref (W.ca x.c)
def Post {α : Type} (W : Wd) (E : XK) (H : Hp) (μ : Mu) (r : Out α) (K : α → Sto → Hp → Mu → Prop) : Prop := match r with
  | .ok a S => ∀ H' μ', Le H μ H' μ' → RelS W H' μ' S → K a S H' μ'
  | .exc x S => ∀ H' μ' u dd, Le H μ H' μ' → RelS W H' μ' S → RelX W H' μ' x u dd → E u dd H'
  | .bad => False
section
variable {α β : Type} {W : Wd} {E : XK} {H H' : Hp} {μ μ' : Mu} {S : Sto}
theorem Post.imp {r : Out α} {K K' : α → Sto → Hp → Mu → Prop} (h : Post W E H μ r K) (hk : ∀ a S H' μ', Le H μ H' μ' → RelS W H' μ' S → K a S H' μ' → K' a S H' μ') : Post W E H μ r K' := by
  cases r with
  | ok a S => exact fun H' μ' l s => hk a S H' μ' l s (h H' μ' l s)
  | exc x S => exact h
  | bad => exact h
theorem Post.le {r : Out α} {K : α → Sto → Hp → Mu → Prop} (h : Post W E H μ r K) (l : Le H μ H' μ') : Post W E H' μ' r K := by
  cases r with
  | ok a S => exact fun H2 μ2 l2 s => h H2 μ2 (l.trans l2) s
  | exc x S => exact fun H2 μ2 u dd l2 s => h H2 μ2 u dd (l.trans l2) s
  | bad => exact h
theorem Post.bind {r : Out α} {k : α → Sto → Out β} {K : β → Sto → Hp → Mu → Prop} (h : Post W E H μ (r.bind k) K) : Post W E H μ r fun a S H' μ' => Post W E H' μ' (k a S) K := by
  cases r with
  | ok a S => exact fun H' μ' l s => Post.le (show Post W E H μ (k a S) K from h) l
  | exc x S => exact h
  | bad => exact h
theorem Post.at_ {a : α} {K : α → Sto → Hp → Mu → Prop} (h : Post W E H μ (.ok a S) K) (s : RelS W H μ S) : K a S H μ := h H μ .refl s
end

def QV (W : Wd) (Q : VK) : Val → Sto → Hp → Mu → Prop := fun x _ H μ => ∀ v, RelV' W H μ x v → Q v H
def QVs (W : Wd) (Q : List V → Hp → Prop) : List Val → Sto → Hp → Mu → Prop := fun xs _ H μ => ∀ vs, RelVs W H μ xs vs → Q vs H
def QB (Q : Bool → Hp → Prop) : Bool → Sto → Hp → Mu → Prop := fun b _ H _ => Q b H
abbrev DEf := Env → Sto → Out Val
abbrev DTf := Env → Sto → Out Bool
abbrev DAf := Env → Sto → Out (List Val)
def tE (W : Wd) (E : XK) (f : DEf) : TE := fun σ H Q => ∃ env S μ, RelE W H μ env σ ∧ RelS W H μ S ∧ Post W E H μ (f env S) (QV W Q)
def tT (W : Wd) (E : XK) (f : DTf) : TT := fun σ H Q => ∃ env S μ, RelE W H μ env σ ∧ RelS W H μ S ∧ Post W E H μ (f env S) (QB Q)
def tA (W : Wd) (E : XK) (f : DAf) : TA := fun σ H Q => ∃ env S μ, RelE W H μ env σ ∧ RelS W H μ S ∧ Post W E H μ (f env S) (QVs W Q)
abbrev DE (W : Wd) (E : XK) (X : Cx) (e : Expr) (f : DEf) : Prop := PE X e (tE W E f)
abbrev DT (W : Wd) (E : XK) (X : Cx) (e : Expr) (f : DTf) : Prop := PT X e (tT W E f)
abbrev DWt (W : Wd) (E : XK) (X : Cx) (e : Expr) (f : DTf) : Prop := PW X e (tT W E f)
abbrev DA (W : Wd) (E : XK) (X : Cx) (es : List Expr) (f : DAf) : Prop := PA X es (tA W E f)
theorem _root_.L2.PE.imp {X : Cx} {e : Expr} {t t' : TE} (h : PE X e t) (hi : ∀ σ H Q, t' σ H Q → t σ H Q) : PE X e t' := ⟨fun pins s σ H Q I q => h.run pins s σ H Q I (hi σ H Q q)⟩
theorem _root_.L2.PT.imp {X : Cx} {e : Expr} {t t' : TT} (h : PT X e t) (hi : ∀ σ H Q, t' σ H Q → t σ H Q) : PT X e t' := ⟨fun pins s σ H Q I q => h.run pins s σ H Q I (hi σ H Q q)⟩
theorem _root_.L2.PW.imp {X : Cx} {e : Expr} {t t' : TT} (h : PW X e t) (hi : ∀ σ H Q, t' σ H Q → t σ H Q) : PW X e t' := ⟨fun wh pins s σ H Q I q => h.run wh pins s σ H Q I (hi σ H Q q)⟩
theorem _root_.L2.PA.imp {X : Cx} {e : List Expr} {t t' : TA} (h : PA X e t) (hi : ∀ σ H Q, t' σ H Q → t σ H Q) : PA X e t' := ⟨fun pos pins s σ H Q I q => h.run pos pins s σ H Q I (hi σ H Q q)⟩
theorem _root_.L2.PS.imp {X : Cx} {e : Stmt} {t t' : TS} (h : PS X e t) (hi : ∀ D σ H, t' D σ H → t D σ H) : PS X e t' := ⟨fun pins s σ H D I q => h.run pins s σ H D I (hi D σ H q)⟩
theorem _root_.L2.PSs.imp {X : Cx} {e : List Stmt} {t t' : TS} (h : PSs X e t) (hi : ∀ D σ H, t' D σ H → t D σ H) : PSs X e t' := ⟨fun pins s σ H D I q => h.run pins s σ H D I (hi D σ H q)⟩

/-! ### what is fixed in a def's body (or a block of it) -/
structure Dx (W : Wd) (CX : CXT) (E : XK) (X : Cx) (mg : Str → Option Value) (N : List Str) (sc : Scope) (k : Nat) : Prop where
  eK : X.K = W.K
  emg : X.mg = mg
  eN : X.N = N
  esc : X.env.scope = sc
  nd : List.Nodup N
  calm : X.calm = true
  room : Room k X.A
  pass : Passes CX X E
  own : PassesOwn (model X.prog X.w) X.A X.env X.xe

section
variable {W : Wd} {E : XK} {X : Cx} {pos : Pos}
/-! ### names, constants -/
def dVar (i : Nat) : DEf := fun env S => match env[i]? with
  | some (some x) => .ok x S
  | _ => .bad
theorem de_var {i : Nat} {x : Str} (hN : X.N[i]? = some x) (hv : Vis X.env.scope x) (hd : (x == ("__debug__" : Str)) = false := by decide) (hcd : (x == ("__classdict__" : Str)) = false := by decide) :
    DE W E X (.Name x pos) (dVar i) := (pe_var hN hv hd hcd).imp fun σ H Q ⟨env, S, μ, hE, hS, hp⟩ => by
  unfold dVar at hp
  cases e : env[i]? with
  | none => rw [e] at hp; exact hp.elim
  | some o =>
    cases o with
    | none => rw [e] at hp; exact hp.elim
    | some x =>
      rw [e] at hp
      obtain ⟨v, e1, r⟩ := hE.2 i x e
      exact ⟨v, e1, hp.at_ hS v r⟩
def dC (d : D) : DEf := fun _ S => .ok (.d d) S
theorem de_c {e : Expr} {d : D} {v : V} (h : PE X e (tC v)) (r : ∀ H μ, RelD W H μ d v) : DE W E X e (dC d) := h.imp fun σ H Q ⟨env, S, μ, hE, hS, hp⟩ => hp.at_ hS v (r H μ)
theorem de_int {i j} : DE W E X (.Constant (.int i) j pos) (dC (.int i)) := de_c pe_int fun _ _ => by simp [RelD]
theorem de_bl {b j} : DE W E X (.Constant (.bool b) j pos) (dC (.bl b)) := de_c pe_bl fun _ _ => by simp [RelD]
theorem de_non {j} : DE W E X (.Constant .none j pos) (dC .non) := de_c pe_non fun _ _ => by simp [RelD]
theorem de_str {x j} : DE W E X (.Constant (.str x) j pos) (dC (.str x)) := de_c pe_str fun _ _ => by simp [RelD]
/-- code that is never come to -/
def dBad : DEf := fun _ _ => .bad
theorem de_bad {e : Expr} : DE W E X e dBad := ⟨fun _ _ _ _ _ _ ⟨_, _, _, _, _, h⟩ => h.elim⟩

/-! ### two-place operations -/
abbrev Op2 := Val → Val → Sto → Out Val
def DOp (W : Wd) (E : XK) (r : R2) (o : Op2) : Prop := ∀ (x y : Val) (S : Sto) (H : Hp) (μ : Mu) (v w : V) (Q : VK), RelS W H μ S → RelV' W H μ x v → RelV' W H μ y w → Post W E H μ (o x y S) (QV W Q) → r v w H Q
def dOp (o : Op2) (f g : DEf) : DEf := fun env S => (f env S).bind fun x S1 => (g env S1).bind fun y S2 => o x y S2
theorem tE_op {r : R2} {o : Op2} {f g : DEf} (hd : DOp W E r o) (σ : L2.St) (H : Hp) (Q : VK) (h : tE W E (dOp o f g) σ H Q) : tOp r (tE W E f) (tE W E g) σ H Q := by
  obtain ⟨env, S, μ, hE, hS, hp⟩ := h
  refine ⟨env, S, μ, hE, hS, hp.bind.imp fun x S1 H1 μ1 l1 s1 p1 v rv => ?_⟩
  refine ⟨env, S1, μ1, hE.mono l1 hS.is, s1, p1.bind.imp fun y S2 H2 μ2 l2 s2 p2 w rw' => ?_⟩
  exact hd x y S2 H2 μ2 v w Q s2 (rv.mono l2 s1.is) rw' p2
theorem de_op {op : Operator} {r : R2} {o : Op2} {a b : Expr} {f g : DEf} (ho : OpR X (binaryOp op) r) (hd : DOp W E r o) (ha : DE W E X a f) (hb : DE W E X b g) : DE W E X (.BinOp a op b pos) (dOp o f g) :=
  (pe_op ho ha hb).imp (tE_op hd)
theorem de_cmp {op : CmpOp} {r : R2} {o : Op2} {a b : Expr} {f g : DEf} (ho : OpR X (compareOp op) r) (hd : DOp W E r o) (ha : DE W E X a f) (hb : DE W E X b g) (hm : behindInMarks op b = false) : DE W E X (.Compare a [op] [b] pos) (dOp o f g) :=
  (pe_cmpR ho ha hb hm).imp (tE_op hd)
/-- a value as a test -/
def dB (f : DEf) : DTf := fun env S => (f env S).bind fun x S1 => match x with
  | .d (.bl b) => .ok b S1
  | _ => .bad
theorem tE_test {f : DEf} (σ : L2.St) (H : Hp) (Q : Bool → Hp → Prop) (h : tT W E (dB f) σ H Q) : tTest (tE W E f) σ H Q := by
  obtain ⟨env, S, μ, hE, hS, hp⟩ := h
  refine ⟨env, S, μ, hE, hS, hp.bind.imp fun x S1 H1 μ1 l1 s1 p1 v rv => ?_⟩
  cases x with
  | r n => exact p1.elim
  | d x =>
    cases x with
    | bl b =>
      have e : v = .bl b := by simpa [RelV', RelD] using rv
      exact ⟨b, e, p1.at_ s1⟩
    | _ => exact p1.elim
theorem dt_cmp {op : CmpOp} {r : R2} {o : Op2} {a b : Expr} {f g : DEf} (ho : OpR X (compareOp op) r) (hd : DOp W E r o) (ha : DE W E X a f) (hb : DE W E X b g) (hm : behindInMarks op b = false) : DT W E X (.Compare a [op] [b] pos) (dB (dOp o f g)) :=
  (pt_cmpR ho ha hb hm).imp fun σ H Q h => by
    obtain ⟨env, S, μ, hE, hS, hp⟩ := tE_test σ H Q h
    exact tE_op hd σ H _ ⟨env, S, μ, hE, hS, hp⟩
/-- chains -/
def dChain (o o' : Op2) (f g h : DEf) : DEf := fun env S => (f env S).bind fun x S1 => (g env S1).bind fun y S2 => (o x y S2).bind fun z S3 => match z with
  | .d (.bl true) => (h env S3).bind fun w S4 => o' y w S4
  | .d (.bl false) => .ok (.d (.bl false)) S3
  | _ => .bad
theorem tE_chain {r r' : R2} {o o' : Op2} {f g h : DEf} (hd : DOp W E r o) (hd' : DOp W E r' o') (σ : L2.St) (H : Hp) (Q : VK) (hh : tE W E (dChain o o' f g h) σ H Q) : tChain r r' (tE W E f) (tE W E g) (tE W E h) σ H Q := by
  obtain ⟨env, S, μ, hE, hS, hp⟩ := hh
  refine ⟨env, S, μ, hE, hS, hp.bind.imp fun x S1 H1 μ1 l1 s1 p1 v rv => ?_⟩
  refine ⟨env, S1, μ1, hE.mono l1 hS.is, s1, p1.bind.imp fun y S2 H2 μ2 l2 s2 p2 w rw' => ?_⟩
  refine hd x y S2 H2 μ2 v w _ s2 (rv.mono l2 s1.is) rw' (p2.bind.imp fun z S3 H3 μ3 l3 s3 p3 u ru => ?_)
  cases z with
  | r n => exact p3.elim
  | d z =>
    cases z with
    | bl b =>
      have e : u = .bl b := by simpa [RelV', RelD] using ru
      refine ⟨b, e, ?_⟩
      cases b with
      | true =>
        rw [if_pos rfl]
        refine ⟨env, S3, μ3, (hE.mono (l1.trans l2) hS.is).mono l3 s2.is, s3, p3.bind.imp fun t S4 H4 μ4 l4 s4 p4 q rq => ?_⟩
        exact hd' y t S4 H4 μ4 w q Q s4 ((rw'.mono l3 s2.is).mono l4 s3.is) rq p4
      | false =>
        rw [if_neg Bool.false_ne_true]
        exact p3.at_ s3 _ (by simp [RelV', RelD])
    | _ => exact p3.elim
theorem de_chain {op op' : CmpOp} {r r' : R2} {o o' : Op2} {a b c : Expr} {f g h : DEf} (ho : OpR X (compareOp op) r) (ho' : OpR X (compareOp op') r') (hd : DOp W E r o) (hd' : DOp W E r' o') (ha : DE W E X a f) (hb : DE W E X b g) (hc : DE W E X c h)
    (hm : lastMarks [op, op'] [b, c] = false := by with_unfolding_all rfl) : DE W E X (.Compare a [op, op'] [b, c] pos) (dChain o o' f g h) :=
  (pe_chain ho ho' ha hb hc hm).imp (tE_chain hd hd')
theorem dt_chain {op op' : CmpOp} {r r' : R2} {o o' : Op2} {a b c : Expr} {f g h : DEf} (ho : OpR X (compareOp op) r) (ho' : OpR X (compareOp op') r') (hd : DOp W E r o) (hd' : DOp W E r' o') (ha : DE W E X a f) (hb : DE W E X b g) (hc : DE W E X c h)
    (hm : lastMarks [op, op'] [b, c] = false := by with_unfolding_all rfl) : DT W E X (.Compare a [op, op'] [b, c] pos) (dB (dChain o o' f g h)) :=
  (pt_chain ho ho' ha hb hc hm).imp fun σ H Q h => tE_chain hd hd' σ H _ (by obtain ⟨env, S, μ, hE, hS, hp⟩ := tE_test σ H Q h; exact ⟨env, S, μ, hE, hS, hp⟩)

/-! ### and, or, not, if -/
def dtAnd (f g : DTf) : DTf := fun env S => (f env S).bind fun b S1 => if b = true then g env S1 else .ok false S1
def dtOr (f g : DTf) : DTf := fun env S => (f env S).bind fun b S1 => if b = true then .ok true S1 else g env S1
def dtNot (f : DTf) : DTf := fun env S => (f env S).bind fun b S1 => .ok (!b) S1
variable {a b : Expr} {rest : List Expr} {f g : DTf}
theorem dw_and1 (ha : DT W E X a f) : DWt W E X (.BoolOp .And [a] pos) f := pw_and1 ha
theorem dw_or1 (ha : DT W E X a f) : DWt W E X (.BoolOp .Or [a] pos) f := pw_or1 ha
theorem dw_and (ha : DT W E X a f) (hb : DWt W E X (.BoolOp .And (b :: rest) pos) g) : DWt W E X (.BoolOp .And (a :: b :: rest) pos) (dtAnd f g) := (pw_and ha hb).imp fun σ H Q ⟨env, S, μ, hE, hS, hp⟩ => by
  refine ⟨env, S, μ, hE, hS, hp.bind.imp fun c S1 H1 μ1 l1 s1 p1 => ?_⟩
  show if c = true then _ else _
  cases c with
  | true => rw [if_pos rfl] at p1 ⊢; exact ⟨env, S1, μ1, hE.mono l1 hS.is, s1, p1⟩
  | false => rw [if_neg Bool.false_ne_true] at p1 ⊢; exact p1.at_ s1
theorem dw_or (ha : DT W E X a f) (hb : DWt W E X (.BoolOp .Or (b :: rest) pos) g) : DWt W E X (.BoolOp .Or (a :: b :: rest) pos) (dtOr f g) := (pw_or ha hb).imp fun σ H Q ⟨env, S, μ, hE, hS, hp⟩ => by
  refine ⟨env, S, μ, hE, hS, hp.bind.imp fun c S1 H1 μ1 l1 s1 p1 => ?_⟩
  show if c = true then _ else _
  cases c with
  | false => rw [if_neg Bool.false_ne_true] at p1 ⊢; exact ⟨env, S1, μ1, hE.mono l1 hS.is, s1, p1⟩
  | true => rw [if_pos rfl] at p1 ⊢; exact p1.at_ s1
theorem dt_w {e : Expr} (h : DWt W E X e f) : DT W E X e f := h.pt
theorem dt_not (ha : DT W E X a f) : DT W E X (.UnaryOp .Not a pos) (dtNot f) := (pt_not ha).imp fun σ H Q ⟨env, S, μ, hE, hS, hp⟩ =>
  ⟨env, S, μ, hE, hS, hp.bind.imp fun c S1 H1 μ1 l1 s1 p1 => p1.at_ s1⟩
variable {F G : DEf}
/-! .. as values -/
def dAnd (F G : DEf) : DEf := fun env S => (dB F env S).bind fun b S1 => if b = true then G env S1 else .ok (.d (.bl false)) S1
def dOr (F G : DEf) : DEf := fun env S => (dB F env S).bind fun b S1 => if b = true then .ok (.d (.bl true)) S1 else G env S1
def dNot (F : DEf) : DEf := fun env S => (dB F env S).bind fun b S1 => .ok (.d (.bl (!b))) S1
theorem de_one {op} (h : DE W E X a F) : DE W E X (.BoolOp op [a] pos) F := pe_one h
theorem dB_bind {k : Bool → Sto → Out Val} {env : Env} {S : Sto} {H : Hp} {μ : Mu} {Q : VK} {K : Val → Sto → Hp → Mu → Prop} (h : Post W E H μ ((dB F env S).bind k) K)
    (hk : ∀ c S1 H1 μ1, Le H μ H1 μ1 → RelS W H1 μ1 S1 → Post W E H1 μ1 (k c S1) K → Q (.bl c) H1) : Post W E H μ (F env S) (QV W Q) := by
  have h2 : Post W E H μ ((F env S).bind fun x S1 => (match x with | .d (.bl b) => (.ok b S1 : Out Bool) | _ => .bad).bind k) K := by
    unfold dB at h
    cases e : F env S with
    | ok x S1 => rw [e] at h; exact h
    | exc x S1 => rw [e] at h; exact h
    | bad => rw [e] at h; exact h
  refine h2.bind.imp fun x S1 H1 μ1 l1 s1 p1 v rv => ?_
  cases x with
  | r n => exact p1.elim
  | d x =>
    cases x with
    | bl b =>
      have e : v = .bl b := by simpa [RelV', RelD] using rv
      rw [e]
      exact hk b S1 H1 μ1 l1 s1 p1
    | _ => exact p1.elim
theorem de_and (ha : DE W E X a F) (hb : DE W E X (.BoolOp .And (b :: rest) pos) G) : DE W E X (.BoolOp .And (a :: b :: rest) pos) (dAnd F G) := (pe_and ha hb).imp fun σ H Q ⟨env, S, μ, hE, hS, hp⟩ => by
  refine ⟨env, S, μ, hE, hS, dB_bind (Q := fun x H1 => ∃ c, x = .bl c ∧ if c = true then tE W E G σ H1 Q else Q (.bl false) H1) hp fun c S1 H1 μ1 l1 s1 p1 => ⟨c, rfl, ?_⟩⟩
  cases c with
  | true => rw [if_pos rfl] at p1 ⊢; exact ⟨env, S1, μ1, hE.mono l1 hS.is, s1, p1⟩
  | false => rw [if_neg Bool.false_ne_true] at p1 ⊢; exact p1.at_ s1 _ (by simp [RelV', RelD])
theorem de_or (ha : DE W E X a F) (hb : DE W E X (.BoolOp .Or (b :: rest) pos) G) : DE W E X (.BoolOp .Or (a :: b :: rest) pos) (dOr F G) := (pe_or ha hb).imp fun σ H Q ⟨env, S, μ, hE, hS, hp⟩ => by
  refine ⟨env, S, μ, hE, hS, dB_bind (Q := fun x H1 => ∃ c, x = .bl c ∧ if c = true then Q (.bl true) H1 else tE W E G σ H1 Q) hp fun c S1 H1 μ1 l1 s1 p1 => ⟨c, rfl, ?_⟩⟩
  cases c with
  | false => rw [if_neg Bool.false_ne_true] at p1 ⊢; exact ⟨env, S1, μ1, hE.mono l1 hS.is, s1, p1⟩
  | true => rw [if_pos rfl] at p1 ⊢; exact p1.at_ s1 _ (by simp [RelV', RelD])
theorem de_not (ha : DE W E X a F) : DE W E X (.UnaryOp .Not a pos) (dNot F) := (pe_not ha).imp fun σ H Q ⟨env, S, μ, hE, hS, hp⟩ =>
  ⟨env, S, μ, hE, hS, dB_bind (Q := fun x H1 => ∃ c, x = .bl c ∧ Q (.bl (!c)) H1) hp fun c S1 H1 μ1 l1 s1 p1 => ⟨c, rfl, p1.at_ s1 _ (by simp [RelV', RelD])⟩⟩
def dIf (f : DTf) (F G : DEf) : DEf := fun env S => (f env S).bind fun b S1 => if b = true then F env S1 else G env S1
theorem de_if {c : Expr} (hc : DT W E X c f) (ha : DE W E X a F) (hb : DE W E X b G) : DE W E X (.IfExp c a b pos) (dIf f F G) := (pe_ifExp hc ha hb).imp fun σ H Q ⟨env, S, μ, hE, hS, hp⟩ => by
  refine ⟨env, S, μ, hE, hS, hp.bind.imp fun c S1 H1 μ1 l1 s1 p1 => ?_⟩
  show if c = true then _ else _
  cases c with
  | true => rw [if_pos rfl] at p1 ⊢; exact ⟨env, S1, μ1, hE.mono l1 hS.is, s1, p1⟩
  | false => rw [if_neg Bool.false_ne_true] at p1 ⊢; exact ⟨env, S1, μ1, hE.mono l1 hS.is, s1, p1⟩
/-- any value's truth as a test (bools) -/
theorem dt_val (ha : DE W E X a F) (he : ∀ whole, isTrue a X.env whole = (do let v ← whole; standAt a.pos; holding [v] (truthy v)) := by intro _; rfl) : DT W E X a (dB F) :=
  (pt_val ha he).imp fun σ H Q h => tE_test σ H Q h

/-! ### argument lists -/
def dNil : DAf := fun _ S => .ok [] S
def dCons (F : DEf) (As : DAf) : DAf := fun env S => (F env S).bind fun x S1 => (As env S1).bind fun xs S2 => .ok (x :: xs) S2
theorem da_nil : DA W E X [] dNil := pa_nil.imp fun σ H Q ⟨env, S, μ, hE, hS, hp⟩ => hp.at_ hS [] rfl
theorem da_cons {e : Expr} {es : List Expr} {As : DAf} (ha : DE W E X e F) (hr : DA W E X es As) (hs : starEach (e :: es) X.env = (false, eval e X.env) :: starEach es X.env := by rfl) : DA W E X (e :: es) (dCons F As) :=
  (pa_cons ha hr hs).imp fun σ H Q ⟨env, S, μ, hE, hS, hp⟩ => by
    refine ⟨env, S, μ, hE, hS, hp.bind.imp fun x S1 H1 μ1 l1 s1 p1 v rv => ?_⟩
    refine ⟨env, S1, μ1, hE.mono l1 hS.is, s1, p1.bind.imp fun xs S2 H2 μ2 l2 s2 p2 vs rvs => ?_⟩
    exact p2.at_ s2 _ ⟨v, vs, rfl, rv.mono l2 s1.is, rvs⟩
/-- a call of something with values -/
abbrev Opn := List Val → Sto → Out Val
def DCall (W : Wd) (E : XK) (r : List V → Hp → VK → Prop) (o : Opn) : Prop := ∀ (xs : List Val) (S : Sto) (H : Hp) (μ : Mu) (vs : List V) (Q : VK), RelS W H μ S → RelVs W H μ xs vs → Post W E H μ (o xs S) (QV W Q) → r vs H Q
def dCall (o : Opn) (As : DAf) : DEf := fun env S => (As env S).bind fun xs S1 => o xs S1
theorem tE_call {r : List V → Hp → VK → Prop} {o : Opn} {As : DAf} (hd : DCall W E r o) (σ : L2.St) (H : Hp) (Q : VK) (h : tE W E (dCall o As) σ H Q) : tA W E As σ H fun vs H1 => r vs H1 Q := by
  obtain ⟨env, S, μ, hE, hS, hp⟩ := h
  exact ⟨env, S, μ, hE, hS, hp.bind.imp fun xs S1 H1 μ1 l1 s1 p1 vs rvs => hd xs S1 H1 μ1 vs Q s1 rvs p1⟩
end
end Dn
set_option Elab.async false
set_option linter.all false
set_option maxRecDepth 100000
set_option maxHeartbeats 4000000
/-! a tuple times 0, times 1 -/
namespace Dn
open PySem PySem.Spec PyProof.Rows L2
theorem tuple_mul1 (l : Addr) (items : Array Value) (n : Nat) (dd : Option Addr) (sl : Array (Option Value)) (u : Tok) :
    Meets (Builtin.«tuple.__mul__» ⟨[.ref l, .int 1 u], []⟩) (fun _ R s => s.heap.get? l = some { cls := .type "tuple", dict := dd, data := .seq items n, slots := sl } ∧ R (.ok (.ret (Value.ref l))) s) :=
  .of_wp fun prog w A R s h => by
    obtain ⟨hp, g, d, tk, os⟩ := s
    obtain ⟨hl, h⟩ := h
    have f1 := AutoSeq1.idx_int
    wp_walk using wpAny_loadPart' hl
    exact ⟨_, rfl, h⟩
theorem tuple_mul0 (l : Addr) (items : Array Value) (n : Nat) (dd : Option Addr) (sl : Array (Option Value)) (u : Tok) (hne : items.isEmpty = false) :
    Meets (Builtin.«tuple.__mul__» ⟨[.ref l, .int 0 u], []⟩) (fun _ R s => s.heap.get? l = some { cls := .type "tuple", dict := dd, data := .seq items n, slots := sl } ∧
      R (.ok (.ret (Value.ref s.heap.objs.size))) { s with heap := s.heap.push { cls := Value.type "tuple", data := Data.seq #[] }, toks := s.toks }) :=
  .of_wp fun prog w A R s h => by
    obtain ⟨hp, g, d, tk, os⟩ := s
    obtain ⟨hl, h⟩ := h
    have f1 := AutoSeq1.idx_int
    wp_walk using wpAny_loadPart' hl
    repeat (first
      | (refine wpAny_ite_false (decide_eq_false (by rw [hne]; decide)) ?_; wp_walk using wpAny_loadPart' hl)
      | (refine wpAny_ite_true (decide_eq_true (by simp)) ?_; wp_walk using wpAny_loadPart' hl))
    exact ⟨_, rfl, h⟩
def rRep1 (K : PySem.W.Frag) : R2 := fun x y H Q => ∃ l xs, x = .ref l ∧ y = .int 1 ∧ SqT K H l xs ∧ Q (.ref l) H
def rRep0 (K : PySem.W.Frag) : R2 := fun x y H Q => ∃ l xs, x = .ref l ∧ y = .int 0 ∧ SqT K H l xs ∧ xs ≠ [] ∧ ∀ p, H p = none → Q (.ref p) (upd H p (.tup []))
section
variable {X : Cx}
theorem op_rep1 : OpR X (binaryOp .Mult) (rRep1 X.K) := by
  intro pins s σ H x y v u Q I rx ry h
  obtain ⟨l, xs, rfl, rfl, hT, q⟩ := h
  cases rx
  obtain ⟨t, rfl⟩ := ry
  obtain ⟨its, r, ⟨⟨cls, dd, data, sl⟩, ho, hc, n, hd⟩, hs⟩ := I.tuple hT
  simp only at hc hd
  subst hc hd
  refine wpAny_binaryOp_repeat_ref (T := "tuple") (U := "int") (by decide) ⟨_, ho, rfl⟩ (fun s' => typeIs_int s' 1 t) noFill_tuple_mul F.fills_int_mul F.slot_int_rmul repeat_tuple F.slot_int_index.lookup
    (call_meets F.slot_int_rmul (typeIs_int s 1 t) F.entry_int_rmul (F.args_int_rmul_2 _ _) (int_rmul_tuple 1 t l its.toArray n dd sl)
      ⟨ho, rfl, ⟨_, ho, rfl⟩, call_meets F.slot_tuple_mul ⟨_, ho, rfl⟩ F.entry_tuple_mul (F.args_tuple_mul_2 _ _) (tuple_mul1 l its.toArray n dd sl t) ⟨ho, ?_⟩⟩)
  exact ⟨.ref l, _, I, rfl, q⟩
theorem op_rep0 : OpR X (binaryOp .Mult) (rRep0 X.K) := by
  intro pins s σ H x y v u Q I rx ry h
  obtain ⟨l, xs, rfl, rfl, hT, hne, q⟩ := h
  cases rx
  obtain ⟨t, rfl⟩ := ry
  obtain ⟨its, r, ⟨⟨cls, dd, data, sl⟩, ho, hc, n, hd⟩, hs⟩ := I.tuple hT
  simp only at hc hd
  subst hc hd
  have hn : its ≠ [] := fun e => hne (by
    have hle : its.length = xs.length := r.length.symm
    rw [e] at hle
    exact List.eq_nil_of_length_eq_zero hle.symm)
  have hi : its.toArray.isEmpty = false := by
    cases its with
    | nil => exact absurd rfl hn
    | cons a b => rfl
  refine wpAny_binaryOp_repeat_ref (T := "tuple") (U := "int") (by decide) ⟨_, ho, rfl⟩ (fun s' => typeIs_int s' 0 t) noFill_tuple_mul F.fills_int_mul F.slot_int_rmul repeat_tuple F.slot_int_index.lookup
    (call_meets F.slot_int_rmul (typeIs_int s 0 t) F.entry_int_rmul (F.args_int_rmul_2 _ _) (int_rmul_tuple 0 t l its.toArray n dd sl)
      ⟨ho, rfl, ⟨_, ho, rfl⟩, call_meets F.slot_tuple_mul ⟨_, ho, rfl⟩ F.entry_tuple_mul (F.args_tuple_mul_2 _ _) (tuple_mul0 l its.toArray n dd sl t hi) ⟨ho, ?_⟩⟩)
  refine ⟨.ref s.heap.objs.size, _, I.laid (t' := s.toks) (o := .tup []) (fun b ob q => Heap.get?_push_of_some _ q) (Nat.le_refl _) ?_, rfl, q _ (I.hok.fresh (Nat.le_refl _))⟩
  exact ⟨by rw [sizeLine_eq]; decide, [], .nil, IsTup.new _ _⟩
end
end Dn
set_option Elab.async false
set_option linter.all false
set_option maxRecDepth 100000
set_option maxHeartbeats 4000000
/-! ### operators on data -/
namespace Dn
open PySem PySem.Spec PyProof.Rows L2 GxR

abbrev szL : Nat := 16777216
theorem szL_eq : sizeLine = szL := sizeLine_eq
/-- the items of a list, wherever it stands -/
def seqL (x : Val) (S : Sto) : Option (List D) := match x with
  | .d (.lst ds) => some ds
  | .d (.con ds) => some ds
  | .r n => (match S[n]? with | some (.lst ds) => some ds | _ => none)
  | _ => none
/-- of a list that is tracked -/
def trkL (x : Val) (S : Sto) : Option (List D) := match x with
  | .d (.lst ds) => some ds
  | .r n => (match S[n]? with | some (.lst ds) => some ds | _ => none)
  | _ => none
def seqT (x : Val) : Option (List D) := match x with
  | .d (.tup ds) => some ds
  | _ => none
section
variable {W : Wd} {E : XK} {H : Hp} {μ : Mu} {S : Sto}
theorem cell_rel {n : Nat} {ds : List D} {v : V} (s : RelS W H μ S) (h : RelV' W H μ (.r n) v) (e : S[n]? = some (.lst ds)) : ∃ a vs, v = .ref a ∧ μ[n]? = some (some a) ∧ H a = some (.lst vs) ∧ RelDs W H μ ds vs := by
  have hn : n < μ.length := by rw [← s.len]; exact (List.getElem?_eq_some_iff.mp e).1
  have e1 : μ[n]? = some μ[n] := List.getElem?_eq_getElem hn
  obtain ⟨a, vs, e2, e3, r⟩ := s.cell n _ _ e e1
  rw [e2] at e1
  simp only [RelV', e1] at h
  exact ⟨a, vs, h, e1, e3, r⟩
theorem trkL_rel {x : Val} {ds : List D} {v : V} (s : RelS W H μ S) (h : RelV' W H μ x v) (e : trkL x S = some ds) : ∃ a vs, v = .ref a ∧ H a = some (.lst vs) ∧ RelDs W H μ ds vs := by
  unfold trkL at e
  split at e
  · cases e
    simp only [RelV', RelD] at h
    obtain ⟨a, vs, e1, q, r⟩ := h
    exact ⟨a, vs, e1, q.2, r⟩
  · split at e
    · rename_i e1
      cases e
      obtain ⟨a, vs, h1, _, h2, h3⟩ := cell_rel s h e1
      exact ⟨a, vs, h1, h2, h3⟩
    · cases e
  · cases e
theorem seqL_rel {x : Val} {ds : List D} {v : V} (s : RelS W H μ S) (h : RelV' W H μ x v) (e : seqL x S = some ds) : ∃ a vs, v = .ref a ∧ SqL W.K H a vs ∧ RelDs W H μ ds vs := by
  unfold seqL at e
  split at e
  · cases e
    simp only [RelV', RelD] at h
    obtain ⟨a, vs, e1, q, r⟩ := h
    exact ⟨a, vs, e1, q.sq, r⟩
  · cases e
    simp only [RelV', RelD] at h
    obtain ⟨a, vs, e1, q, r⟩ := h
    exact ⟨a, vs, e1, q.sq, r⟩
  · split at e
    · rename_i e1
      cases e
      obtain ⟨a, vs, h1, _, h2, h3⟩ := cell_rel s h e1
      exact ⟨a, vs, h1, .inl (.inl h2), h3⟩
    · cases e
  · cases e
theorem seqT_rel {x : Val} {ds : List D} {v : V} (h : RelV' W H μ x v) (e : seqT x = some ds) : ∃ a vs, v = .ref a ∧ SqT W.K H a vs ∧ RelDs W H μ ds vs := by
  unfold seqT at e
  split at e
  · cases e
    simpa only [RelV', RelD] using h
  · cases e
theorem int_rel {i : Int} {v : V} (h : RelV' W H μ (.d (.int i)) v) : v = .int i := by simpa only [RelV', RelD] using h
theorem bl_rel {i : Bool} {v : V} (h : RelV' W H μ (.d (.bl i)) v) : v = .bl i := by simpa only [RelV', RelD] using h
theorem str_rel {i : Str} {v : V} (h : RelV' W H μ (.d (.str i)) v) : v = .str i := by simpa only [RelV', RelD] using h
theorem non_rel {v : V} (h : RelV' W H μ (.d .non) v) : v = .non := by simpa only [RelV', RelD] using h
theorem rel_int (i : Int) : RelV' W H μ (.d (.int i)) (.int i) := by simp only [RelV', RelD]
theorem rel_bl (i : Bool) : RelV' W H μ (.d (.bl i)) (.bl i) := by simp only [RelV', RelD]
theorem rel_str (i : Str) : RelV' W H μ (.d (.str i)) (.str i) := by simp only [RelV', RelD]
theorem rel_non : RelV' W H μ (.d .non) .non := by simp only [RelV', RelD]
/-- a new tuple of data -/
theorem post_tup {ds : List D} {vs : List V} {K : Val → Sto → Hp → Mu → Prop} {p : Addr} (h : Post W E H μ (.ok (.d (.tup ds)) S) K) (s : RelS W H μ S) (hp : H p = none) (r : RelDs W H μ ds vs) :
    K (.d (.tup ds)) S (upd H p (.tup vs)) μ ∧ RelV' W (upd H p (.tup vs)) μ (.d (.tup ds)) (.ref p) := by
  refine ⟨h _ _ (Le.new hp) (s.new hp), ?_⟩
  simp only [RelV', RelD]
  exact ⟨p, vs, rfl, .inl (.inl upd_same), RelDs.mono (Le.new hp) s.is ds vs r⟩
/-- a new list of data -/
theorem post_lst {ds : List D} {vs : List V} {K : Val → Sto → Hp → Mu → Prop} {p : Addr} (h : Post W E H μ (.ok (.d (.lst ds)) S) K) (s : RelS W H μ S) (hp : H p = none) (r : RelDs W H μ ds vs) :
    K (.d (.lst ds)) S (upd H p (.lst vs)) μ ∧ RelV' W (upd H p (.lst vs)) μ (.d (.lst ds)) (.ref p) := by
  refine ⟨h _ _ (Le.new hp) (s.new hp), ?_⟩
  simp only [RelV', RelD]
  exact ⟨p, vs, rfl, ⟨outM.new s.is hp, upd_same⟩, RelDs.mono (Le.new hp) s.is ds vs r⟩
/-- a new list as a place -/
theorem post_cell {ds : List D} {vs : List V} {K : Val → Sto → Hp → Mu → Prop} {p : Addr} (h : Post W E H μ (.ok (.r S.length) (S ++ [.lst ds])) K) (s : RelS W H μ S) (hp : H p = none) (r : RelDs W H μ ds vs) :
    K (.r S.length) (S ++ [.lst ds]) (upd H p (.lst vs)) (μ ++ [some p]) ∧ RelV' W (upd H p (.lst vs)) (μ ++ [some p]) (.r S.length) (.ref p) := by
  refine ⟨h _ _ (Le.push hp) (s.push hp r), ?_⟩
  simp only [RelV', s.len]
  simp

/-! ### ints -/
def oI (C : Int → Int → Bool) (g : Int → Int → D) : Op2 := fun x y S => match x, y with
  | .d (.int i), .d (.int j) => if C i j = true then .ok (.d (g i j)) S else .bad
  | _, _ => .bad
theorem dop_I {C : Int → Int → Bool} {C' : Int → Int → Prop} {g : Int → Int → D} {g' : Int → Int → V} (hc : ∀ i j, C i j = true → C' i j) (hg : ∀ i j H μ, RelD W H μ (g i j) (g' i j)) : DOp W E (rI C' g') (oI C g) := by
  intro x y S H μ v w Q s rx ry h
  unfold oI at h
  split at h
  · split at h
    · rename_i c
      exact ⟨_, _, int_rel rx, int_rel ry, hc _ _ c, h.at_ s _ (hg ..)⟩
    · exact h.elim
  · exact h.elim
abbrev cTrue : Int → Int → Bool := fun _ _ => true
theorem dop_I0 {g : Int → Int → D} {g' : Int → Int → V} (hg : ∀ i j H μ, RelD W H μ (g i j) (g' i j)) : DOp W E (rI0 g') (oI cTrue g) := by
  intro x y S H μ v w Q s rx ry h
  obtain ⟨i, j, e1, e2, _, q⟩ := dop_I (C := cTrue) (C' := fun _ _ => True) (fun _ _ _ => trivial) hg x y S H μ v w Q s rx ry h
  exact ⟨i, j, e1, e2, q⟩
def cMul : Int → Int → Bool := fun i j => decide (i.natAbs.log2 + j.natAbs.log2 < 1000000)
def cDiv : Int → Int → Bool := fun _ j => decide (j ≠ 0) && decide (j.natAbs.log2 < 9000)
def cMod : Int → Int → Bool := fun _ j => decide (j ≠ 0)
def cPow : Int → Int → Bool := fun i j => decide (0 ≤ j) && decide (j ≤ 1000000) && decide (i.natAbs < 2 ^ 64)
def oSub : Op2 := oI cTrue fun i j => .int (i - j)
def oDiv : Op2 := oI cDiv fun i j => .int (i.fdiv j)
def oMod : Op2 := oI cMod fun i j => .int (i.fmod j)
def oPow : Op2 := oI cPow fun i j => .int (i ^ j.toNat)
def oLt : Op2 := oI cTrue fun i j => .bl (decide (i < j))
def oLe : Op2 := oI cTrue fun i j => .bl (decide (i ≤ j))
def oGt : Op2 := oI cTrue fun i j => .bl (decide (j < i))
def oGe : Op2 := oI cTrue fun i j => .bl (decide (j ≤ i))
theorem op_fdivZ {X : Cx} : OpR X (binaryOp .FloorDiv) (rI (fun _ j => j ≠ 0 ∧ j.natAbs.log2 < 9000) fun i j => .int (i.fdiv j)) := opI fun i j _ _ _ _ _ hc q => floordiv_int hc.1 q (.inl (PyProof.noPylong_of_log2 hc.2))
theorem dop_sub : DOp W E (rI0 fun i j => .int (i - j)) oSub := dop_I0 fun _ _ _ _ => by simp [RelD]
theorem dop_div : DOp W E (rI (fun _ j => j ≠ 0 ∧ j.natAbs.log2 < 9000) fun i j => .int (i.fdiv j)) oDiv := dop_I (fun _ _ h => by simpa [cDiv] using h) fun _ _ _ _ => by simp [RelD]
theorem dop_mod : DOp W E (rI (fun _ j => j ≠ 0) fun i j => .int (i.fmod j)) oMod := dop_I (fun _ _ h => by simpa [cMod] using h) fun _ _ _ _ => by simp [RelD]
theorem dop_pow : DOp W E (rI CPow fun i j => .int (i ^ j.toNat)) oPow := dop_I (fun _ _ h => by simpa [cPow, CPow, and_assoc] using h) fun _ _ _ _ => by simp [RelD]
theorem dop_lt : DOp W E (rI0 fun i j => .bl (decide (i < j))) oLt := dop_I0 fun _ _ _ _ => by simp [RelD]
theorem dop_le : DOp W E (rI0 fun i j => .bl (decide (i ≤ j))) oLe := dop_I0 fun _ _ _ _ => by simp [RelD]
theorem dop_gt : DOp W E (rI0 fun i j => .bl (decide (j < i))) oGt := dop_I0 fun _ _ _ _ => by simp [RelD]
theorem dop_ge : DOp W E (rI0 fun i j => .bl (decide (j ≤ i))) oGe := dop_I0 fun _ _ _ _ => by simp [RelD]

/-! ### + -/
def oAdd : Op2 := fun x y S => match x, y with
  | .d (.int i), .d (.int j) => .ok (.d (.int (i + j))) S
  | .d (.tup a), .d (.tup b) => if a.length + b.length ≤ szL then .ok (.d (.tup (a ++ b))) S else .bad
  | .d (.str a), .d (.str b) => if a.length + b.length ≤ szL then .ok (.d (.str (a ++ b))) S else .bad
  | _, _ => match trkL x S, trkL y S with
    | some a, some b => if a.length + b.length ≤ szL then .ok (.d (.lst (a ++ b))) S else .bad
    | _, _ => .bad
def rAddA (K : PySem.W.Frag) : R2 := fun x y H Q => rI0 (fun i j => .int (i + j)) x y H Q ∨ rCatA K x y H Q ∨ (∃ i j, x = .str i ∧ y = .str j ∧ i.length + j.length ≤ sizeLine ∧ Q (.str (i ++ j)) H) ∨ rCat x y H Q
theorem op_addA {X : Cx} : OpR X (binaryOp .Add) (rAddA X.K) := op_add.or (op_catA.or (op_add_str.or op_cat))
theorem dop_add : DOp W E (rAddA W.K) oAdd := by
  intro x y S H μ v w Q s rx ry h
  unfold oAdd at h
  split at h
  · exact .inl ⟨_, _, int_rel rx, int_rel ry, h.at_ s _ (rel_int _)⟩
  · rename_i a b
    split at h
    · rename_i hz
      obtain ⟨p, vs, rfl, q1, r1⟩ := seqT_rel rx rfl
      obtain ⟨p', ws, rfl, q2, r2⟩ := seqT_rel ry rfl
      refine .inr (.inl ⟨p, p', vs, ws, rfl, rfl, q1, q2, by rw [← r1.length, ← r2.length, szL_eq]; exact hz, fun e => ?_, fun e1 e2 => ?_, fun e1 e2 c hc => ?_⟩)
      · have ea : a = [] := List.length_eq_zero_iff.mp (by rw [r1.length, e]; rfl)
        refine h.at_ s _ ?_
        rw [ea]; exact ry
      · have eb : b = [] := List.length_eq_zero_iff.mp (by rw [r2.length, e2]; rfl)
        refine h.at_ s _ ?_
        rw [eb, List.append_nil]; exact rx
      · obtain ⟨k, r⟩ := post_tup h s hc (r1.append r2)
        exact k _ r
    · exact h.elim
  · split at h
    · rename_i hz
      exact .inr (.inr (.inl ⟨_, _, str_rel rx, str_rel ry, by rw [szL_eq]; exact hz, h.at_ s _ (rel_str _)⟩))
    · exact h.elim
  · split at h
    · rename_i a b e1 e2
      split at h
      · rename_i hz
        obtain ⟨p, vs, rfl, q1, r1⟩ := trkL_rel s rx e1
        obtain ⟨p', ws, rfl, q2, r2⟩ := trkL_rel s ry e2
        refine .inr (.inr (.inr ⟨p, p', vs, ws, rfl, rfl, q1, q2, by rw [← r1.length, ← r2.length, szL_eq]; exact hz, fun c hc => ?_⟩))
        obtain ⟨k, r⟩ := post_lst h s hc (r1.append r2)
        exact k _ r
      · exact h.elim
    · exact h.elim

/-! ### * -/
def oMul : Op2 := fun x y S => match x, y with
  | .d (.int i), .d (.int j) => if cMul i j = true then .ok (.d (.int (i * j))) S else .bad
  | .d (.tup a), .d (.int k) => if a ≠ [] ∧ ((2 ≤ k ∧ k ≤ 1000 ∧ a.length ≤ 1000) ∨ k = 0 ∨ k = 1) then .ok (.d (.tup (List.replicate k.toNat a).flatten)) S else .bad
  | _, _ => .bad
def rMulA (K : PySem.W.Frag) : R2 := fun x y H Q => rI CMulW (fun i j => .int (i * j)) x y H Q ∨ rRepT K x y H Q ∨ rRep1 K x y H Q ∨ rRep0 K x y H Q
theorem op_mulA {X : Cx} : OpR X (binaryOp .Mult) (rMulA X.K) := op_mulW.or (op_repT.or (op_rep1.or op_rep0))
theorem dop_mul : DOp W E (rMulA W.K) oMul := by
  intro x y S H μ v w Q s rx ry h
  unfold oMul at h
  split at h
  · split at h
    · rename_i c
      exact .inl ⟨_, _, int_rel rx, int_rel ry, by simpa [cMul, CMulW] using c, h.at_ s _ (rel_int _)⟩
    · exact h.elim
  · split at h
    · rename_i c
      obtain ⟨p, vs, rfl, q1, r1⟩ := seqT_rel rx rfl
      have ne : vs ≠ [] := fun e => c.1 (List.length_eq_zero_iff.mp (by rw [r1.length, e]; rfl))
      rcases c.2 with c2 | rfl | rfl
      · refine .inr (.inl ⟨p, _, vs, rfl, int_rel ry, q1, ne, c2.1, c2.2.1, by rw [← r1.length]; exact c2.2.2, fun l hl => ?_⟩)
        obtain ⟨k, r⟩ := post_tup h s hl (r1.rep _)
        exact k _ r
      · refine .inr (.inr (.inr ⟨p, vs, rfl, int_rel ry, q1, ne, fun l hl => ?_⟩))
        have r0 := r1.rep 0
        obtain ⟨k, r⟩ := post_tup h s hl r0
        exact k _ r
      · refine .inr (.inr (.inl ⟨p, vs, rfl, int_rel ry, q1, ?_⟩))
        refine h.at_ s _ ?_
        simp only [RelV', RelD]
        exact ⟨p, vs, rfl, q1, by simpa using r1⟩
    · exact h.elim
  · exact h.elim

/-! ### ==, != -/
mutual
def D.py : D → Option PyData
  | .non => some .none
  | .bl b => some (.bool b)
  | .int i => some (.int i)
  | .str x => some (.str x)
  | .tup ds => (pys ds).map .tuple
  | .lst ds => (pys ds).map .list
  | .con ds => (pys ds).map .list
  | .dic => none
  | .obj _ _ => none
def pys : List D → Option (List PyData)
  | [] => some []
  | d :: ds => match D.py d, pys ds with
    | some p, some ps => some (p :: ps)
    | _, _ => none
end
def pyV (x : Val) (S : Sto) : Option PyData := match x with
  | .d d => d.py
  | .r n => (match S[n]? with | some (.lst ds) => (pys ds).map .list | _ => none)
mutual
theorem dp_of : ∀ (d : D) (v : V) (p : PyData), RelD W H μ d v → d.py = some p → Dp W.K H v p
  | .non, v, p, h, e => by simp only [RelD] at h; simp only [D.py] at e; cases e; rw [h]; exact .non
  | .bl b, v, p, h, e => by simp only [RelD] at h; simp only [D.py] at e; cases e; rw [h]; exact .bl b
  | .int b, v, p, h, e => by simp only [RelD] at h; simp only [D.py] at e; cases e; rw [h]; exact .int b
  | .str b, v, p, h, e => by simp only [RelD] at h; simp only [D.py] at e; cases e; rw [h]; exact .str b
  | .tup ds, v, p, h, e => by
    simp only [RelD] at h
    obtain ⟨a, vs, rfl, q, r⟩ := h
    simp only [D.py] at e
    cases k : pys ds with
    | none => rw [k] at e; cases e
    | some ps => rw [k] at e; cases e; exact .tup q (dps_of ds vs ps r k)
  | .lst ds, v, p, h, e => by
    simp only [RelD] at h
    obtain ⟨a, vs, rfl, q, r⟩ := h
    simp only [D.py] at e
    cases k : pys ds with
    | none => rw [k] at e; cases e
    | some ps => rw [k] at e; cases e; exact .lst q.sq (dps_of ds vs ps r k)
  | .con ds, v, p, h, e => by
    simp only [RelD] at h
    obtain ⟨a, vs, rfl, q, r⟩ := h
    simp only [D.py] at e
    cases k : pys ds with
    | none => rw [k] at e; cases e
    | some ps => rw [k] at e; cases e; exact .lst q.sq (dps_of ds vs ps r k)
  | .dic, v, p, h, e => by simp only [D.py] at e; cases e
  | .obj _ _, v, p, h, e => by simp only [D.py] at e; cases e
theorem dps_of : ∀ (ds : List D) (vs : List V) (ps : List PyData), RelDs W H μ ds vs → pys ds = some ps → DpAll W.K H vs ps
  | [], vs, ps, h, e => by simp only [RelDs] at h; simp only [pys] at e; cases e; rw [h]; exact .nil
  | d :: ds, vs, ps, h, e => by
    simp only [RelDs] at h
    obtain ⟨v, r, rfl, h1, h2⟩ := h
    simp only [pys] at e
    cases k1 : d.py with
    | none => rw [k1] at e; cases e
    | some p =>
      cases k2 : pys ds with
      | none => rw [k1, k2] at e; cases e
      | some qs => rw [k1, k2] at e; cases e; exact .cons (dp_of d v p h1 k1) (dps_of ds r qs h2 k2)
end
theorem pyV_rel {x : Val} {v : V} {p : PyData} (s : RelS W H μ S) (h : RelV' W H μ x v) (e : pyV x S = some p) : Dp W.K H v p := by
  cases x with
  | d d => exact dp_of d v p h e
  | r n =>
    unfold pyV at e
    dsimp only at e
    split at e
    · rename_i ds e1
      obtain ⟨a, vs, rfl, _, h2, h3⟩ := cell_rel s h e1
      cases k : pys ds with
      | none => rw [k] at e; cases e
      | some ps => rw [k] at e; cases e; exact .lst (.inl (.inl h2)) (dps_of ds vs ps h3 k)
    · cases e
def oEqB (neg : Bool) : Op2 := fun x y S => match x, y with
  | .d (.str a), .d (.str b) => .ok (.d (.bl (xor neg (decide (a = b))))) S
  | .d (.int a), .d (.int b) => .ok (.d (.bl (xor neg (decide (a = b))))) S
  | _, _ => match pyV x S, pyV y S with
    | some d, some e => if SeqAt.shaped d && SeqAt.shaped e then .ok (.d (.bl (xor neg (PyData.eqv d e)))) S else .bad
    | _, _ => .bad
abbrev oEq : Op2 := oEqB false
abbrev oNe : Op2 := oEqB true
def rEqA (K : PySem.W.Frag) : R2 := fun x y H Q => rEq x y H Q ∨ rEqD K x y H Q
def rNeA (K : PySem.W.Frag) : R2 := fun x y H Q => rNe x y H Q ∨ rNeD K x y H Q
theorem op_eqA {X : Cx} (hu : X.A.units + 64 < cLine) : OpR X (compareOp .Eq) (rEqA X.K) := op_eq.or (op_eqD hu)
theorem op_neA {X : Cx} (hu : X.A.units + 64 < cLine) : OpR X (compareOp .NotEq) (rNeA X.K) := op_ne.or (op_neD hu)
theorem dop_eq : DOp W E (rEqA W.K) oEq := by
  intro x y S H μ v w Q s rx ry h
  unfold oEq oEqB at h
  split at h
  · rename_i a b
    have := h.at_ s _ (rel_bl _)
    exact .inl ⟨by rw [str_rel rx, str_rel ry]; rfl, by rw [str_rel rx, str_rel ry]; simpa using this⟩
  · rename_i a b
    have := h.at_ s _ (rel_bl _)
    exact .inl ⟨by rw [int_rel rx, int_rel ry]; rfl, by rw [int_rel rx, int_rel ry]; simpa using this⟩
  · refine .inr ?_
    split at h
    · rename_i d e e1 e2
      split at h
      · rename_i c
        rw [Bool.and_eq_true] at c
        refine ⟨d, e, pyV_rel s rx e1, pyV_rel s ry e2, c.1, c.2, ?_⟩
        have := h.at_ s _ (rel_bl _)
        simpa using this
      · exact h.elim
    · exact h.elim
theorem dop_ne : DOp W E (rNeA W.K) oNe := by
  intro x y S H μ v w Q s rx ry h
  unfold oNe oEqB at h
  split at h
  · rename_i a b
    have := h.at_ s _ (rel_bl _)
    exact .inl ⟨by rw [str_rel rx, str_rel ry]; rfl, by rw [str_rel rx, str_rel ry]; simpa using this⟩
  · rename_i a b
    have := h.at_ s _ (rel_bl _)
    exact .inl ⟨by rw [int_rel rx, int_rel ry]; rfl, by rw [int_rel rx, int_rel ry]; simpa using this⟩
  · refine .inr ?_
    split at h
    · rename_i d e e1 e2
      split at h
      · rename_i c
        rw [Bool.and_eq_true] at c
        refine ⟨d, e, pyV_rel s rx e1, pyV_rel s ry e2, c.1, c.2, ?_⟩
        have := h.at_ s _ (rel_bl _)
        simpa using this
      · exact h.elim
    · exact h.elim

/-! ### a[i] -/
def oIx : Op2 := fun x y S => match y with
  | .d (.int i) => (match x with
    | .d (.tup ds) => (match atI ds i with | some d => .ok (.d d) S | none => .bad)
    | .d (.str z) => if z.length ≤ szL then (match atI z.cps.toList i with | some c => .ok (.d (.str ⟨#[c]⟩)) S | none => .bad) else .bad
    | _ => (match seqL x S with
      | some ds => (match atI ds i with | some d => .ok (.d d) S | none => .bad)
      | none => .bad))
  | _ => .bad
theorem RelDs.atI {ds : List D} {vs : List V} {i : Int} {d : D} (h : RelDs W H μ ds vs) (e : L2.atI ds i = some d) : ∃ v, L2.atI vs i = some v ∧ RelD W H μ d v := by
  unfold L2.atI at e ⊢
  rw [← h.length]
  cases k : ixN ds.length i with
  | none => rw [k] at e; cases e
  | some j =>
    rw [k] at e
    simp only [Option.bind_some] at e ⊢
    exact h.get e
theorem dop_ix : DOp W E (rIx W.K) oIx := by
  intro x y S H μ v w Q s rx ry h
  unfold oIx at h
  split at h
  · rename_i i
    have hw := int_rel ry
    split at h
    · split at h
      · rename_i d e
        obtain ⟨p, vs, rfl, q1, r1⟩ := seqT_rel rx rfl
        obtain ⟨u, e2, r2⟩ := r1.atI e
        exact .inr (.inl ⟨p, vs, i, u, rfl, hw, q1, e2, h.at_ s _ r2⟩)
      · exact h.elim
    · split at h
      · rename_i hz
        split at h
        · rename_i c e
          exact .inr (.inr ⟨_, i, c, str_rel rx, hw, by rw [szL_eq]; exact hz, e, h.at_ s _ (rel_str _)⟩)
        · exact h.elim
      · exact h.elim
    · split at h
      · rename_i ds e0
        split at h
        · rename_i d e
          obtain ⟨p, vs, rfl, q1, r1⟩ := seqL_rel s rx e0
          obtain ⟨u, e2, r2⟩ := r1.atI e
          exact .inl ⟨p, vs, i, u, rfl, hw, q1, e2, h.at_ s _ r2⟩
        · exact h.elim
      · exact h.elim
  · exact h.elim
end
section
variable {W : Wd} {E : XK} {X : Cx} {pos : Pos} {a b : Expr} {f g : DEf}
theorem opr_K {F : Value → Value → Sem Value} {r : PySem.W.Frag → R2} (hK : X.K = W.K) (h : OpR X F (r X.K)) : OpR X F (r W.K) := hK ▸ h
theorem de_add (hK : X.K = W.K) (ha : DE W E X a f) (hb : DE W E X b g) : DE W E X (.BinOp a .Add b pos) (dOp oAdd f g) := de_op (opr_K hK op_addA) dop_add ha hb
theorem de_sub (ha : DE W E X a f) (hb : DE W E X b g) : DE W E X (.BinOp a .Sub b pos) (dOp oSub f g) := de_op op_sub dop_sub ha hb
theorem de_mul (hK : X.K = W.K) (ha : DE W E X a f) (hb : DE W E X b g) : DE W E X (.BinOp a .Mult b pos) (dOp oMul f g) := de_op (opr_K hK op_mulA) dop_mul ha hb
theorem de_div (ha : DE W E X a f) (hb : DE W E X b g) : DE W E X (.BinOp a .FloorDiv b pos) (dOp oDiv f g) := de_op op_fdivZ dop_div ha hb
theorem de_mod (ha : DE W E X a f) (hb : DE W E X b g) : DE W E X (.BinOp a .Mod b pos) (dOp oMod f g) := de_op op_modN dop_mod ha hb
theorem de_pow (ha : DE W E X a f) (hb : DE W E X b g) : DE W E X (.BinOp a .Pow b pos) (dOp oPow f g) := de_op L2.op_pow dop_pow ha hb
theorem de_ix (hK : X.K = W.K) (ha : DE W E X a f) (hb : DE W E X b g) (hs : PlainIx b) : DE W E X (.Subscript a b pos) (dOp oIx f g) := (pe_ix (hK ▸ ix_seq) ha hb hs).imp (tE_op dop_ix)
end
end Dn
set_option Elab.async false
set_option linter.all false
set_option maxRecDepth 100000
set_option maxHeartbeats 4000000
/-! ### slices, displays, is, in, built-in functions -/
namespace Dn
open PySem PySem.Spec PyProof.Rows L2 GxR

section
variable {W : Wd} {E : XK} {H : Hp} {μ : Mu} {S : Sto}
/-! ### unary minus -/
def oNeg : Val → Sto → Out Val := fun x S => match x with
  | .d (.int i) => .ok (.d (.int (-i))) S
  | _ => .bad
def dUn (o : Val → Sto → Out Val) (f : DEf) : DEf := fun env S => (f env S).bind fun x S1 => o x S1
theorem de_neg {X : Cx} {a : Expr} {f : DEf} {pos : Pos} (ha : DE W E X a f) : DE W E X (.UnaryOp .USub a pos) (dUn oNeg f) := (pe_un un_neg ha).imp fun σ H Q ⟨env, S, μ, hE, hS, hp⟩ =>
  ⟨env, S, μ, hE, hS, hp.bind.imp fun x S1 H1 μ1 l1 s1 p1 v rv => by
    unfold oNeg at p1
    split at p1
    · exact ⟨_, int_rel rv, p1.at_ s1 _ (rel_int _)⟩
    · exact p1.elim⟩
/-! ### slices -/
abbrev DOf := Env → Sto → Out (Option Int)
def tO (W : Wd) (E : XK) (f : DOf) : TO := fun σ H Q => ∃ env S μ, RelE W H μ env σ ∧ RelS W H μ S ∧ Post W E H μ (f env S) fun o _ H' _ => Q o H'
abbrev DO' (W : Wd) (E : XK) (X : Cx) (e : Option Expr) (f : DOf) : Prop := PO X e (tO W E f)
theorem _root_.L2.PO.imp {X : Cx} {e : Option Expr} {t t' : TO} (h : PO X e t) (hi : ∀ σ H Q, t' σ H Q → t σ H Q) : PO X e t' := ⟨fun pins s σ H Q I q => h.run pins s σ H Q I (hi σ H Q q)⟩
def dO0 : DOf := fun _ S => .ok none S
def dO1 (f : DEf) : DOf := fun env S => (f env S).bind fun x S1 => match x with
  | .d (.int i) => .ok (some i) S1
  | _ => .bad
theorem do_0 {X : Cx} : DO' W E X none dO0 := po_none.imp fun σ H Q ⟨env, S, μ, hE, hS, hp⟩ => hp.at_ hS
theorem do_1 {X : Cx} {a : Expr} {f : DEf} (ha : DE W E X a f) : DO' W E X (some a) (dO1 f) := (po_some ha).imp fun σ H Q ⟨env, S, μ, hE, hS, hp⟩ =>
  ⟨env, S, μ, hE, hS, hp.bind.imp fun x S1 H1 μ1 l1 s1 p1 v rv => by
    split at p1
    · exact ⟨_, int_rel rv, p1.at_ s1⟩
    · exact p1.elim⟩
def cutL {α : Type} (xs : List α) (lo hi : Option Int) : List α := (xs.drop (HT.sIx xs.length 0 lo)).take (HT.sIx xs.length xs.length hi - HT.sIx xs.length 0 lo)
theorem RelDs.cut {ds : List D} {vs : List V} (h : RelDs W H μ ds vs) (lo hi : Option Int) : RelDs W H μ (cutL ds lo hi) (cutV vs lo hi) := by
  unfold cutL cutV
  rw [← h.length]
  exact (h.drop _).take _
def oSl (x : Val) (lo hi : Option Int) (S : Sto) : Out Val := match x with
  | .d (.tup ds) => .ok (.d (.tup (cutL ds lo hi))) S
  | _ => match seqL x S with
    | some ds => .ok (.d (.lst (cutL ds lo hi))) S
    | none => .bad
def dSl (f : DEf) (lo hi : DOf) : DEf := fun env S => (f env S).bind fun x S1 => (lo env S1).bind fun l S2 => (hi env S2).bind fun h S3 => oSl x l h S3
theorem cut_whole {α : Type} {ds : List α} {lo hi : Option Int} (h1 : HT.sIx ds.length 0 lo = 0) (h2 : HT.sIx ds.length ds.length hi = ds.length) : cutL ds lo hi = ds := by
  unfold cutL
  rw [h1, h2]
  simp
theorem de_slice {X : Cx} {a : Expr} {lo hi : Option Expr} {f : DEf} {fl fh : DOf} {p2 pos : Pos} (hK : X.K = W.K) (ha : DE W E X a f) (hl : DO' W E X lo fl) (hh : DO' W E X hi fh) : DE W E X (.Subscript a (.Slice lo hi none p2) pos) (dSl f fl fh) := by
  have hr : SlR X (fun x lo hi H Q => rSlL W.K x lo hi H Q ∨ rSlA W.K x lo hi H Q) := hK ▸ sl_list.or sl_tupA
  refine (pe_slice hr ha hl hh).imp fun σ H Q ⟨env, S, μ, hE, hS, hp⟩ => ?_
  refine ⟨env, S, μ, hE, hS, hp.bind.imp fun x S1 H1 μ1 l1 s1 p1 v rv => ?_⟩
  refine ⟨env, S1, μ1, hE.mono l1 hS.is, s1, p1.bind.imp fun l S2 H2 μ2 l2 s2 p2 => ?_⟩
  refine ⟨env, S2, μ2, (hE.mono l1 hS.is).mono l2 s1.is, s2, p2.bind.imp fun u S3 H3 μ3 l3 s3 p3 => ?_⟩
  have rv3 := (rv.mono l2 s1.is).mono l3 s2.is
  unfold oSl at p3
  split at p3
  · rename_i ds
    obtain ⟨p, vs, rfl, q1, r1⟩ := seqT_rel rv3 rfl
    refine .inr ⟨p, vs, rfl, q1, fun hw => ?_, fun hw c hc => ?_⟩
    · rw [← r1.length] at hw
      rw [cut_whole hw.1 hw.2] at p3
      exact p3.at_ s3 _ rv3
    · obtain ⟨k, r⟩ := post_tup p3 s3 hc (r1.cut l u)
      exact k _ r
  · split at p3
    · rename_i ds e0
      obtain ⟨p, vs, rfl, q1, r1⟩ := seqL_rel s3 rv3 e0
      refine .inl ⟨p, vs, rfl, q1, fun c hc => ?_⟩
      obtain ⟨k, r⟩ := post_lst p3 s3 hc (r1.cut l u)
      exact k _ r
    · exact p3.elim
/-- xs[::-1] -/
def oRev : Val → Sto → Out Val := fun x S => match seqL x S with
  | some ds => .ok (.d (.lst ds.reverse)) S
  | none => .bad
theorem de_rev {X : Cx} {a : Expr} {f : DEf} {k : Nat} {p1 p2 p3 pos : Pos} (hK : X.K = W.K) (ha : DE W E X a f) : DE W E X (.Subscript a (.Slice none none (some (.UnaryOp .USub (.Constant (.int 1) k p1) p2)) p3) pos) (dUn oRev f) :=
  (pe_revL ha).imp fun σ H Q ⟨env, S, μ, hE, hS, hp⟩ => ⟨env, S, μ, hE, hS, hp.bind.imp fun x S1 H1 μ1 l1 s1 p1 v rv => by
    unfold oRev at p1
    split at p1
    · rename_i ds e0
      obtain ⟨p, vs, rfl, q1, r1⟩ := seqL_rel s1 rv e0
      refine ⟨p, vs, rfl, hK ▸ q1, fun c hc => ?_⟩
      obtain ⟨k, r⟩ := post_lst p1 s1 hc r1.reverse
      exact k _ r
    · exact p1.elim⟩

/-! ### displays -/
def datas : List Val → Option (List D)
  | [] => some []
  | .d x :: xs => (datas xs).map (x :: ·)
  | .r _ :: _ => none
theorem datas_rel : ∀ {xs : List Val} {vs : List V} {ds : List D}, RelVs W H μ xs vs → datas xs = some ds → RelDs W H μ ds vs
  | [], vs, ds, h, e => by
    simp only [datas] at e; cases e
    simp only [RelVs] at h
    simp only [RelDs]; exact h
  | .d x :: xs, vs, ds, h, e => by
    simp only [datas] at e
    simp only [RelVs] at h
    obtain ⟨v, r, rfl, h1, h2⟩ := h
    cases k : datas xs with
    | none => rw [k] at e; cases e
    | some es =>
      rw [k] at e; cases e
      simp only [RelDs]
      exact ⟨v, r, rfl, h1, datas_rel h2 k⟩
  | .r _ :: _, vs, ds, h, e => by simp only [datas] at e; cases e
theorem RelVs.length : ∀ {xs : List Val} {vs : List V}, RelVs W H μ xs vs → xs.length = vs.length
  | [], vs, h => by simp only [RelVs] at h; subst h; rfl
  | x :: xs, vs, h => by
    simp only [RelVs] at h
    obtain ⟨v, r, rfl, _, h2⟩ := h
    simp [RelVs.length h2]
theorem RelVs.mono {H' : Hp} {μ' : Mu} (l : Le H μ H' μ') (is : Is H μ) : ∀ {xs : List Val} {vs : List V}, RelVs W H μ xs vs → RelVs W H' μ' xs vs
  | [], vs, h => by simpa [RelVs] using h
  | x :: xs, vs, h => by
    simp only [RelVs] at h ⊢
    obtain ⟨v, r, e, h1, h2⟩ := h
    exact ⟨v, r, e, h1.mono l is, RelVs.mono l is h2⟩
theorem rel_one {x : Val} {vs : List V} (h : RelVs W H μ [x] vs) : ∃ v, vs = [v] ∧ RelV' W H μ x v := by
  simp only [RelVs] at h
  obtain ⟨v, r, rfl, h1, rfl⟩ := h
  exact ⟨v, rfl, h1⟩
theorem rel_two {x y : Val} {vs : List V} (h : RelVs W H μ [x, y] vs) : ∃ v w, vs = [v, w] ∧ RelV' W H μ x v ∧ RelV' W H μ y w := by
  simp only [RelVs] at h
  obtain ⟨v, r, rfl, h1, w, r', rfl, h2, rfl⟩ := h
  exact ⟨v, w, rfl, h1, h2⟩
def oTup : Opn := fun xs S => match datas xs with
  | some ds => if ds.length ≤ szL then .ok (.d (.tup ds)) S else .bad
  | none => .bad
def oLst : Opn := fun xs S => match datas xs with
  | some ds => if ds.length ≤ szL then .ok (.d (.lst ds)) S else .bad
  | none => .bad
def oCell : Opn := fun xs S => match datas xs with
  | some ds => if ds.length ≤ szL then .ok (.r S.length) (S ++ [.lst ds]) else .bad
  | none => .bad
variable {X : Cx} {pos : Pos} {es : List Expr} {As : DAf}
theorem de_tup {x1} (ha : DA W E X es As) : DE W E X (.Tuple es x1 pos) (dCall oTup As) := (pe_tup ha).imp fun σ H Q ⟨env, S, μ, hE, hS, hp⟩ =>
  ⟨env, S, μ, hE, hS, hp.bind.imp fun xs S1 H1 μ1 l1 s1 p1 vs rvs => by
    unfold oTup at p1
    split at p1
    · rename_i ds e0
      split at p1
      · rename_i hz
        have r := datas_rel rvs e0
        exact ⟨by rw [← r.length, szL_eq]; exact hz, fun c hc => let ⟨k, q⟩ := post_tup p1 s1 hc r; k _ q⟩
      · exact p1.elim
    · exact p1.elim⟩
theorem de_lst (ha : DA W E X es As) : DE W E X (.List es pos) (dCall oLst As) := (pe_lst ha).imp fun σ H Q ⟨env, S, μ, hE, hS, hp⟩ =>
  ⟨env, S, μ, hE, hS, hp.bind.imp fun xs S1 H1 μ1 l1 s1 p1 vs rvs => by
    unfold oLst at p1
    split at p1
    · rename_i ds e0
      split at p1
      · rename_i hz
        have r := datas_rel rvs e0
        exact ⟨by rw [← r.length, szL_eq]; exact hz, fun c hc => let ⟨k, q⟩ := post_lst p1 s1 hc r; k _ q⟩
      · exact p1.elim
    · exact p1.elim⟩
theorem de_cell (ha : DA W E X es As) : DE W E X (.List es pos) (dCall oCell As) := (pe_lst ha).imp fun σ H Q ⟨env, S, μ, hE, hS, hp⟩ =>
  ⟨env, S, μ, hE, hS, hp.bind.imp fun xs S1 H1 μ1 l1 s1 p1 vs rvs => by
    unfold oCell at p1
    split at p1
    · rename_i ds e0
      split at p1
      · rename_i hz
        have r := datas_rel rvs e0
        exact ⟨by rw [← r.length, szL_eq]; exact hz, fun c hc => let ⟨k, q⟩ := post_cell p1 s1 hc r; k _ q⟩
      · exact p1.elim
    · exact p1.elim⟩
/-- a place is written no more: its list is data from here on -/
def oFrz : Val → Sto → Out Val := fun x S => match x with
  | .d d => .ok (.d d) S
  | .r n => match S[n]? with
    | some (.lst ds) => .ok (.d (.lst ds)) (S.set n .dead)
    | _ => .bad
theorem de_frz {a : Expr} {f : DEf} (ha : DE W E X a f) : DE W E X a (dUn oFrz f) := ha.imp fun σ H Q ⟨env, S, μ, hE, hS, hp⟩ =>
  ⟨env, S, μ, hE, hS, hp.bind.imp fun x S1 H1 μ1 l1 s1 p1 v rv => by
    unfold oFrz at p1
    split at p1
    · exact p1.at_ s1 _ rv
    · rename_i n
      split at p1
      · rename_i ds e
        obtain ⟨a, vs, rfl, h1, h2, h3⟩ := cell_rel s1 rv e
        refine p1 H1 (μ1.set n none) (Le.kill n) (s1.kill n) _ ?_
        simp only [RelV', RelD]
        exact ⟨a, vs, rfl, ⟨outM.dead s1 h1, h2⟩, RelDs.sub (fun _ z => z.kill n) ds vs h3⟩
      · exact p1.elim⟩

/-! ### is, is not, in, not in -/
theorem d_non {d : D} {v : V} (h : RelD W H μ d v) : (v = .non) ↔ d = .non := by
  cases d with
  | non => simp only [RelD] at h; simp [h]
  | bl b => simp only [RelD] at h; simp [h]
  | int i => simp only [RelD] at h; simp [h]
  | str x => simp only [RelD] at h; simp [h]
  | tup ds => simp only [RelD] at h; obtain ⟨a, vs, e, _⟩ := h; simp [e]
  | lst ds => simp only [RelD] at h; obtain ⟨a, vs, e, _⟩ := h; simp [e]
  | con ds => simp only [RelD] at h; obtain ⟨a, vs, e, _⟩ := h; simp [e]
  | dic => simp only [RelD] at h; obtain ⟨a, e, _⟩ := h; simp [e]
  | obj c fs => simp only [RelD] at h; obtain ⟨a, _, _, e, _⟩ := h; simp [e]
def isNon : D → Bool
  | .non => true
  | _ => false
theorem isNon_iff {d : D} : isNon d = true ↔ d = .non := by cases d <;> simp [isNon]
theorem isNon_dec {d : D} {v : V} (h : RelD W H μ d v) : decide (v = .non) = isNon d := by
  rw [Bool.eq_iff_iff, decide_eq_true_eq, d_non h, isNon_iff]
/-- x is y: y None or a bool -/
def oIsB (neg : Bool) : Op2 := fun x y S => match x, y with
  | .d a, .d .non => .ok (.d (.bl (xor neg (isNon a)))) S
  | .d (.bl a), .d (.bl b) => .ok (.d (.bl (xor neg (decide (a = b))))) S
  | _, _ => .bad
abbrev oIs : Op2 := oIsB false
abbrev oIsNot : Op2 := oIsB true
theorem op_isA {X : Cx} : OpR X (compareOp .Is) (fun x y H Q => (y = .non ∧ Q (.bl (decide (x = .non))) H) ∨ rIsB x y H Q) := op_isN.or op_isBl
theorem op_isNotA {X : Cx} : OpR X (compareOp .IsNot) (fun x y H Q => (y = .non ∧ Q (.bl (!decide (x = .non))) H) ∨ rNotB x y H Q) := op_notN.or op_notBl
theorem dop_is : DOp W E (fun x y H Q => (y = .non ∧ Q (.bl (decide (x = .non))) H) ∨ rIsB x y H Q) oIs := by
  intro x y S H μ v w Q s rx ry h
  unfold oIs oIsB at h
  split at h
  · rename_i a
    have := h.at_ s _ (rel_bl _)
    refine .inl ⟨non_rel ry, ?_⟩
    rw [isNon_dec rx]
    simpa using this
  · rename_i a b
    have := h.at_ s _ (rel_bl _)
    exact .inr ⟨a, b, bl_rel rx, bl_rel ry, by simpa using this⟩
  · exact h.elim
theorem dop_isNot : DOp W E (fun x y H Q => (y = .non ∧ Q (.bl (!decide (x = .non))) H) ∨ rNotB x y H Q) oIsNot := by
  intro x y S H μ v w Q s rx ry h
  unfold oIsNot oIsB at h
  split at h
  · rename_i a
    have := h.at_ s _ (rel_bl _)
    refine .inl ⟨non_rel ry, ?_⟩
    rw [isNon_dec rx]
    simpa using this
  · rename_i a b
    have := h.at_ s _ (rel_bl _)
    exact .inr ⟨a, b, bl_rel rx, bl_rel ry, by simpa using this⟩
  · exact h.elim
/-- flat data -/
def flatD : D → Bool
  | .non | .bl _ | .int _ | .str _ => true
  | _ => false
def eqF : D → D → Bool
  | .non, .non => true
  | .bl a, .bl b => a == b
  | .bl a, .int b => (if a then 1 else 0) == b
  | .int a, .bl b => a == (if b then 1 else 0)
  | .int a, .int b => a == b
  | .str a, .str b => a == b
  | _, _ => false
theorem flat_rel {d : D} {v : V} (h : RelD W H μ d v) (f : flatD d = true) : flatV v = true := by
  cases d with
  | non => simp only [RelD] at h; rw [h]; rfl
  | bl b => simp only [RelD] at h; rw [h]; rfl
  | int i => simp only [RelD] at h; rw [h]; rfl
  | str x => simp only [RelD] at h; rw [h]; rfl
  | _ => cases f
theorem eqF_rel {d e : D} {v w : V} (h : RelD W H μ d v) (h' : RelD W H μ e w) (f : flatD d = true) (f' : flatD e = true) : eqV v w = eqF d e := by
  cases d <;> first
    | exact absurd (show false = true from f) Bool.false_ne_true
    | (cases e <;> first
        | exact absurd (show false = true from f') Bool.false_ne_true
        | (simp only [RelD] at h h'; subst h h'; rfl))
theorem flats_rel : ∀ {ds : List D} {vs : List V}, RelDs W H μ ds vs → ds.all flatD = true → vs.all flatV = true
  | [], vs, h, f => by simp only [RelDs] at h; subst h; rfl
  | d :: ds, vs, h, f => by
    simp only [RelDs] at h
    obtain ⟨v, r, rfl, h1, h2⟩ := h
    simp only [List.all_cons, Bool.and_eq_true] at f ⊢
    exact ⟨flat_rel h1 f.1, flats_rel h2 f.2⟩
theorem inV_rel {d : D} {v : V} (h : RelD W H μ d v) (f : flatD d = true) : ∀ {ds : List D} {vs : List V}, RelDs W H μ ds vs → ds.all flatD = true → inV v vs = ds.any fun e => eqF e d
  | [], vs, h', f' => by simp only [RelDs] at h'; subst h'; rfl
  | e :: ds, vs, h', f' => by
    simp only [RelDs] at h'
    obtain ⟨w, r, rfl, h1, h2⟩ := h'
    simp only [List.all_cons, Bool.and_eq_true] at f'
    have := inV_rel h f h2 f'.2
    unfold inV at this ⊢
    simp only [List.any_cons]
    rw [this, eqF_rel h1 h f'.1 f]
def seqA (x : Val) (S : Sto) : Option (List D) := match x with
  | .d (.tup ds) => some ds
  | _ => seqL x S
theorem seqA_rel {x : Val} {ds : List D} {v : V} (s : RelS W H μ S) (h : RelV' W H μ x v) (e : seqA x S = some ds) : ∃ a vs, v = .ref a ∧ (SqL W.K H a vs ∨ SqT W.K H a vs) ∧ RelDs W H μ ds vs := by
  unfold seqA at e
  split at e
  · cases e
    obtain ⟨a, vs, e1, q, r⟩ := seqT_rel h rfl
    exact ⟨a, vs, e1, .inr q, r⟩
  · obtain ⟨a, vs, e1, q, r⟩ := seqL_rel s h e
    exact ⟨a, vs, e1, .inl q, r⟩
def oInB (neg : Bool) : Op2 := fun x y S => match x, seqA y S with
  | .d a, some ds => if flatD a = true ∧ ds.all flatD = true then .ok (.d (.bl (xor neg (ds.any fun e => eqF e a)))) S else .bad
  | _, _ => .bad
abbrev oIn : Op2 := oInB false
abbrev oNotIn : Op2 := oInB true
theorem dop_inB (neg : Bool) : DOp W E (rIn W.K neg) (oInB neg) := by
  intro x y S H μ v w Q s rx ry h
  unfold oInB at h
  split at h
  · rename_i a ds e
    split at h
    · rename_i c
      obtain ⟨p, vs, rfl, q, r⟩ := seqA_rel s ry e
      refine ⟨p, vs, rfl, q, flat_rel rx c.1, flats_rel r c.2, ?_⟩
      have := h.at_ s _ (rel_bl _)
      rw [inV_rel rx c.1 r c.2]
      cases neg <;> simpa using this
    · exact h.elim
  · exact h.elim

/-! ### built-in functions -/
theorem DCall.or {r r' : List V → Hp → VK → Prop} {o : Opn} (h : ∀ xs S H μ vs Q, RelS W H μ S → RelVs W H μ xs vs → Post W E H μ (o xs S) (QV W Q) → r vs H Q ∨ r' vs H Q) : DCall W E (fun vs H Q => r vs H Q ∨ r' vs H Q) o := h
/-- of one value -/
def o1 (o : Val → Sto → Out Val) : Opn := fun xs S => match xs with
  | [x] => o x S
  | _ => .bad
theorem dcall1 {r : List V → Hp → VK → Prop} {o : Val → Sto → Out Val} (h : ∀ x S H μ v Q, RelS W H μ S → RelV' W H μ x v → Post W E H μ (o x S) (QV W Q) → r [v] H Q) : DCall W E r (o1 o) := by
  intro xs S H μ vs Q s rvs p
  unfold o1 at p
  split at p
  · obtain ⟨v, rfl, rv⟩ := rel_one rvs
    exact h _ S H μ v Q s rv p
  · exact p.elim
def o2 (o : Op2) : Opn := fun xs S => match xs with
  | [x, y] => o x y S
  | _ => .bad
theorem dcall2 {r : List V → Hp → VK → Prop} {o : Op2} (h : ∀ x y S H μ v w Q, RelS W H μ S → RelV' W H μ x v → RelV' W H μ y w → Post W E H μ (o x y S) (QV W Q) → r [v, w] H Q) : DCall W E r (o2 o) := by
  intro xs S H μ vs Q s rvs p
  unfold o2 at p
  split at p
  · obtain ⟨v, w, rfl, rv, rw'⟩ := rel_two rvs
    exact h _ _ S H μ v w Q s rv rw' p
  · exact p.elim
def bLen : Val → Sto → Out Val := fun x S => match x with
  | .d (.str z) => if z.length ≤ szL then .ok (.d (.int z.length)) S else .bad
  | _ => match seqA x S with
    | some ds => .ok (.d (.int ds.length)) S
    | none => .bad
theorem dc_len : DCall W E (fun xs H Q => ∃ x n, xs = [x] ∧ LenV W.K x H n ∧ Q (.int n) H) (o1 bLen) := dcall1 fun x S H μ v Q s rv p => by
  unfold bLen at p
  split at p
  · split at p
    · rename_i z hz
      exact ⟨v, _, rfl, by rw [str_rel rv]; exact ⟨by rw [szL_eq]; exact hz, rfl⟩, p.at_ s _ (rel_int _)⟩
    · exact p.elim
  · split at p
    · rename_i ds e
      obtain ⟨a, vs, rfl, q, r⟩ := seqA_rel s rv e
      refine ⟨_, ds.length, rfl, ?_, p.at_ s _ (rel_int _)⟩
      rcases q with q | q
      · exact .inl ⟨vs, q, r.length⟩
      · exact .inr ⟨vs, q, r.length⟩
    · exact p.elim
def bAbs : Val → Sto → Out Val := fun x S => match x with
  | .d (.int i) => .ok (.d (.int (if i < 0 then -i else i))) S
  | _ => .bad
theorem dc_abs : DCall W E (fun xs H Q => ∃ i, xs = [.int i] ∧ Q (.int (if i < 0 then -i else i)) H) (o1 bAbs) := dcall1 fun x S H μ v Q s rv p => by
  unfold bAbs at p
  split at p
  · exact ⟨_, by rw [int_rel rv], p.at_ s _ (rel_int _)⟩
  · exact p.elim
def bInt : Val → Sto → Out Val := fun x S => match x with
  | .d (.int i) => .ok (.d (.int i)) S
  | .d (.bl k) => .ok (.d (.int (if k then 1 else 0))) S
  | _ => .bad
theorem dc_int : DCall W E (fun xs H Q => (∃ i, xs = [.int i] ∧ Q (.int i) H) ∨ ∃ k, xs = [.bl k] ∧ Q (.int (if k then 1 else 0)) H) (o1 bInt) := dcall1 fun x S H μ v Q s rv p => by
  unfold bInt at p
  split at p
  · exact .inl ⟨_, by rw [int_rel rv], p.at_ s _ (rel_int _)⟩
  · exact .inr ⟨_, by rw [bl_rel rv], p.at_ s _ (rel_int _)⟩
  · exact p.elim
def bMax2 : Op2 := oI cTrue fun i j => .int (if j > i then j else i)
def bMin2 : Op2 := oI cTrue fun i j => .int (if j < i then j else i)
theorem dc_max2 : DCall W E (fun xs H Q => ∃ i j, xs = [.int i, .int j] ∧ Q (.int (if j > i then j else i)) H) (o2 bMax2) := dcall2 fun x y S H μ v w Q s rx ry p => by
  obtain ⟨i, j, rfl, rfl, q⟩ := dop_I0 (W := W) (E := E) (g := fun i j => D.int (if j > i then j else i)) (g' := fun i j => V.int (if j > i then j else i)) (fun _ _ _ _ => by simp [RelD]) x y S H μ v w Q s rx ry p
  exact ⟨i, j, rfl, q⟩
theorem dc_min2 : DCall W E (fun xs H Q => ∃ i j, xs = [.int i, .int j] ∧ Q (.int (if j < i then j else i)) H) (o2 bMin2) := dcall2 fun x y S H μ v w Q s rx ry p => by
  obtain ⟨i, j, rfl, rfl, q⟩ := dop_I0 (W := W) (E := E) (g := fun i j => D.int (if j < i then j else i)) (g' := fun i j => V.int (if j < i then j else i)) (fun _ _ _ _ => by simp [RelD]) x y S H μ v w Q s rx ry p
  exact ⟨i, j, rfl, q⟩
def bGcd : Op2 := oI cTrue fun i j => .int ((Nat.gcd i.natAbs j.natAbs : Nat) : Int)
theorem dc_gcd : DCall W E rGcd (o2 bGcd) := dcall2 fun x y S H μ v w Q s rx ry p => by
  obtain ⟨i, j, rfl, rfl, q⟩ := dop_I0 (W := W) (E := E) (g := fun i j => D.int ((Nat.gcd i.natAbs j.natAbs : Nat) : Int)) (g' := fun i j => V.int ((Nat.gcd i.natAbs j.natAbs : Nat) : Int)) (fun _ _ _ _ => by simp [RelD]) x y S H μ v w Q s rx ry p
  exact ⟨i, j, rfl, q⟩
def bDivmod : Op2 := fun x y S => match x, y with
  | .d (.int i), .d (.int j) => if 0 < j ∧ j < 1073741824 then .ok (.d (.tup [.int (i / j), .int (i % j)])) S else .bad
  | _, _ => .bad
theorem dc_divmod : DCall W E (fun xs H Q => ∃ i j, xs = [.int i, .int j] ∧ CDiv i j ∧ ∀ p, H p = none → Q (.ref p) (upd H p (.tup [.int (i / j), .int (i % j)]))) (o2 bDivmod) := dcall2 fun x y S H μ v w Q s rx ry p => by
  unfold bDivmod at p
  split at p
  · rename_i i j
    split at p
    · rename_i c
      refine ⟨i, j, by rw [int_rel rx, int_rel ry], c, fun b hb => ?_⟩
      obtain ⟨k, r⟩ := post_tup (vs := [.int (i / j), .int (i % j)]) p s hb (by simp [RelDs, RelD])
      exact k _ r
    · exact p.elim
  · exact p.elim
/-- tuple(xs) -/
def bTuple : Val → Sto → Out Val := fun x S => match seqA x S with
  | some ds => .ok (.d (.tup ds)) S
  | none => .bad
theorem dc_tuple : DCall W E (fun xs H Q => ∃ p ys, xs = [.ref p] ∧ ((SqL W.K H p ys ∧ ∀ l, H l = none → Q (.ref l) (upd H l (.tup ys))) ∨ (SqT W.K H p ys ∧ Q (.ref p) H))) (o1 bTuple) := dcall1 fun x S H μ v Q s rv p => by
  unfold bTuple at p
  split at p
  · rename_i ds e
    obtain ⟨a, vs, rfl, q, r⟩ := seqA_rel s rv e
    refine ⟨a, vs, rfl, ?_⟩
    rcases q with q | q
    · exact .inl ⟨q, fun l hl => let ⟨k, r'⟩ := post_tup p s hl r; k _ r'⟩
    · refine .inr ⟨q, p.at_ s _ ?_⟩
      simp only [RelV', RelD]
      exact ⟨a, vs, rfl, q, r⟩
  · exact p.elim
/-- list(xs), as data and as a place -/
def bList : Val → Sto → Out Val := fun x S => match seqA x S with
  | some ds => .ok (.d (.lst ds)) S
  | none => .bad
def bListC : Val → Sto → Out Val := fun x S => match seqA x S with
  | some ds => .ok (.r S.length) (S ++ [.lst ds])
  | none => .bad
theorem dc_list : DCall W E (fun xs H Q => ∃ p ys, xs = [.ref p] ∧ (SqL W.K H p ys ∨ SqT W.K H p ys) ∧ ∀ l, H l = none → Q (.ref l) (upd H l (.lst ys))) (o1 bList) := dcall1 fun x S H μ v Q s rv p => by
  unfold bList at p
  split at p
  · rename_i ds e
    obtain ⟨a, vs, rfl, q, r⟩ := seqA_rel s rv e
    exact ⟨a, vs, rfl, q, fun l hl => let ⟨k, r'⟩ := post_lst p s hl r; k _ r'⟩
  · exact p.elim
theorem dc_listC : DCall W E (fun xs H Q => ∃ p ys, xs = [.ref p] ∧ (SqL W.K H p ys ∨ SqT W.K H p ys) ∧ ∀ l, H l = none → Q (.ref l) (upd H l (.lst ys))) (o1 bListC) := dcall1 fun x S H μ v Q s rv p => by
  unfold bListC at p
  split at p
  · rename_i ds e
    obtain ⟨a, vs, rfl, q, r⟩ := seqA_rel s rv e
    exact ⟨a, vs, rfl, q, fun l hl => let ⟨k, r'⟩ := post_cell p s hl r; k _ r'⟩
  · exact p.elim
/-- all, any of a list of bools -/
def blsOf : List D → Option (List Bool)
  | [] => some []
  | .bl b :: ds => (blsOf ds).map (b :: ·)
  | _ :: _ => none
theorem bls_rel : ∀ {ds : List D} {vs : List V} {bs : List Bool}, RelDs W H μ ds vs → blsOf ds = some bs → vs = bs.map V.bl
  | [], vs, bs, h, e => by simp only [blsOf] at e; cases e; simp only [RelDs] at h; subst h; rfl
  | d :: ds, vs, bs, h, e => by
    simp only [RelDs] at h
    obtain ⟨v, r, rfl, h1, h2⟩ := h
    cases d <;> simp only [blsOf] at e <;> try cases e
    rename_i b
    cases k : blsOf ds with
    | none => rw [k] at e; cases e
    | some cs =>
      rw [k] at e; cases e
      simp only [RelD] at h1
      rw [h1, bls_rel h2 k]; rfl
def intsOf : List D → Option (List Int)
  | [] => some []
  | .int b :: ds => (intsOf ds).map (b :: ·)
  | _ :: _ => none
theorem ints_rel : ∀ {ds : List D} {vs : List V} {bs : List Int}, RelDs W H μ ds vs → intsOf ds = some bs → vs = bs.map V.int
  | [], vs, bs, h, e => by simp only [intsOf] at e; cases e; simp only [RelDs] at h; subst h; rfl
  | d :: ds, vs, bs, h, e => by
    simp only [RelDs] at h
    obtain ⟨v, r, rfl, h1, h2⟩ := h
    cases d <;> simp only [intsOf] at e <;> try cases e
    rename_i b
    cases k : intsOf ds with
    | none => rw [k] at e; cases e
    | some cs =>
      rw [k] at e; cases e
      simp only [RelD] at h1
      rw [h1, ints_rel h2 k]; rfl
def bAll : Val → Sto → Out Val := fun x S => match (seqL x S).bind blsOf with
  | some bs => .ok (.d (.bl (bs.all id))) S
  | none => .bad
def bAny : Val → Sto → Out Val := fun x S => match (seqL x S).bind blsOf with
  | some bs => .ok (.d (.bl (bs.any id))) S
  | none => .bad
def bSum : Val → Sto → Out Val := fun x S => match (seqL x S).bind intsOf with
  | some bs => .ok (.d (.int bs.sum)) S
  | none => .bad
theorem dc_all : DCall W E (rAll W.K) (o1 bAll) := dcall1 fun x S H μ v Q s rv p => by
  unfold bAll at p
  split at p
  · rename_i bs e
    obtain ⟨ds, e1, e2⟩ := Option.bind_eq_some_iff.mp e
    obtain ⟨a, vs, rfl, q, r⟩ := seqL_rel s rv e1
    exact ⟨a, bs, rfl, by rw [← bls_rel r e2]; exact q, p.at_ s _ (rel_bl _)⟩
  · exact p.elim
theorem dc_any : DCall W E (rAny W.K) (o1 bAny) := dcall1 fun x S H μ v Q s rv p => by
  unfold bAny at p
  split at p
  · rename_i bs e
    obtain ⟨ds, e1, e2⟩ := Option.bind_eq_some_iff.mp e
    obtain ⟨a, vs, rfl, q, r⟩ := seqL_rel s rv e1
    exact ⟨a, bs, rfl, by rw [← bls_rel r e2]; exact q, p.at_ s _ (rel_bl _)⟩
  · exact p.elim
theorem dc_sum : DCall W E (rSum W.K) (o1 bSum) := dcall1 fun x S H μ v Q s rv p => by
  unfold bSum at p
  split at p
  · rename_i bs e
    obtain ⟨ds, e1, e2⟩ := Option.bind_eq_some_iff.mp e
    obtain ⟨a, vs, rfl, q, r⟩ := seqL_rel s rv e1
    exact ⟨a, bs, rfl, by rw [← ints_rel r e2]; exact q, p.at_ s _ (rel_int _)⟩
  · exact p.elim
end
end Dn
set_option Elab.async false
set_option linter.all false
set_option maxRecDepth 100000
set_option maxHeartbeats 4000000
/-! ### targets, statements, loops -/
namespace Dn
open PySem PySem.Spec PyProof.Rows L2 GxR

section
variable {W : Wd} {E : XK} {X : Cx} {pos : Pos}
abbrev DGf := Val → Env → Sto → Out Env
def QE (W : Wd) (Q : L2.St → Hp → Prop) : Env → Sto → Hp → Mu → Prop := fun env _ H μ => ∀ σ, RelE W H μ env σ → Q σ H
def tG (W : Wd) (E : XK) (g : DGf) : TG := fun v σ H Q => ∃ x env S μ, RelV' W H μ x v ∧ RelE W H μ env σ ∧ RelS W H μ S ∧ Post W E H μ (g x env S) (QE W Q)
abbrev DG (W : Wd) (E : XK) (X : Cx) (tg : Expr) (g : DGf) : Prop := PG X tg (tG W E g)
theorem _root_.L2.PG.imp {X : Cx} {e : Expr} {t t' : TG} (h : PG X e t) (hi : ∀ v σ H Q, t' v σ H Q → t v σ H Q) : PG X e t' := ⟨fun pins s σ H v u Q I r q => h.run pins s σ H v u Q I r (hi v σ H Q q)⟩
theorem _root_.L2.PGs.imp {X : Cx} {e : List Expr} {t t' : TGs} (h : PGs X e t) (hi : ∀ v σ H Q, t' v σ H Q → t v σ H Q) : PGs X e t' := ⟨fun pins s σ H v u Q I r q => h.run pins s σ H v u Q I r (hi v σ H Q q)⟩
theorem RelE.set {H : Hp} {μ : Mu} {env : Env} {σ : L2.St} {i : Nat} {x : Val} {v : V} (h : RelE W H μ env σ) (r : RelV' W H μ x v) : RelE W H μ (env.set i (some x)) (σ.set i (some v)) := by
  refine ⟨by simp [h.1], fun j y e => ?_⟩
  by_cases hj : i = j
  · subst hj
    have hl : i < env.length := by
      by_cases hl : i < env.length
      · exact hl
      · rw [List.getElem?_eq_none (by simp; omega)] at e; cases e
    rw [List.getElem?_set_self hl] at e
    cases e
    exact ⟨v, List.getElem?_set_self (h.1 ▸ hl), r⟩
  · rw [List.getElem?_set_ne hj] at e ⊢
    exact h.2 j y e
def dgName (i : Nat) : DGf := fun x env S => .ok (env.set i (some x)) S
theorem dg_name {i : Nat} {x : Str} (hN : X.N.Nodup) (hi : X.N[i]? = some x) (hx : Loc X.env.scope x) (hf : X.fn x = true ∨ X.env.scope.names.lookup x = some .local) : DG W E X (.Name x pos) (dgName i) :=
  (pg_name hN hi hx hf).imp fun v σ H Q ⟨x, env, S, μ, rv, hE, hS, hp⟩ => hp.at_ hS _ (hE.set rv)
abbrev DGsf := List D → Env → Sto → Out Env
def tGs (W : Wd) (E : XK) (g : DGsf) : TGs := fun vs σ H Q => ∃ xs env S μ, RelDs W H μ xs vs ∧ RelE W H μ env σ ∧ RelS W H μ S ∧ Post W E H μ (g xs env S) (QE W Q)
abbrev DGs (W : Wd) (E : XK) (X : Cx) (tg : List Expr) (g : DGsf) : Prop := PGs X tg (tGs W E g)
def dgNil : DGsf := fun xs env S => match xs with
  | [] => .ok env S
  | _ => .bad
def dgCons (g : DGf) (gs : DGsf) : DGsf := fun xs env S => match xs with
  | x :: xs => (g (.d x) env S).bind fun env1 S1 => gs xs env1 S1
  | _ => .bad
theorem dgs_nil : DGs W E X [] dgNil := pgs_nil.imp fun vs σ H Q ⟨xs, env, S, μ, rv, hE, hS, hp⟩ => by
  unfold dgNil at hp
  split at hp
  · exact ⟨by simpa only [RelDs] using rv, hp.at_ hS _ hE⟩
  · exact hp.elim
theorem dgs_cons {e : Expr} {es : List Expr} {g : DGf} {gs : DGsf} (h1 : DG W E X e g) (h2 : DGs W E X es gs) (hs : (assignEach (e :: es) X.env).map (·.2) = assign e X.env :: (assignEach es X.env).map (·.2) := by rfl) : DGs W E X (e :: es) (dgCons g gs) :=
  (pgs_cons h1 h2 hs).imp fun vs σ H Q ⟨xs, env, S, μ, rv, hE, hS, hp⟩ => by
    unfold dgCons at hp
    split at hp
    · rename_i x xs
      simp only [RelDs] at rv
      obtain ⟨v, r, rfl, r1, r2⟩ := rv
      refine ⟨v, r, rfl, .d x, env, S, μ, r1, hE, hS, hp.bind.imp fun env1 S1 H1 μ1 l1 s1 p1 σ1 hE1 => ?_⟩
      exact ⟨xs, env1, S1, μ1, RelDs.mono l1 hS.is xs r r2, hE1, s1, p1⟩
    · exact hp.elim
def dgTup (n : Nat) (gs : DGsf) : DGf := fun x env S => match x with
  | .d (.tup ds) => if ds.length = n then gs ds env S else .bad
  | _ => .bad
theorem dg_tup {es : List Expr} {k n : Nat} {gs : DGsf} (hK : X.K = W.K) (hc : X.calm = true) (h : DGs W E X es gs) (hn : (assignEach es X.env).length = n := by rfl) (hst : (assignEach es X.env).findIdx? (·.1) = none := by rfl) : DG W E X (.Tuple es k pos) (dgTup n gs) :=
  (pg_tup hc h hn hst).imp fun v σ H Q ⟨x, env, S, μ, rv, hE, hS, hp⟩ => by
    unfold dgTup at hp
    split at hp
    · rename_i ds
      split at hp
      · rename_i hz
        obtain ⟨a, vs, rfl, q, r⟩ := seqT_rel rv rfl
        exact ⟨a, vs, rfl, hK ▸ q, by rw [← r.length]; exact hz, ds, env, S, μ, r, hE, hS, hp⟩
      · exact hp.elim
    · exact hp.elim
/-- xs[i] = v -/
def oSet (o i x : Val) (S : Sto) : Out Unit := match o, i, x with
  | .r n, .d (.int k), .d d => (match S[n]? with
    | some (.lst ds) => (match ixN ds.length k with
      | some j => .ok () (S.set n (.lst (ds.set j d)))
      | none => .bad)
    | _ => .bad)
  | _, _, _ => .bad
def dgSub (f g : DEf) : DGf := fun x env S => (f env S).bind fun o S1 => (g env S1).bind fun i S2 => (oSet o i x S2).bind fun _ S3 => .ok env S3
theorem dg_sub {o i : Expr} {f g : DEf} (ho : DE W E X o f) (hi : DE W E X i g) (ha : ∀ v, assign (.Subscript o i pos) X.env v = (do
      let ov ← holding [v] (eval o X.env)
      let iv ← holding [v, ov] (eval i X.env)
      standAt pos
      holding [v, ov, iv] (setItem ov iv v)
      release [v, ov, iv] []) := by intro _; rfl) : DG W E X (.Subscript o i pos) (dgSub f g) :=
  (pg_sub ho hi set_list ha).imp fun v σ H Q ⟨x, env, S, μ, rv, hE, hS, hp⟩ => by
    refine ⟨env, S, μ, hE, hS, hp.bind.imp fun o S1 H1 μ1 l1 s1 p1 ov ro => ?_⟩
    refine ⟨env, S1, μ1, hE.mono l1 hS.is, s1, p1.bind.imp fun i S2 H2 μ2 l2 s2 p2 iv ri => ?_⟩
    have p3 := p2.bind
    have rv2 := (rv.mono l1 hS.is).mono l2 s1.is
    have ro2 := ro.mono l2 s1.is
    unfold oSet at p3
    split at p3
    · rename_i n k d
      split at p3
      · rename_i ds e
        split at p3
        · rename_i j ej
          obtain ⟨a, vs, rfl, h1, h2, h3⟩ := cell_rel s2 ro2 e
          refine ⟨a, vs, k, j, rfl, int_rel ri, h2, by rw [← h3.length]; exact ej, ?_⟩
          have pq := p3 (upd H2 a (.lst (vs.set j v))) μ2 (Le.put h1) (s2.put h1 (h3.set j rv2))
          exact pq.at_ (s2.put h1 (h3.set j rv2)) _ (((hE.mono l1 hS.is).mono l2 s1.is).mono (Le.put h1) s2.is)
        · exact p3.elim
      · exact p3.elim
    · exact p3.elim

/-! ### methods of lists -/
def dMeth (o : Val → List Val → Sto → Out Val) (f : DEf) (As : DAf) : DEf := fun env S => (f env S).bind fun x S1 => match seqL x S1 with
  | some _ => (As env S1).bind fun xs S2 => o x xs S2
  | none => .bad
def DMt (W : Wd) (E : XK) (r : V → List V → Hp → VK → Prop) (o : Val → List Val → Sto → Out Val) : Prop := ∀ x xs S H μ v vs Q, RelS W H μ S → RelV' W H μ x v → RelVs W H μ xs vs → Post W E H μ (o x xs S) (QV W Q) → r v vs H Q
def mAppend (x : Val) (xs : List Val) (S : Sto) : Out Val := match x, xs with
  | .r n, [.d d] => (match S[n]? with
    | some (.lst ds) => if ds.length < szL then .ok (.d .non) (S.set n (.lst (ds ++ [d]))) else .bad
    | _ => .bad)
  | _, _ => .bad
def mExtend (x : Val) (xs : List Val) (S : Sto) : Out Val := match x, xs with
  | .r n, [y] => (match S[n]?, trkL y S with
    | some (.lst ds), some es => if ds.length + es.length ≤ szL then .ok (.d .non) (S.set n (.lst (ds ++ es))) else .bad
    | _, _ => .bad)
  | _, _ => .bad
theorem dm_append : DMt W E rAppend mAppend := by
  intro x xs S H μ v vs Q s rv rvs p
  unfold mAppend at p
  split at p
  · rename_i n d
    split at p
    · rename_i ds e
      split at p
      · rename_i hz
        obtain ⟨a, ws, rfl, h1, h2, h3⟩ := cell_rel s rv e
        obtain ⟨u, rfl, ru⟩ := rel_one rvs
        have r2 : RelDs W H μ (ds ++ [d]) (ws ++ [u]) := h3.append (by simp only [RelDs]; exact ⟨u, [], rfl, ru, rfl⟩)
        exact ⟨a, ws, u, rfl, rfl, h2, by rw [← h3.length, szL_eq]; exact hz, p _ _ (Le.put h1) (s.put h1 r2) _ rel_non⟩
      · exact p.elim
    · exact p.elim
  · exact p.elim
theorem dm_extend : DMt W E rExtend mExtend := by
  intro x xs S H μ v vs Q s rv rvs p
  unfold mExtend at p
  split at p
  · rename_i n y
    split at p
    · rename_i ds es e1 e2
      split at p
      · rename_i hz
        obtain ⟨a, ws, rfl, h1, h2, h3⟩ := cell_rel s rv e1
        obtain ⟨u, rfl, ru⟩ := rel_one rvs
        obtain ⟨b, us, rfl, h4, h5⟩ := trkL_rel s ru e2
        exact ⟨a, b, ws, us, rfl, rfl, h2, h4, by rw [← h3.length, ← h5.length, szL_eq]; exact hz, p _ _ (Le.put h1) (s.put h1 (h3.append h5)) _ rel_non⟩
      · exact p.elim
    · exact p.elim
  · exact p.elim
theorem de_meth {o e : Expr} {es : List Expr} {name : Str} {apos cpos : Pos} {id : String} {r : V → List V → Hp → VK → Prop} {m : Val → List Val → Sto → Out Val} {f : DEf} {As : DAf} (hK : X.K = W.K)
    (slot : Slot "list" name id) (hty : typeOf (.builtin id) = pure (.type "method_descriptor")) (hm : MtM X id r) (hd : DMt W E r m) (ho : DE W E X o f) (ha : DA W E X (e :: es) As)
    (hbase : attributeBase o name X.env (eval o X.env) = eval o X.env := by rfl)
    (hfew : ((backTo cpos (starEach (e :: es) X.env)).all (fun x => !x.1) && (backToKw cpos (keywordEach [] X.env)).all (fun x => x.1.isSome)
      && decide ((e :: es).length + ([] : List Keyword).length + (if ([] : List Keyword).isEmpty then 0 else 1) < 30)) = true := by rfl)
    (hline : (apos.endLine == cpos.line) = true := by rfl) (hs : starEach (e :: es) X.env = (false, eval e X.env) :: starEach es X.env := by rfl) (hplain : (backTo cpos (starEach es X.env)).any (·.1) = false := by rfl) :
    DE W E X (.Call (.Attribute o name apos) (e :: es) [] cpos) (dMeth m f As) :=
  (pe_bm PySem.F.plainAttrs_list slot hty hm ho ha hbase hfew hline hs hplain).imp fun σ H Q ⟨env, S, μ, hE, hS, hp⟩ =>
    ⟨env, S, μ, hE, hS, hp.bind.imp fun x S1 H1 μ1 l1 s1 p1 v rv => by
      split at p1
      · rename_i ds e0
        obtain ⟨a, vs, rfl, q, r⟩ := seqL_rel s1 rv e0
        refine ⟨.inl ⟨rfl, vs, hK ▸ q⟩, env, S1, μ1, hE.mono l1 hS.is, s1, p1.bind.imp fun xs S2 H2 μ2 l2 s2 p2 ws rws => ?_⟩
        exact hd x xs S2 H2 μ2 _ ws Q s2 (rv.mono l2 s1.is) rws p2
      · exact p1.elim⟩

/-! ### statements -/
inductive Fl where
  | nx (env : Env) | ret (x : Val) | brk (env : Env) | cnt (env : Env)
abbrev DSf := Env → Sto → Out Fl
def QS (W : Wd) (D : Ends) : Fl → Sto → Hp → Mu → Prop := fun fl _ H μ => match fl with
  | .nx env => ∀ σ, RelE W H μ env σ → D.nx σ H
  | .ret x => ∀ v, RelV' W H μ x v → D.rt v H
  | .brk env => ∀ σ, RelE W H μ env σ → D.bk σ H
  | .cnt env => ∀ σ, RelE W H μ env σ → D.ct σ H
def tS (W : Wd) (E : XK) (f : DSf) : TS := fun D σ H => ∃ env S μ, RelE W H μ env σ ∧ RelS W H μ S ∧ Post W E H μ (f env S) (QS W D)
abbrev DS (W : Wd) (E : XK) (X : Cx) (st : Stmt) (f : DSf) : Prop := PS X st (tS W E f)
abbrev DSs (W : Wd) (E : XK) (X : Cx) (st : List Stmt) (f : DSf) : Prop := PSs X st (tS W E f)
def dNext : DSf := fun env S => .ok (.nx env) S
def dSeq (f g : DSf) : DSf := fun env S => (f env S).bind fun fl S1 => match fl with
  | .nx env1 => g env1 S1
  | fl => .ok fl S1
variable {st : Stmt} {rest : List Stmt} {f g : DSf}
theorem dss_nil : DSs W E X [] dNext := pss_nil.imp fun D σ H ⟨env, S, μ, hE, hS, hp⟩ => hp.at_ hS σ hE
theorem dss_cons (h1 : DS W E X st f) (h2 : DSs W E X rest g) : DSs W E X (st :: rest) (dSeq f g) := (pss_cons h1 h2).imp fun D σ H ⟨env, S, μ, hE, hS, hp⟩ => by
  refine ⟨env, S, μ, hE, hS, hp.bind.imp fun fl S1 H1 μ1 l1 s1 p1 => ?_⟩
  cases fl with
  | nx env1 => exact fun σ1 hE1 => ⟨env1, S1, μ1, hE1, s1, p1⟩
  | ret x => exact p1.at_ s1
  | brk env1 => exact p1.at_ s1
  | cnt env1 => exact p1.at_ s1
theorem dss_one (h1 : DS W E X st f) : DSs W E X [st] f := pss_one h1
def dBadS : DSf := fun _ _ => .bad
theorem ds_bad : DS W E X st dBadS := ⟨fun _ _ _ _ _ _ ⟨_, _, _, _, _, h⟩ => h.elim⟩
theorem dss_bad {sts : List Stmt} : DSs W E X sts dBadS := ⟨fun _ _ _ _ _ _ ⟨_, _, _, _, _, h⟩ => h.elim⟩
theorem ds_pass : DS W E X (.Pass pos) dNext := ps_pass.imp fun D σ H ⟨env, S, μ, hE, hS, hp⟩ => hp.at_ hS σ hE
def dBrk : DSf := fun env S => .ok (.brk env) S
def dCnt : DSf := fun env S => .ok (.cnt env) S
theorem ds_break : DS W E X (.Break pos) dBrk := ps_break.imp fun D σ H ⟨env, S, μ, hE, hS, hp⟩ => hp.at_ hS σ hE
theorem ds_continue : DS W E X (.Continue pos) dCnt := ps_continue.imp fun D σ H ⟨env, S, μ, hE, hS, hp⟩ => hp.at_ hS σ hE
def dRet (F : DEf) : DSf := fun env S => (F env S).bind fun x S1 => .ok (.ret x) S1
theorem ds_ret {e : Expr} {F : DEf} (he : DE W E X e F) : DS W E X (.Return (some e) pos) (dRet F) := (ps_ret he).imp fun D σ H ⟨env, S, μ, hE, hS, hp⟩ =>
  ⟨env, S, μ, hE, hS, hp.bind.imp fun x S1 H1 μ1 l1 s1 p1 => p1.at_ s1⟩
def dRetN : DSf := fun _ S => .ok (.ret (.d .non)) S
theorem ds_retN : DS W E X (.Return none pos) dRetN := ps_retN.imp fun D σ H ⟨env, S, μ, hE, hS, hp⟩ => hp.at_ hS _ rel_non
def dDrop (F : DEf) : DSf := fun env S => (F env S).bind fun _ S1 => .ok (.nx env) S1
theorem ds_expr {e : Expr} {F : DEf} (he : DE W E X e F) (hs : swapsWith e none pos.line X.env = pure false := by rfl) : DS W E X (.Expr e pos) (dDrop F) := (ps_expr he hs).imp fun D σ H ⟨env, S, μ, hE, hS, hp⟩ =>
  ⟨env, S, μ, hE, hS, hp.bind.imp fun x S1 H1 μ1 l1 s1 p1 v rv => p1.at_ s1 σ (hE.mono l1 hS.is)⟩
def dIfS (c : DTf) (f g : DSf) : DSf := fun env S => (c env S).bind fun b S1 => if b = true then f env S1 else g env S1
theorem ds_if {c : Expr} {a b : List Stmt} {F : DTf} (hc : DT W E X c F) (ha : DSs W E X a f) (hb : DSs W E X b g) : DS W E X (.If c a b pos) (dIfS F f g) := (ps_if hc ha hb).imp fun D σ H ⟨env, S, μ, hE, hS, hp⟩ => by
  refine ⟨env, S, μ, hE, hS, hp.bind.imp fun c S1 H1 μ1 l1 s1 p1 => ?_⟩
  show if c = true then _ else _
  cases c with
  | true => rw [if_pos rfl] at p1 ⊢; exact ⟨env, S1, μ1, hE.mono l1 hS.is, s1, p1⟩
  | false => rw [if_neg Bool.false_ne_true] at p1 ⊢; exact ⟨env, S1, μ1, hE.mono l1 hS.is, s1, p1⟩
def dAsg (F : DEf) (g : DGf) : DSf := fun env S => (F env S).bind fun x S1 => (g x env S1).bind fun env1 S2 => .ok (.nx env1) S2
theorem tS_asg {F : DEf} {g : DGf} (D : Ends) (σ : L2.St) (H : Hp) (h : tS W E (dAsg F g) D σ H) : tAsg (tE W E F) (tG W E g) D σ H := by
  obtain ⟨env, S, μ, hE, hS, hp⟩ := h
  refine ⟨env, S, μ, hE, hS, hp.bind.imp fun x S1 H1 μ1 l1 s1 p1 v rv => ?_⟩
  exact ⟨x, env, S1, μ1, rv, hE.mono l1 hS.is, s1, p1.bind.imp fun env1 S2 H2 μ2 l2 s2 p2 => p2.at_ s2⟩
theorem ds_asg {tg e : Expr} {F : DEf} {g : DGf} (he : DE W E X e F) (hg : DG W E X tg g) (hs : swapsWithSole [tg] e pos.line X.env = pure false := by rfl) (hw : swappedStores [tg] e X.env = pure none := by rfl)
    (h1 : (assignEach [tg] X.env).map (·.2) = [assign tg X.env] := by rfl) : DS W E X (.Assign [tg] e pos) (dAsg F g) := (ps_asg he hg hs hw h1).imp tS_asg
theorem ds_set {i : Nat} {x : Str} {e : Expr} {F : DEf} {pos' : Pos} (hN : X.N.Nodup) (hi : X.N[i]? = some x) (hx : Loc X.env.scope x) (he : DE W E X e F) (hs : swapsWith e (some (.Name x pos')) pos.line X.env = pure false := by rfl) (hf : X.fn x = true ∨ X.env.scope.names.lookup x = some .local) :
    DS W E X (.Assign [.Name x pos'] e pos) (dAsg F (dgName i)) := (ps_set hN hi hx he hs hf).imp fun D σ H ⟨env, S, μ, hE, hS, hp⟩ =>
  ⟨env, S, μ, hE, hS, hp.bind.imp fun x S1 H1 μ1 l1 s1 p1 v rv => (p1.bind.at_ s1).at_ s1 _ ((hE.mono l1 hS.is).set rv)⟩
/-- a, b = x, y -/
def dPar (i j : Nat) (As : DAf) : DSf := fun env S => (As env S).bind fun xs S1 => match xs with
  | [x, y] => .ok (.nx ((env.set i (some x)).set j (some y))) S1
  | _ => .bad
theorem ds_par {i j : Nat} {x y : Str} {a b : Expr} {As : DAf} {px py pt : Pos} {kt k2 pt2} (hc : X.calm = true) (hN : X.N.Nodup) (hi : X.N[i]? = some x) (hj : X.N[j]? = some y) (hij : i ≠ j)
    (hx : X.env.scope.names.lookup x = some .local) (hy : X.env.scope.names.lookup y = some .local) (ha : DA W E X [a, b] As)
    (hw : swappedStores [.Tuple [.Name x px, .Name y py] kt pt] (.Tuple [a, b] k2 pt2) X.env = pure (some [x, y]))
    (hs : swapsWithSole [.Tuple [.Name x px, .Name y py] kt pt] (.Tuple [a, b] k2 pt2) pos.line X.env = pure false := by rfl) :
    DS W E X (.Assign [.Tuple [.Name x px, .Name y py] kt pt] (.Tuple [a, b] k2 pt2) pos) (dPar i j As) := (ps_par hc hN hi hj hij hx hy ha hw hs).imp fun D σ H ⟨env, S, μ, hE, hS, hp⟩ =>
  ⟨env, S, μ, hE, hS, hp.bind.imp fun xs S1 H1 μ1 l1 s1 p1 vs rvs => by
    split at p1
    · obtain ⟨v, w, rfl, rv, rw'⟩ := rel_two rvs
      exact ⟨v, w, rfl, p1.at_ s1 _ (((hE.mono l1 hS.is).set rv).set rw')⟩
    · exact p1.elim⟩
def dPar3 (i j l : Nat) (As : DAf) : DSf := fun env S => (As env S).bind fun xs S1 => match xs with
  | [x, y, z] => .ok (.nx (((env.set i (some x)).set j (some y)).set l (some z))) S1
  | _ => .bad
theorem ds_par3 {i j l : Nat} {x y z : Str} {a b c : Expr} {As : DAf} {px py pz pt pos : Pos} {kt k2 pt2} (hc : X.calm = true) (hN : X.N.Nodup) (hi : X.N[i]? = some x) (hj : X.N[j]? = some y) (hl : X.N[l]? = some z) (hij : i ≠ j) (hil : i ≠ l) (hjl : j ≠ l)
    (hx : X.env.scope.names.lookup x = some .local) (hy : X.env.scope.names.lookup y = some .local) (hz : X.env.scope.names.lookup z = some .local) (ha : DA W E X [a, b, c] As)
    (hw : swappedStores [.Tuple [.Name x px, .Name y py, .Name z pz] kt pt] (.Tuple [a, b, c] k2 pt2) X.env = pure (some [x, y, z]))
    (hs : swapsWithSole [.Tuple [.Name x px, .Name y py, .Name z pz] kt pt] (.Tuple [a, b, c] k2 pt2) pos.line X.env = pure false := by rfl) :
    DS W E X (.Assign [.Tuple [.Name x px, .Name y py, .Name z pz] kt pt] (.Tuple [a, b, c] k2 pt2) pos) (dPar3 i j l As) := (ps_par3 hc hN hi hj hl hij hil hjl hx hy hz ha hw hs).imp fun D σ H ⟨env, S, μ, hE, hS, hp⟩ =>
  ⟨env, S, μ, hE, hS, hp.bind.imp fun xs S1 H1 μ1 l1 s1 p1 vs rvs => by
    split at p1
    · simp only [RelVs] at rvs
      obtain ⟨v, r, rfl, rv, w, r', rfl, rw', u, r'', rfl, ru, rfl⟩ := rvs
      exact ⟨v, w, u, rfl, p1.at_ s1 _ ((((hE.mono l1 hS.is).set rv).set rw').set ru)⟩
    · exact p1.elim⟩
end

/-! ### what is walked -/
/-- the items; the places that must stay as they are meanwhile -/
structure Itm where
  ds : List D
  wt : List (Nat × List D)
def wtOk (wt : List (Nat × List D)) (S : Sto) : Prop := ∀ p ∈ wt, S[p.1]? = some (.lst p.2)
structure ItOk (W : Wd) (J : It) (it : Itm) (H : Hp) (μ : Mu) : Prop where
  go : ∀ i H' μ' S', Le H μ H' μ' → RelS W H' μ' S' → wtOk it.wt S' → i < it.ds.length → J.go i H'
  stop : ∀ H' μ' S', Le H μ H' μ' → RelS W H' μ' S' → wtOk it.wt S' → J.stop it.ds.length H'
  yld : ∀ i H' μ' S' x H2, Le H μ H' μ' → RelS W H' μ' S' → wtOk it.wt S' → i < it.ds.length → J.yld i H' x H2 → ∃ d, it.ds[i]? = some d ∧ RelD W H2 μ' d x ∧ Le H' μ' H2 μ' ∧ RelS W H2 μ' S'
abbrev DIf := Env → Sto → Out Itm
def tI (W : Wd) (E : XK) (f : DIf) : TI := fun σ H R => ∃ env S μ, RelE W H μ env σ ∧ RelS W H μ S ∧ Post W E H μ (f env S) fun it _ H' μ' => ∀ J, ItOk W J it H' μ' → R J H'
abbrev DI (W : Wd) (E : XK) (X : Cx) (tg iter : Expr) (f : DIf) : Prop := PI X tg iter (tI W E f)
theorem _root_.L2.PI.imp {X : Cx} {tg e : Expr} {t t' : TI} (h : PI X tg e t) (hi : ∀ σ H Q, t' σ H Q → t σ H Q) : PI X tg e t' := ⟨fun pins s σ H Q I q => h.run pins s σ H Q I (hi σ H Q q)⟩
open Classical in
/-- the loop over what is left -/
noncomputable def dLoop (g : DGf) (body : DSf) (wt : List (Nat × List D)) : List D → Env → Sto → Out Fl
  | [], env, S => if wtOk wt S then .ok (.nx env) S else .bad
  | d :: ds, env, S => if wtOk wt S then (g (.d d) env S).bind fun env1 S1 => (body env1 S1).bind fun fl S2 => match fl with
      | .nx e => dLoop g body wt ds e S2
      | .cnt e => dLoop g body wt ds e S2
      | .brk e => .ok (.nx e) S2
      | .ret x => .ok (.ret x) S2
    else .bad
noncomputable def dFor (it : DIf) (g : DGf) (body : DSf) : DSf := fun env S => (it env S).bind fun i S1 => dLoop g body i.wt i.ds env S1
section
variable {W : Wd} {E : XK} {X : Cx} {pos : Pos}
theorem ds_for {tg iter : Expr} {body : List Stmt} {it : DIf} {g : DGf} {f : DSf} (hp : PassesOwn (model X.prog X.w) X.A X.env X.xe) (hc : X.calm = true) (hi : DI W E X tg iter it) (hg : DG W E X tg g) (hb : DSs W E X body f)
    (hs : ∀ x, foldedSetIterable iter X.env x = pure x := by intro _; rfl) : DS W E X (.For tg iter body [] pos) (dFor it g f) :=
  (ps_for hp hc hi hg hb hs).imp fun D σ H ⟨env, S, μ, hE, hS, hp⟩ => by
    refine ⟨env, S, μ, hE, hS, hp.bind.imp fun i S1 H1 μ1 l1 s1 p1 => ?_⟩
    have hE1 := hE.mono l1 hS.is
    intro J hJ
    refine ⟨fun t m σ' H' => m = i.ds.length - t ∧ t ≤ i.ds.length ∧ ∃ env' S' μ', Le H1 μ1 H' μ' ∧ RelE W H' μ' env' σ' ∧ RelS W H' μ' S' ∧ Post W E H' μ' (dLoop g f i.wt (i.ds.drop t) env' S') (QS W D),
      ⟨_, rfl, Nat.zero_le _, env, S1, μ1, .refl, hE1, s1, by simpa using p1⟩, ?_⟩
    rintro t m σ' H' ⟨rfl, ht, env', S', μ', l', hE', hS', hp'⟩
    by_cases hlt : t < i.ds.length
    · have hd : i.ds.drop t = i.ds[t] :: i.ds.drop (t + 1) := List.drop_eq_getElem_cons hlt
      rw [hd] at hp'
      unfold dLoop at hp'
      split at hp'
      case isFalse => exact hp'.elim
      rename_i hw'
      refine .inr ⟨hJ.go t H' μ' S' l' hS' hw' hlt, fun σ2 H2 => ∃ env2 S2 μ2, Le H1 μ1 H2 μ2 ∧ RelE W H2 μ2 env2 σ2 ∧ RelS W H2 μ2 S2 ∧ Post W E H2 μ2 (dLoop g f i.wt (i.ds.drop (t + 1)) env2 S2) (QS W D),
        fun σ2 H2 ⟨env2, S2, μ2, h1, h2, h3, h4⟩ => ⟨_, by omega, rfl, hlt, env2, S2, μ2, h1, h2, h3, h4⟩, fun x H2 y => ?_⟩
      obtain ⟨d, e1, r, l2, s2⟩ := hJ.yld t H' μ' S' x H2 l' hS' hw' hlt y
      rw [List.getElem?_eq_getElem hlt] at e1
      cases e1
      refine ⟨.d i.ds[t], env', S', μ', r, hE'.mono l2 hS'.is, s2, (hp'.le l2).bind.imp fun env3 S3 H3 μ3 l3 s3 p3 σ3 hE3 => ?_⟩
      refine ⟨env3, S3, μ3, hE3, s3, p3.bind.imp fun fl S4 H4 μ4 l4 s4 p4 => ?_⟩
      have lA := ((l'.trans l2).trans l3).trans l4
      cases fl with
      | nx e => exact fun σ4 hE4 => ⟨e, S4, μ4, lA, hE4, s4, p4⟩
      | cnt e => exact fun σ4 hE4 => ⟨e, S4, μ4, lA, hE4, s4, p4⟩
      | brk e => exact p4.at_ s4
      | ret x => exact p4.at_ s4
    · have e : t = i.ds.length := by omega
      subst e
      rw [List.drop_length] at hp'
      unfold dLoop at hp'
      split at hp'
      case isFalse => exact hp'.elim
      rename_i hw'
      exact .inl ⟨hJ.stop H' μ' S' l' hS' hw', hp'.at_ hS' σ' hE'⟩

/-! ### while -/
def dWhileN (c : DTf) (body : DSf) : Nat → Env → Sto → Out Fl
  | 0, _, _ => .bad
  | n + 1, env, S => (c env S).bind fun b S1 => if b = true then (body env S1).bind fun fl S2 => match fl with
      | .nx e => dWhileN c body n e S2
      | .cnt e => dWhileN c body n e S2
      | .brk e => .ok (.nx e) S2
      | .ret x => .ok (.ret x) S2
    else .ok (.nx env) S1
end
open Classical in
noncomputable def dWhile (c : DTf) (body : DSf) : DSf := fun env S => if h : ∃ n, dWhileN c body n env S ≠ .bad then dWhileN c body (Classical.choose h) env S else .bad
theorem Out.bind_ne {α β : Type} {r : Out α} {k : α → Sto → Out β} (h : r.bind k ≠ .bad) : r ≠ .bad := fun e => h (by rw [e]; rfl)
theorem dWhileN_mono {c : DTf} {body : DSf} : ∀ {n m : Nat} {env : Env} {S : Sto}, n ≤ m → dWhileN c body n env S ≠ .bad → dWhileN c body m env S = dWhileN c body n env S
  | 0, m, env, S, _, h => (h rfl).elim
  | n + 1, 0, env, S, h, _ => absurd h (by omega)
  | n + 1, m + 1, env, S, hm, h => by
    unfold dWhileN at h ⊢
    cases e1 : c env S with
    | exc x S1 => rfl
    | bad => rfl
    | ok b S1 =>
      rw [e1] at h
      simp only [Out.bind_ok] at h ⊢
      cases b with
      | false => rfl
      | true =>
        simp only [if_true] at h ⊢
        cases e2 : body env S1 with
        | exc x S1 => rfl
        | bad => rfl
        | ok fl S2 =>
          rw [e2] at h
          simp only [Out.bind_ok] at h ⊢
          cases fl with
          | nx e => exact dWhileN_mono (by omega) h
          | cnt e => exact dWhileN_mono (by omega) h
          | brk e => rfl
          | ret x => rfl
theorem dWhile_of {c : DTf} {body : DSf} {n : Nat} {env : Env} {S : Sto} (h : dWhileN c body n env S ≠ .bad) : dWhile c body env S = dWhileN c body n env S := by
  have hx : ∃ n, dWhileN c body n env S ≠ .bad := ⟨n, h⟩
  have h2 := Classical.choose_spec hx
  unfold dWhile
  rw [dif_pos hx]
  rcases Nat.le_total n (Classical.choose hx) with k | k
  · exact dWhileN_mono k h
  · exact (dWhileN_mono k h2).symm
theorem Post.ne {α : Type} {W : Wd} {E : XK} {H : Hp} {μ : Mu} {r : Out α} {K : α → Sto → Hp → Mu → Prop} (h : Post W E H μ r K) : r ≠ .bad := fun e => by rw [e] at h; exact h
section
variable {W : Wd} {E : XK} {X : Cx} {pos : Pos}
theorem ds_while {c : Expr} {body : List Stmt} {F : DTf} {f : DSf} (hp : PassesOwn (model X.prog X.w) X.A X.env X.xe) (hc : DT W E X c F) (hb : DSs W E X body f) : DS W E X (.While c body [] pos) (dWhile F f) :=
  (ps_while hp hc hb).imp fun D σ H ⟨env, S, μ, hE, hS, hp⟩ => by
    have hn : ∃ n, dWhile F f env S = dWhileN F f n env S := by
      have := hp.ne
      unfold dWhile at this ⊢
      split at this
      · rename_i hx
        exact ⟨_, by rw [dif_pos hx]⟩
      · exact (this rfl).elim
    obtain ⟨n, en⟩ := hn
    rw [en] at hp
    refine ⟨fun m σ' H' => ∃ env' S' μ', RelE W H' μ' env' σ' ∧ RelS W H' μ' S' ∧ Post W E H' μ' (dWhileN F f m env' S') (QS W D), ⟨n, env, S, μ, hE, hS, hp⟩, ?_⟩
    rintro m σ' H' ⟨env', S', μ', hE', hS', hp'⟩
    cases m with
    | zero => exact hp'.elim
    | succ m =>
      unfold dWhileN at hp'
      refine ⟨env', S', μ', hE', hS', hp'.bind.imp fun b S1 H1 μ1 l1 s1 p1 => ?_⟩
      show if b = true then _ else _
      have hE1 := hE'.mono l1 hS'.is
      cases b with
      | false =>
        rw [if_neg Bool.false_ne_true] at p1 ⊢
        exact p1.at_ s1 σ' hE1
      | true =>
        rw [if_pos rfl] at p1 ⊢
        refine ⟨fun σ2 H2 => ∃ env2 S2 μ2, RelE W H2 μ2 env2 σ2 ∧ RelS W H2 μ2 S2 ∧ Post W E H2 μ2 (dWhileN F f m env2 S2) (QS W D), fun σ2 H2 h => ⟨m, Nat.lt_succ_self _, h⟩, ?_⟩
        refine ⟨env', S1, μ1, hE1, s1, p1.bind.imp fun fl S2 H2 μ2 l2 s2 p2 => ?_⟩
        cases fl with
        | nx e => exact fun σ2 hE2 => ⟨e, S2, μ2, hE2, s2, p2⟩
        | cnt e => exact fun σ2 hE2 => ⟨e, S2, μ2, hE2, s2, p2⟩
        | brk e => exact p2.at_ s2
        | ret x => exact p2.at_ s2
end
end Dn
set_option Elab.async false
set_option linter.all false
set_option maxRecDepth 100000
set_option maxHeartbeats 4000000
/-! ### iterables, comprehensions, all(..) -/
namespace Dn
open PySem PySem.Spec PyProof.Rows L2 GxR Gx

/-! ### what is walked -/
section
variable {W : Wd} {E : XK} {X : Cx} {H : Hp} {μ : Mu} {S : Sto} {tg : Expr} {pos : Pos}
/-- a list or a tuple -/
theorem pi_seq {l : Expr} {tl : TE} (hl : PE X l tl) : PI X tg l fun σ H R => tl σ H fun x H1 => ∃ a, x = .ref a ∧ (((∃ xs, SqL X.K H1 a xs) ∧ R (Itl X.K a) H1) ∨ ((∃ xs, SqT X.K H1 a xs) ∧ R (Itt X.K a) H1)) := by
  refine ⟨fun pins s σ H R I h => thn (hl.run pins s σ H _ I h) fun v s1 ⟨x, H1, I1, r1, a, ex, q1⟩ => ?_⟩
  subst ex
  cases r1
  have new : ∀ b, b ∈ [s1.heap.objs.size] → FpOk X pins H1 b := fun b hb => by
    rw [List.mem_singleton.mp hb]
    exact I1.fpOk (Nat.le_refl _) (I1.hok.fresh (Nat.le_refl _))
  rcases q1 with ⟨⟨xs, hq⟩, q⟩ | ⟨⟨xs, hq⟩, q⟩
  · obtain ⟨its, rv, p, _⟩ := I1.list hq
    exact wpAny_pyIter_list p.isList ⟨_, [s1.heap.objs.size], _, _, H1, rfl, I1.kept (t' := s1.toks) fun b o e => Heap.get?_push_of_some _ e, turn_list a _, ⟨_, Heap.get?_push_size _ rfl, rfl, rfl⟩, new, q⟩
  · obtain ⟨its, rv, p, _⟩ := I1.tuple hq
    exact wpAny_pyIter_tuple (show s1.heap.IsTuple a its.toArray from p) ⟨_, [s1.heap.objs.size], _, _, H1, rfl, I1.kept (t' := s1.toks) fun b o e => Heap.get?_push_of_some _ e, turn_tuple a _, ⟨_, Heap.get?_push_size _ rfl, rfl, rfl⟩, new, q⟩
/-- a list that is watched stays -/
def wtV (x : Val) (S : Sto) : List (Nat × List D) := match x with
  | .r n => (match S[n]? with | some (.lst ds) => [(n, ds)] | _ => [])
  | _ => []
theorem stays {x : Val} {ds : List D} {v : V} (s : RelS W H μ S) (h : RelV' W H μ x v) (e : seqL x S = some ds) : ∃ a, v = .ref a ∧ ∀ H' μ' S', Le H μ H' μ' → RelS W H' μ' S' → wtOk (wtV x S) S' → ∃ vs, SqL W.K H' a vs ∧ RelDs W H' μ' ds vs := by
  unfold seqL at e
  split at e
  · cases e
    simp only [RelV', RelD] at h
    obtain ⟨a, vs, e1, q, r⟩ := h
    exact ⟨a, e1, fun H' μ' S' l s' _ => ⟨vs, (l.frL q).sq, RelDs.mono l s.is ds vs r⟩⟩
  · cases e
    simp only [RelV', RelD] at h
    obtain ⟨a, vs, e1, q, r⟩ := h
    exact ⟨a, e1, fun H' μ' S' l s' _ => ⟨vs, (l.coL s.is q).sq, RelDs.mono l s.is ds vs r⟩⟩
  · rename_i n
    split at e
    · rename_i e1
      cases e
      obtain ⟨a, vs, h1, h0, h2, h3⟩ := cell_rel s h e1
      refine ⟨a, h1, fun H' μ' S' l s' w => ?_⟩
      have e2 : S'[n]? = some (.lst ds) := w (n, ds) (by simp [wtV, e1])
      have hn : n < μ'.length := by rw [← s'.len]; exact (List.getElem?_eq_some_iff.mp e2).1
      obtain ⟨b, us, e3, e4, r⟩ := s'.cell n _ _ e2 (List.getElem?_eq_getElem hn)
      rcases l.at_ n _ h0 with q | q
      · rw [List.getElem?_eq_getElem hn, e3] at q
        cases q
        exact ⟨us, .inl (.inl e4), r⟩
      · rw [List.getElem?_eq_getElem hn, e3] at q
        cases q
    · cases e
  · cases e
theorem staysT {x : Val} {ds : List D} {v : V} (s : RelS W H μ S) (h : RelV' W H μ x v) (e : seqT x = some ds) : ∃ a, v = .ref a ∧ ∀ H' μ', Le H μ H' μ' → ∃ vs, SqT W.K H' a vs ∧ RelDs W H' μ' ds vs := by
  obtain ⟨a, vs, e1, q, r⟩ := seqT_rel h e
  exact ⟨a, e1, fun H' μ' l => ⟨vs, l.sqT s.is q, RelDs.mono l s.is ds vs r⟩⟩
theorem itl_ok {x : Val} {ds : List D} {a : Addr} (h : ∀ H' μ' S', Le H μ H' μ' → RelS W H' μ' S' → wtOk (wtV x S) S' → ∃ vs, SqL W.K H' a vs ∧ RelDs W H' μ' ds vs) : ItOk W (Itl W.K a) ⟨ds, wtV x S⟩ H μ where
  go := fun i H' μ' S' l s w hi => by
    obtain ⟨vs, q, r⟩ := h H' μ' S' l s w
    obtain ⟨v, e, _⟩ := r.get (List.getElem?_eq_getElem hi)
    exact ⟨vs, v, q, e⟩
  stop := fun H' μ' S' l s w => by
    obtain ⟨vs, q, r⟩ := h H' μ' S' l s w
    exact ⟨vs, q, Nat.le_of_eq r.length.symm⟩
  yld := fun i H' μ' S' x H2 l s w hi y => by
    obtain ⟨vs, q, r⟩ := h H' μ' S' l s w
    obtain ⟨v, e, rv⟩ := r.get (List.getElem?_eq_getElem hi)
    obtain ⟨rfl, y⟩ := y
    have := y vs q
    rw [e] at this; cases this
    exact ⟨_, List.getElem?_eq_getElem hi, rv, .refl, s⟩
theorem itt_ok {ds : List D} {a : Addr} (h : ∀ H' μ', Le H μ H' μ' → ∃ vs, SqT W.K H' a vs ∧ RelDs W H' μ' ds vs) : ItOk W (Itt W.K a) ⟨ds, []⟩ H μ where
  go := fun i H' μ' S' l s w hi => by
    obtain ⟨vs, q, r⟩ := h H' μ' l
    obtain ⟨v, e, _⟩ := r.get (List.getElem?_eq_getElem hi)
    exact ⟨vs, v, q, e⟩
  stop := fun H' μ' S' l s w => by
    obtain ⟨vs, q, r⟩ := h H' μ' l
    exact ⟨vs, q, Nat.le_of_eq r.length.symm⟩
  yld := fun i H' μ' S' x H2 l s w hi y => by
    obtain ⟨vs, q, r⟩ := h H' μ' l
    obtain ⟨v, e, rv⟩ := r.get (List.getElem?_eq_getElem hi)
    obtain ⟨rfl, y⟩ := y
    have := y vs q
    rw [e] at this; cases this
    exact ⟨_, List.getElem?_eq_getElem hi, rv, .refl, s⟩
def iSeq (x : Val) (S : Sto) : Out Itm := match x with
  | .d (.tup ds) => .ok ⟨ds, []⟩ S
  | _ => match seqL x S with
    | some ds => .ok ⟨ds, wtV x S⟩ S
    | none => .bad
def diSeq (f : DEf) : DIf := fun env S => (f env S).bind fun x S1 => iSeq x S1
theorem wtV_ok {x : Val} {S : Sto} : wtOk (wtV x S) S := by
  intro p hp
  unfold wtV at hp
  split at hp
  · split at hp
    · rename_i ds e
      rw [List.mem_singleton.mp hp]; exact e
    · cases hp
  · cases hp
theorem wtOk_nil (S : Sto) : wtOk [] S := fun _ h => by cases h
theorem di_seq {l : Expr} {f : DEf} (hK : X.K = W.K) (hl : DE W E X l f) : DI W E X tg l (diSeq f) := (pi_seq hl).imp fun σ H R ⟨env, S, μ, hE, hS, hp⟩ =>
  ⟨env, S, μ, hE, hS, hp.bind.imp fun x S1 H1 μ1 l1 s1 p1 v rv => by
    unfold iSeq at p1
    rw [hK]
    split at p1
    · rename_i ds
      obtain ⟨a, rfl, h⟩ := staysT s1 rv rfl
      obtain ⟨vs, q, _⟩ := h H1 μ1 .refl
      exact ⟨a, rfl, .inr ⟨⟨vs, q⟩, p1.at_ s1 _ (itt_ok h)⟩⟩
    · split at p1
      · rename_i ds e
        obtain ⟨a, rfl, h⟩ := stays s1 rv e
        obtain ⟨vs, q, _⟩ := h H1 μ1 S1 .refl s1 wtV_ok
        exact ⟨a, rfl, .inl ⟨⟨vs, q⟩, p1.at_ s1 _ (itl_ok h)⟩⟩
      · exact p1.elim⟩
/-- lo, lo + 1, .. -/
def rngD (lo : Int) (n : Nat) : List D := (List.range n).map fun i : Nat => D.int (lo + i)
theorem itr_ok {lo : Int} {n : Nat} : ItOk W (Itr lo n) ⟨rngD lo n, []⟩ H μ where
  go := fun i H' μ' S' l s w hi => by simpa [rngD, Itr] using hi
  stop := fun H' μ' S' l s w => by simp [rngD, Itr]
  yld := fun i H' μ' S' x H2 l s w hi y => by
    obtain ⟨rfl, rfl⟩ := y
    have hi' : i < n := by simpa [rngD] using hi
    refine ⟨.int (lo + i), ?_, by simp [RelD], .refl, s⟩
    simp [rngD, List.getElem?_map, List.getElem?_range hi']
def smallI (i : Int) : Bool := decide (-(2 ^ 62) ≤ i) && decide (i < 2 ^ 62)
def iRng1 (xs : List Val) (S : Sto) : Out Itm := match xs with
  | [.d (.int j)] => if smallI j = true then .ok ⟨rngD 0 j.toNat, []⟩ S else .bad
  | _ => .bad
def iRng2 (xs : List Val) (S : Sto) : Out Itm := match xs with
  | [.d (.int i), .d (.int j)] => if smallI i = true ∧ smallI j = true then .ok ⟨rngD i (j - i).toNat, []⟩ S else .bad
  | _ => .bad
def diRng1 (As : DAf) : DIf := fun env S => (As env S).bind fun xs S1 => iRng1 xs S1
def diRng2 (As : DAf) : DIf := fun env S => (As env S).bind fun xs S1 => iRng2 xs S1
theorem smallI_iff {i : Int} : smallI i = true ↔ -(2 ^ 62) ≤ i ∧ i < 2 ^ 62 := by simp [smallI]
theorem di_rng1 {a : Expr} {As : DAf} {p : Pos} (hg : Gl X "range") (hm : X.mg "range" = none) (ha : DA W E X [a] As) (hs : starEach [a] X.env = [(false, eval a X.env)] := by rfl) : DI W E X tg (.Call (.Name "range" p) [a] [] pos) (diRng1 As) :=
  (pi_range1 hg hm ha hs).imp fun σ H R ⟨env, S, μ, hE, hS, hp⟩ => ⟨env, S, μ, hE, hS, hp.bind.imp fun xs S1 H1 μ1 l1 s1 p1 vs rvs => by
    unfold iRng1 at p1
    split at p1
    · rename_i j
      split at p1
      · rename_i c
        obtain ⟨v, rfl, rv⟩ := rel_one rvs
        rw [smallI_iff] at c
        exact ⟨j, by rw [int_rel rv], c.1, c.2, p1.at_ s1 _ itr_ok⟩
      · exact p1.elim
    · exact p1.elim⟩
theorem di_rng2 {a b : Expr} {As : DAf} {p : Pos} (hg : Gl X "range") (hm : X.mg "range" = none) (ha : DA W E X [a, b] As) (hs : starEach [a, b] X.env = [(false, eval a X.env), (false, eval b X.env)] := by rfl) (hs2 : starEach [b] X.env = [(false, eval b X.env)] := by rfl) : DI W E X tg (.Call (.Name "range" p) [a, b] [] pos) (diRng2 As) :=
  (pi_range2 hg hm ha hs hs2).imp fun σ H R ⟨env, S, μ, hE, hS, hp⟩ => ⟨env, S, μ, hE, hS, hp.bind.imp fun xs S1 H1 μ1 l1 s1 p1 vs rvs => by
    unfold iRng2 at p1
    split at p1
    · rename_i i j
      split at p1
      · rename_i c
        obtain ⟨v, w, rfl, rv, rw'⟩ := rel_two rvs
        rw [smallI_iff, smallI_iff] at c
        exact ⟨i, j, by rw [int_rel rv, int_rel rw'], ⟨c.1.1, c.1.2, c.2.1, c.2.2⟩, p1.at_ s1 _ itr_ok⟩
      · exact p1.elim
    · exact p1.elim⟩
/-! zip -/
theorem pairs_ok {J : It} {ds es : List D} {n : Nat} {wt : List (Nat × List D)} (hn : n = min ds.length es.length)
    (hgo : ∀ i H' μ' S', Le H μ H' μ' → RelS W H' μ' S' → wtOk wt S' → i < n → J.go i H') (hst : ∀ H' μ' S', Le H μ H' μ' → RelS W H' μ' S' → wtOk wt S' → J.stop n H')
    (hy : ∀ i H' μ' S' v H2, Le H μ H' μ' → RelS W H' μ' S' → wtOk wt S' → i < n → J.yld i H' v H2 → ∃ T x y d e, v = .ref T ∧ H' T = none ∧ H2 = upd H' T (.tup [x, y]) ∧ ds[i]? = some d ∧ es[i]? = some e ∧ RelD W H' μ' d x ∧ RelD W H' μ' e y) :
    ItOk W J ⟨(ds.zip es).map fun p => .tup [p.1, p.2], wt⟩ H μ where
  go := fun i H' μ' S' l s w hi => hgo i H' μ' S' l s w (by simpa [hn] using hi)
  stop := fun H' μ' S' l s w => by
    have e : ((ds.zip es).map fun p => D.tup [p.1, p.2]).length = n := by simp [hn]
    rw [e]
    exact hst H' μ' S' l s w
  yld := fun i H' μ' S' x' H2 l s w hi yy => by
    obtain ⟨T, x, y, d, e, rfl, hT, rfl, e1, e2, r1, r2⟩ := hy i H' μ' S' x' H2 l s w (by simpa [hn] using hi) yy
    refine ⟨.tup [d, e], ?_, ?_, Le.new hT, s.new hT⟩
    · simp [List.getElem?_map, List.getElem?_zip_eq_some, e1, e2]
    · simp only [RelD]
      refine ⟨T, [x, y], rfl, .inl (.inl upd_same), RelDs.mono (Le.new hT) s.is [d, e] [x, y] ?_⟩
      simp only [RelDs]
      exact ⟨x, [y], rfl, r1, y, [], rfl, r2, rfl⟩
def iZip (xs : List Val) (S : Sto) : Out Itm := match xs with
  | [x, y] => (match seqT x, seqT y with
    | some ds, some es => .ok ⟨(ds.zip es).map fun p => .tup [p.1, p.2], []⟩ S
    | _, _ => match seqL x S, seqL y S with
      | some ds, some es => .ok ⟨(ds.zip es).map fun p => .tup [p.1, p.2], wtV x S ++ wtV y S⟩ S
      | _, _ => .bad)
  | _ => .bad
def diZip (As : DAf) : DIf := fun env S => (As env S).bind fun xs S1 => iZip xs S1
theorem wtOk_app {a b : List (Nat × List D)} : wtOk (a ++ b) S ↔ wtOk a S ∧ wtOk b S := by
  unfold wtOk
  simp only [List.mem_append]
  exact ⟨fun h => ⟨fun p hp => h p (.inl hp), fun p hp => h p (.inr hp)⟩, fun h p hp => hp.elim (h.1 p) (h.2 p)⟩
theorem di_zip {a b : Expr} {As : DAf} {p tpos : Pos} {elts : List Expr} {kk : Nat} (hK : X.K = W.K) (hg : Gl X "zip") (hm : X.mg "zip" = none) (ha : DA W E X [a, b] As)
    (hs : starEach [a, b] X.env = (false, eval a X.env) :: starEach [b] X.env := by rfl) (hpl : (backTo pos (starEach [b] X.env)).any (·.1) = false := by rfl) : DI W E X (.Tuple elts kk tpos) (.Call (.Name "zip" p) [a, b] [] pos) (diZip As) :=
  (RZ.pi_zipA hg hm ha hs hpl).imp fun σ H R ⟨env, S, μ, hE, hS, hp⟩ => ⟨env, S, μ, hE, hS, hp.bind.imp fun xs S1 H1 μ1 l1 s1 p1 vs rvs => by
    unfold iZip at p1
    rw [hK]
    split at p1
    · rename_i x y
      obtain ⟨v, w, rfl, rv, rw'⟩ := rel_two rvs
      split at p1
      · rename_i ds es e1 e2
        obtain ⟨a, rfl, h1⟩ := staysT s1 rv e1
        obtain ⟨b, rfl, h2⟩ := staysT s1 rw' e2
        obtain ⟨us, q1, _⟩ := h1 H1 μ1 .refl
        obtain ⟨ws, q2, _⟩ := h2 H1 μ1 .refl
        refine ⟨a, b, us, ws, rfl, .inr ⟨q1, q2, p1.at_ s1 _ (pairs_ok rfl (fun i H' μ' S' l s w hi => ?_) (fun H' μ' S' l s w => ?_) fun i H' μ' S' v H2 l s w hi yy => ?_)⟩⟩
        · obtain ⟨us, q1, r1⟩ := h1 H' μ' l
          obtain ⟨ws, q2, r2⟩ := h2 H' μ' l
          obtain ⟨u, e3, _⟩ := r1.get (List.getElem?_eq_getElem (Nat.lt_of_lt_of_le hi (Nat.min_le_left _ _)))
          obtain ⟨w, e4, _⟩ := r2.get (List.getElem?_eq_getElem (Nat.lt_of_lt_of_le hi (Nat.min_le_right _ _)))
          exact ⟨us, ws, u, w, q1, q2, e3, e4⟩
        · obtain ⟨us, q1, r1⟩ := h1 H' μ' l
          obtain ⟨ws, q2, r2⟩ := h2 H' μ' l
          exact ⟨us, ws, q1, q2, by rw [← r1.length, ← r2.length]; omega⟩
        · obtain ⟨us, q1, r1⟩ := h1 H' μ' l
          obtain ⟨ws, q2, r2⟩ := h2 H' μ' l
          have hd := List.getElem?_eq_getElem (Nat.lt_of_lt_of_le hi (Nat.min_le_left _ _))
          have he := List.getElem?_eq_getElem (Nat.lt_of_lt_of_le hi (Nat.min_le_right _ _))
          obtain ⟨u, e3, r3⟩ := r1.get hd
          obtain ⟨w, e4, r4⟩ := r2.get he
          obtain ⟨T, x, y, rfl, hT, rfl, f1, f2⟩ := yy
          have g1 := f1 us q1
          have g2 := f2 ws q2
          rw [e3] at g1; cases g1
          rw [e4] at g2; cases g2
          exact ⟨T, _, _, _, _, rfl, hT, rfl, hd, he, r3, r4⟩
      · split at p1
        · rename_i ds es e1 e2
          obtain ⟨a, rfl, h1⟩ := stays s1 rv e1
          obtain ⟨b, rfl, h2⟩ := stays s1 rw' e2
          obtain ⟨us, q1, _⟩ := h1 H1 μ1 S1 .refl s1 wtV_ok
          obtain ⟨ws, q2, _⟩ := h2 H1 μ1 S1 .refl s1 wtV_ok
          refine ⟨a, b, us, ws, rfl, .inl ⟨q1, q2, p1.at_ s1 _ (pairs_ok rfl (fun i H' μ' S' l s w hi => ?_) (fun H' μ' S' l s w => ?_) fun i H' μ' S' v H2 l s w hi yy => ?_)⟩⟩
          · rw [wtOk_app] at w
            obtain ⟨us, q1, r1⟩ := h1 H' μ' S' l s w.1
            obtain ⟨ws, q2, r2⟩ := h2 H' μ' S' l s w.2
            obtain ⟨u, e3, _⟩ := r1.get (List.getElem?_eq_getElem (Nat.lt_of_lt_of_le hi (Nat.min_le_left _ _)))
            obtain ⟨w, e4, _⟩ := r2.get (List.getElem?_eq_getElem (Nat.lt_of_lt_of_le hi (Nat.min_le_right _ _)))
            exact ⟨us, ws, u, w, q1, q2, e3, e4⟩
          · rw [wtOk_app] at w
            obtain ⟨us, q1, r1⟩ := h1 H' μ' S' l s w.1
            obtain ⟨ws, q2, r2⟩ := h2 H' μ' S' l s w.2
            exact ⟨us, ws, q1, q2, by rw [← r1.length, ← r2.length]; omega⟩
          · rw [wtOk_app] at w
            obtain ⟨us, q1, r1⟩ := h1 H' μ' S' l s w.1
            obtain ⟨ws, q2, r2⟩ := h2 H' μ' S' l s w.2
            have hd := List.getElem?_eq_getElem (Nat.lt_of_lt_of_le hi (Nat.min_le_left _ _))
            have he := List.getElem?_eq_getElem (Nat.lt_of_lt_of_le hi (Nat.min_le_right _ _))
            obtain ⟨u, e3, r3⟩ := r1.get hd
            obtain ⟨w, e4, r4⟩ := r2.get he
            obtain ⟨T, x, y, rfl, hT, rfl, f1, f2⟩ := yy
            have g1 := f1 us q1
            have g2 := f2 ws q2
            rw [e3] at g1; cases g1
            rw [e4] at g2; cases g2
            exact ⟨T, _, _, _, _, rfl, hT, rfl, hd, he, r3, r4⟩
        · exact p1.elim
    · exact p1.elim⟩
end

/-! ### blocks: the names of their own forgotten -/
def wipeE (env : Env) : List Nat → Env
  | [] => env
  | v :: vs => (wipeE env vs).set v none
theorem wipe_rel {W : Wd} {H : Hp} {μ : Mu} {env : Env} {σ : L2.St} (h : RelE W H μ env σ) : ∀ vs, RelE W H μ (wipeE env vs) (wipe σ vs)
  | [] => h
  | v :: vs => by
    have ih := wipe_rel h vs
    refine ⟨by simp [wipeE, wipe, ih.1], fun i x e => ?_⟩
    by_cases hi : v = i
    · subst hi
      unfold wipeE at e
      by_cases hl : v < (wipeE env vs).length
      · rw [List.getElem?_set_self hl] at e; cases e
      · rw [List.getElem?_eq_none (by simp; omega)] at e; cases e
    · unfold wipeE at e
      unfold wipe
      rw [List.getElem?_set_ne hi] at e ⊢
      exact ih.2 i x e
theorem wipe_set' {σ : L2.St} {i : Nat} {o : Option V} : ∀ vs : List Nat, (i ∈ vs → wipe (σ.set i o) vs = wipe σ vs) ∧ (i ∉ vs → wipe (σ.set i o) vs = (wipe σ vs).set i o)
  | [] => ⟨fun h => absurd h List.not_mem_nil, fun _ => rfl⟩
  | v :: vs => by
    obtain ⟨h1, h2⟩ := wipe_set' (σ := σ) (i := i) (o := o) vs
    by_cases hm : i ∈ vs
    · refine ⟨fun _ => ?_, fun z => absurd (List.mem_cons_of_mem _ hm) z⟩
      unfold wipe
      rw [h1 hm]
    · refine ⟨fun z => ?_, fun z => ?_⟩
      · rcases List.mem_cons.mp z with rfl | z
        · unfold wipe
          rw [h2 hm, List.set_set]
        · exact absurd z hm
      · have hne : i ≠ v := fun q => z (by rw [q]; exact List.mem_cons_self)
        unfold wipe
        rw [h2 hm, List.set_comm _ _ hne]
theorem wipe_wipe {σ : L2.St} (vs : List Nat) : ∀ us : List Nat, (∀ u ∈ us, u ∈ vs) → wipe (wipe σ us) vs = wipe σ vs
  | [], _ => rfl
  | u :: us, h => by
    have e := (wipe_set' (σ := wipe σ us) (i := u) (o := none) vs).1 (h u List.mem_cons_self)
    exact e.trans (wipe_wipe vs us fun w hw => h w (List.mem_cons_of_mem _ hw))
section
variable {W : Wd} {E : XK} {X : Cx} {pos : Pos} {vs : List Nat}
def QEw (W : Wd) (vs : List Nat) (σ : L2.St) (Q : L2.St → Hp → Prop) : Env → Sto → Hp → Mu → Prop := fun env _ H μ => ∀ σ', RelE W H μ env σ' → wipe σ' vs = wipe σ vs → Q σ' H
/-- a target that stores names of vs alone -/
def tGw (W : Wd) (E : XK) (vs : List Nat) (g : DGf) : TG := fun v σ H Q => ∃ x env S μ, RelV' W H μ x v ∧ RelE W H μ env σ ∧ RelS W H μ S ∧ Post W E H μ (g x env S) (QEw W vs σ Q)
abbrev DGw (W : Wd) (E : XK) (vs : List Nat) (X : Cx) (tg : Expr) (g : DGf) : Prop := PG X tg (tGw W E vs g)
def tGsw (W : Wd) (E : XK) (vs : List Nat) (g : DGsf) : TGs := fun us σ H Q => ∃ xs env S μ, RelDs W H μ xs us ∧ RelE W H μ env σ ∧ RelS W H μ S ∧ Post W E H μ (g xs env S) (QEw W vs σ Q)
abbrev DGsw (W : Wd) (E : XK) (vs : List Nat) (X : Cx) (tg : List Expr) (g : DGsf) : Prop := PGs X tg (tGsw W E vs g)
theorem dgw_name {i : Nat} {x : Str} (hv : i ∈ vs) (hN : X.N.Nodup) (hi : X.N[i]? = some x) (hx : Loc X.env.scope x) (hf : X.fn x = true ∨ X.env.scope.names.lookup x = some .local) : DGw W E vs X (.Name x pos) (dgName i) :=
  (pg_name hN hi hx hf).imp fun v σ H Q ⟨x, env, S, μ, rv, hE, hS, hp⟩ => hp.at_ hS _ (hE.set rv) ((wipe_set' vs).1 hv)
theorem dgsw_nil : DGsw W E vs X [] dgNil := pgs_nil.imp fun us σ H Q ⟨xs, env, S, μ, rv, hE, hS, hp⟩ => by
  unfold dgNil at hp
  split at hp
  · exact ⟨by simpa only [RelDs] using rv, hp.at_ hS _ hE rfl⟩
  · exact hp.elim
theorem dgsw_cons {e : Expr} {es : List Expr} {g : DGf} {gs : DGsf} (h1 : DGw W E vs X e g) (h2 : DGsw W E vs X es gs) (hs : (assignEach (e :: es) X.env).map (·.2) = assign e X.env :: (assignEach es X.env).map (·.2) := by rfl) : DGsw W E vs X (e :: es) (dgCons g gs) :=
  (pgs_cons h1 h2 hs).imp fun us σ H Q ⟨xs, env, S, μ, rv, hE, hS, hp⟩ => by
    unfold dgCons at hp
    split at hp
    · rename_i x xs
      simp only [RelDs] at rv
      obtain ⟨v, r, rfl, r1, r2⟩ := rv
      refine ⟨v, r, rfl, .d x, env, S, μ, r1, hE, hS, hp.bind.imp fun env1 S1 H1 μ1 l1 s1 p1 σ1 hE1 w1 => ?_⟩
      exact ⟨xs, env1, S1, μ1, RelDs.mono l1 hS.is xs r r2, hE1, s1, p1.imp fun env2 S2 H2 μ2 l2 s2 p2 σ2 hE2 w2 => p2 σ2 hE2 (w2.trans w1)⟩
    · exact hp.elim
theorem dgw_tup {es : List Expr} {k n : Nat} {gs : DGsf} (hK : X.K = W.K) (hc : X.calm = true) (h : DGsw W E vs X es gs) (hn : (assignEach es X.env).length = n := by rfl) (hst : (assignEach es X.env).findIdx? (·.1) = none := by rfl) : DGw W E vs X (.Tuple es k pos) (dgTup n gs) :=
  (pg_tup hc h hn hst).imp fun v σ H Q ⟨x, env, S, μ, rv, hE, hS, hp⟩ => by
    unfold dgTup at hp
    split at hp
    · rename_i ds
      split at hp
      · rename_i hz
        obtain ⟨a, us, rfl, q, r⟩ := seqT_rel rv rfl
        exact ⟨a, us, rfl, hK ▸ q, by rw [← r.length]; exact hz, ds, env, S, μ, r, hE, hS, hp⟩
      · exact hp.elim
    · exact hp.elim
/-- a clause's tests -/
abbrev DTs (W : Wd) (E : XK) (X : Cx) (ifs : List Expr) (f : DTf) : Prop := PTs X ifs (tT W E f)
def dYes : DTf := fun _ S => .ok true S
theorem dts_nil : DTs W E X [] dYes := ⟨fun pins s σ H Q I ⟨env, S, μ, hE, hS, hp⟩ => pts_nil.run pins s σ H Q I (hp.at_ hS)⟩
theorem dts_one {c : Expr} {f : DTf} (h : DT W E X c f) : DTs W E X [c] f := pts_one h
end

open Classical in
/-- the list as it grows is the place n -/
noncomputable def lcLoop (g : DGf) (tt : DTf) (te : DEf) (wt : List (Nat × List D)) (env : Env) (n : Nat) : List D → List D → Sto → Out (List D)
  | [], acc, S => if wtOk wt S ∧ S[n]? = some (.lst acc) then .ok acc S else .bad
  | d :: ds, acc, S => if wtOk wt S then (g (.d d) env S).bind fun env1 S1 => (tt env1 S1).bind fun b S2 =>
      if b = true then (te env1 S2).bind fun z S3 => match z with
        | .d z => if acc.length < szL ∧ S3[n]? = some (.lst acc) then lcLoop g tt te wt env n ds (acc ++ [z]) (S3.set n (.lst (acc ++ [z]))) else .bad
        | .r _ => .bad
      else if S2[n]? = some (.lst acc) then lcLoop g tt te wt env n ds acc S2 else .bad
    else .bad
/-- the new list as data -/
noncomputable def dLc (it : DIf) (g : DGf) (tt : DTf) (te : DEf) (vs : List Nat) : DEf := fun env S => (it env S).bind fun i S1 =>
  (lcLoop g tt te i.wt (wipeE env vs) S1.length i.ds [] (S1 ++ [.lst []])).bind fun acc S2 => .ok (.d (.lst acc)) (S2.take S1.length)
/-- the new list as a place -/
noncomputable def dLcC (it : DIf) (g : DGf) (tt : DTf) (te : DEf) (vs : List Nat) : DEf := fun env S => (it env S).bind fun i S1 =>
  (lcLoop g tt te i.wt (wipeE env vs) S1.length i.ds [] (S1 ++ [.lst []])).bind fun acc S2 => .ok (.r S1.length) S2
section
variable {W : Wd} {E : XK} {X : Cx} {pos : Pos} {vs : List Nat}
/-- the places behind go -/
theorem Le.takeLast {H : Hp} {μ : Mu} {H0 : Hp} {μ0 : Mu} {n : Nat} (l : Le H0 μ0 H μ) (hn : μ0.length ≤ n) : Le H0 μ0 H (μ.take n) := by
  refine ⟨by rw [List.length_take]; exact Nat.le_min.mpr ⟨hn, l.len⟩, fun m o e => ?_, fun b o e z t => let ⟨q1, q2⟩ := l.keep b o e z t; ⟨q1, q2.take _⟩⟩
  have hm := (List.getElem?_eq_some_iff.mp e).1
  rw [List.getElem?_take, if_pos (Nat.lt_of_lt_of_le hm hn)]
  exact l.at_ m o e
/-- what a comprehension asks, from what its loop does -/
theorem lc_reads {it : DIf} {g : DGf} {tt : DTf} {te : DEf} {σ : L2.St} {H : Hp} {Q : VK} {k : List D → Sto → Sto → Out Val}
    (h : ∃ env S μ, RelE W H μ env σ ∧ RelS W H μ S ∧ Post W E H μ ((it env S).bind fun i S1 => (lcLoop g tt te i.wt (wipeE env vs) S1.length i.ds [] (S1 ++ [.lst []])).bind fun acc S2 => k acc S1 S2) (QV W Q))
    (hk : ∀ acc (S1 S2 : Sto) H1 μ1 H2 μ2 L, Le H1 μ1 H2 μ2 → RelS W H2 μ2 S2 → S1.length = μ1.length → μ2[S1.length]? = some (some L) → S2[S1.length]? = some (.lst acc) → Post W E H1 μ1 (k acc S1 S2) (QV W Q) → Q (.ref L) H2) :
    tLc (tI W E it) (tGw W E vs g) (tT W E tt) (tE W E te) vs σ H Q := by
  obtain ⟨env, S, μ, hE, hS, hp⟩ := h
  refine ⟨env, S, μ, hE, hS, hp.bind.imp fun i S1 H1 μ1 l1 s1 p1 J hJ L hD => ?_⟩
  have hE1 := hE.mono l1 hS.is
  have n0 : S1.length = μ1.length := s1.len
  have p1' : Post W E H1 μ1 (lcLoop g tt te i.wt (wipeE env vs) S1.length i.ds [] (S1 ++ [.lst []])) fun acc S2 H2 μ2 => Post W E H1 μ1 (k acc S1 S2) (QV W Q) := by
    cases e : lcLoop g tt te i.wt (wipeE env vs) S1.length i.ds [] (S1 ++ [.lst []]) with
    | ok acc S2 => rw [e] at p1; exact fun _ _ _ _ => p1
    | exc x S2 => rw [e] at p1; exact p1
    | bad => rw [e] at p1; exact p1
  have len0 : (μ1 ++ [some L] : Mu)[S1.length]? = some (some L) := by rw [n0]; simp
  refine ⟨fun t m H' => m = i.ds.length - t ∧ t ≤ i.ds.length ∧ ∃ acc S' μ', Le H1 μ1 H' μ' ∧ RelE W H' μ' (wipeE env vs) (wipe σ vs) ∧ RelS W H' μ' S' ∧ μ'[S1.length]? = some (some L) ∧
      S'[S1.length]? = some (.lst acc) ∧ Post W E H' μ' (lcLoop g tt te i.wt (wipeE env vs) S1.length (i.ds.drop t) acc S') fun acc S2 H2 μ2 => Post W E H1 μ1 (k acc S1 S2) (QV W Q),
    ⟨_, rfl, Nat.zero_le _, [], S1 ++ [.lst []], μ1 ++ [some L], Le.push hD, wipe_rel (hE1.mono (Le.push hD) s1.is) vs, s1.push hD (by simp [RelDs]), len0, by simp, by rw [List.drop_zero]; exact p1'.le (Le.push hD)⟩, ?_⟩
  rintro t m H' ⟨rfl, ht, acc, S', μ', l', hE', hS', hD', hacc, hp'⟩
  by_cases hlt : t < i.ds.length
  · have hd : i.ds.drop t = i.ds[t] :: i.ds.drop (t + 1) := List.drop_eq_getElem_cons hlt
    rw [hd] at hp'
    unfold lcLoop at hp'
    split at hp'
    case isFalse => exact hp'.elim
    rename_i hw'
    refine .inr ⟨hJ.go t H' μ' S' l' hS' hw' hlt, fun H2 => ∃ acc S2 μ2, Le H1 μ1 H2 μ2 ∧ RelE W H2 μ2 (wipeE env vs) (wipe σ vs) ∧ RelS W H2 μ2 S2 ∧ μ2[S1.length]? = some (some L) ∧
      S2[S1.length]? = some (.lst acc) ∧ Post W E H2 μ2 (lcLoop g tt te i.wt (wipeE env vs) S1.length (i.ds.drop (t + 1)) acc S2) fun acc S2 H2 μ2 => Post W E H1 μ1 (k acc S1 S2) (QV W Q),
      fun H2 ⟨acc, S2, μ2, h⟩ => ⟨_, by omega, rfl, hlt, acc, S2, μ2, h⟩, fun x H2 y => ?_⟩
    obtain ⟨d, e1, r, l2, s2⟩ := hJ.yld t H' μ' S' x H2 l' hS' hw' hlt y
    rw [List.getElem?_eq_getElem hlt] at e1
    cases e1
    have hE2 := hE'.mono l2 hS'.is
    refine ⟨.d i.ds[t], _, S', μ', r, hE2, s2, (hp'.le l2).bind.imp fun env3 S3 H3 μ3 l3 s3 p3 σ3 hE3 w3 => ⟨w3.trans (wipe_wipe vs vs fun _ z => z), ?_⟩⟩
    have hE3' := hE2.mono l3 s2.is
    refine ⟨env3, S3, μ3, hE3, s3, p3.bind.imp fun b S4 H4 μ4 l4 s4 p4 => ?_⟩
    have hE4' := hE3'.mono l4 s3.is
    show if b = true then _ else _
    have stay : ∀ {S'' : Sto} {H'' : Hp} {μ'' : Mu} {ac : List D}, Le H' μ' H'' μ'' → RelS W H'' μ'' S'' → S''[S1.length]? = some (.lst ac) → μ''[S1.length]? = some (some L) := fun {S'' H'' μ'' ac} l s e => by
      have hn : S1.length < μ''.length := by rw [← s.len]; exact (List.getElem?_eq_some_iff.mp e).1
      obtain ⟨b, us, e3, e4, _⟩ := s.cell _ _ _ e (List.getElem?_eq_getElem hn)
      rcases l.at_ _ _ hD' with q | q
      · exact q
      · rw [List.getElem?_eq_getElem hn, e3] at q; cases q
    cases b with
    | false =>
      rw [if_neg Bool.false_ne_true] at p4 ⊢
      have lA := (l2.trans l3).trans l4
      split at p4
      case isFalse => exact p4.elim
      rename_i hc
      exact ⟨acc, S4, μ4, l'.trans lA, hE4', s4, stay lA s4 hc, hc, p4⟩
    | true =>
      rw [if_pos rfl] at p4 ⊢
      refine ⟨env3, S4, μ4, hE3.mono l4 s3.is, s4, p4.bind.imp fun z S5 H5 μ5 l5 s5 p5 v rv => ?_⟩
      have lA := ((l2.trans l3).trans l4).trans l5
      cases z with
      | r n => exact p5.elim
      | d z =>
        dsimp only at p5
        split at p5
        case isFalse => exact p5.elim
        rename_i hc
        have hD5 := stay lA s5 hc.2
        obtain ⟨L', ws, e3, e4, r4⟩ := s5.cell _ _ _ hc.2 hD5
        cases e3
        have r5 : RelDs W H5 μ5 (acc ++ [z]) (ws ++ [v]) := r4.append (by simp only [RelDs]; exact ⟨v, [], rfl, rv, rfl⟩)
        refine ⟨ws, e4, by rw [← r4.length, szL_eq]; exact hc.1, acc ++ [z], S5.set S1.length (.lst (acc ++ [z])), μ5, (l'.trans lA).trans (Le.put hD5), (hE4'.mono l5 s4.is).mono (Le.put hD5) s5.is, s5.put hD5 r5, hD5, ?_, p5.le (Le.put hD5)⟩
        exact List.getElem?_set_self (List.getElem?_eq_some_iff.mp hc.2).1
  · have e : t = i.ds.length := by omega
    subst e
    rw [List.drop_length] at hp'
    unfold lcLoop at hp'
    split at hp'
    case isFalse => exact hp'.elim
    rename_i hw'
    refine .inl ⟨hJ.stop H' μ' S' l' hS' hw'.1, ?_⟩
    exact hk acc S1 S' H1 μ1 H' μ' L l' hS' n0 hD' hacc (hp'.at_ hS')
end
end Dn
namespace Dn
open PySem PySem.Spec PyProof.Rows L2 GxR Gx
section
variable {W : Wd} {E : XK} {X : Cx} {pos : Pos} {own : List (Str × Nat)} {elt tg iter : Expr} {ifs : List Expr} {scope : Scope} {it : DIf} {g : DGf} {tt : DTf} {te : DEf}
/-- as data -/
theorem de_lc (hc : X.calm = true) (hN : X.N.Nodup) (hi : DI W E X tg iter it) (ok : BlkOk X.N X.env.scope scope own)
    (hg : ∀ (s : Shared) (H : Hp) (C : Addr) (cl : List (Str × Addr)) (fp : List Addr), DGw W E (own.map (·.2)) (X.blk s H scope (compEnvC scope cl C X.env) fp) tg g) (ht : ∀ (s : Shared) (H : Hp) (C : Addr) (cl : List (Str × Addr)) (fp : List Addr), DTs W E (X.blk s H scope (compEnvC scope cl C X.env) fp) ifs tt)
    (he : ∀ (s : Shared) (H : Hp) (C : Addr) (cl : List (Str × Addr)) (fp : List Addr), DE W E (X.blk s H scope (compEnvC scope cl C X.env) fp) elt te) (hs : ∀ x, foldedSetIterable iter X.env x = pure x := by intro _; rfl) :
    DE W E X (.ListComp elt [⟨tg, iter, ifs, 0⟩] scope pos) (dLc it g tt te (own.map (·.2))) :=
  (pe_lc hc hN hi ok hg ht he hs).imp fun σ H Q ⟨env, S, μ, hE, hS, hp⟩ => lc_reads (k := fun acc S1 S2 => .ok (.d (.lst acc)) (S2.take S1.length)) ⟨env, S, μ, hE, hS, hp⟩ fun acc S1 S2 H1 μ1 H2 μ2 L l s e1 e2 e3 p => by
    obtain ⟨L', ws, e4, e5, r⟩ := s.cell _ _ _ e3 e2
    cases e4
    refine p H2 (μ2.take S1.length) (l.takeLast (Nat.le_of_eq e1.symm)) (s.take _) _ ?_
    simp only [RelV', RelD]
    refine ⟨L, ws, rfl, ⟨fun n e => ?_, e5⟩, RelDs.sub (fun _ z => z.take _) acc ws r⟩
    rw [List.getElem?_take] at e
    split at e
    · rename_i hn
      have := s.nd _ _ _ e e2
      omega
    · cases e
/-- as a place -/
theorem de_lcC (hc : X.calm = true) (hN : X.N.Nodup) (hi : DI W E X tg iter it) (ok : BlkOk X.N X.env.scope scope own)
    (hg : ∀ (s : Shared) (H : Hp) (C : Addr) (cl : List (Str × Addr)) (fp : List Addr), DGw W E (own.map (·.2)) (X.blk s H scope (compEnvC scope cl C X.env) fp) tg g) (ht : ∀ (s : Shared) (H : Hp) (C : Addr) (cl : List (Str × Addr)) (fp : List Addr), DTs W E (X.blk s H scope (compEnvC scope cl C X.env) fp) ifs tt)
    (he : ∀ (s : Shared) (H : Hp) (C : Addr) (cl : List (Str × Addr)) (fp : List Addr), DE W E (X.blk s H scope (compEnvC scope cl C X.env) fp) elt te) (hs : ∀ x, foldedSetIterable iter X.env x = pure x := by intro _; rfl) :
    DE W E X (.ListComp elt [⟨tg, iter, ifs, 0⟩] scope pos) (dLcC it g tt te (own.map (·.2))) :=
  (pe_lc hc hN hi ok hg ht he hs).imp fun σ H Q ⟨env, S, μ, hE, hS, hp⟩ => lc_reads (k := fun acc S1 S2 => .ok (.r S1.length) S2) ⟨env, S, μ, hE, hS, hp⟩ fun acc S1 S2 H1 μ1 H2 μ2 L l s e1 e2 e3 p => by
    refine p H2 μ2 l s _ ?_
    simp only [RelV', e2]
/-- name = [..] on one line -/
theorem lc_set {i : Nat} {f : DEf} {t : TE} (hr : ∀ σ H Q, tE W E f σ H Q → t σ H Q) (D : Ends) (σ : L2.St) (H : Hp) (h : tS W E (dAsg f (dgName i)) D σ H) : tAsg t (gName i) D σ H := by
  obtain ⟨env, S, μ, hE, hS, hp⟩ := h
  exact hr _ _ _ ⟨env, S, μ, hE, hS, hp.bind.imp fun x S1 H1 μ1 l1 s1 p1 v rv => (p1.bind.at_ s1).at_ s1 _ ((hE.mono l1 hS.is).set rv)⟩
theorem lc_rd (σ : L2.St) (H : Hp) (Q : VK) (h : tE W E (dLc it g tt te (own.map (·.2))) σ H Q) : tLc (tI W E it) (tGw W E (own.map (·.2)) g) (tT W E tt) (tE W E te) (own.map (·.2)) σ H Q := by
  obtain ⟨env, S, μ, hE, hS, hp⟩ := h
  exact lc_reads (k := fun acc S1 S2 => .ok (.d (.lst acc)) (S2.take S1.length)) ⟨env, S, μ, hE, hS, hp⟩ fun acc S1 S2 H1 μ1 H2 μ2 L l s e1 e2 e3 p => by
    obtain ⟨L', ws, e4, e5, r⟩ := s.cell _ _ _ e3 e2
    cases e4
    refine p H2 (μ2.take S1.length) (l.takeLast (Nat.le_of_eq e1.symm)) (s.take _) _ ?_
    simp only [RelV', RelD]
    refine ⟨L, ws, rfl, ⟨fun n e => ?_, e5⟩, RelDs.sub (fun _ z => z.take _) acc ws r⟩
    rw [List.getElem?_take] at e
    split at e
    · rename_i hn
      have := s.nd _ _ _ e e2
      omega
    · cases e
theorem lcC_rd (σ : L2.St) (H : Hp) (Q : VK) (h : tE W E (dLcC it g tt te (own.map (·.2))) σ H Q) : tLc (tI W E it) (tGw W E (own.map (·.2)) g) (tT W E tt) (tE W E te) (own.map (·.2)) σ H Q := by
  obtain ⟨env, S, μ, hE, hS, hp⟩ := h
  exact lc_reads (k := fun acc S1 S2 => .ok (.r S1.length) S2) ⟨env, S, μ, hE, hS, hp⟩ fun acc S1 S2 H1 μ1 H2 μ2 L l s e1 e2 e3 p => by
    refine p H2 μ2 l s _ ?_
    simp only [RelV', e2]
theorem ds_setLc {f : DEf} {i : Nat} {y : Str} {py spos : Pos} (hr : ∀ σ H Q, tE W E f σ H Q → tLc (tI W E it) (tGw W E (own.map (·.2)) g) (tT W E tt) (tE W E te) (own.map (·.2)) σ H Q)
    (hc : X.calm = true) (hN : X.N.Nodup) (hy : X.N[i]? = some y) (hyl : X.env.scope.names.lookup y = some .local)
    (hsw : swapsWith (.ListComp elt [⟨tg, iter, ifs, 0⟩] scope pos) (some (.Name y py)) spos.line X.env = pure true) (hi : DI W E X tg iter it) (ok : BlkOk X.N X.env.scope scope own)
    (hg : ∀ (s : Shared) (H : Hp) (C : Addr) (cl : List (Str × Addr)) (fp : List Addr), DGw W E (own.map (·.2)) (X.blk s H scope (compEnvC scope cl C X.env) fp) tg g) (ht : ∀ (s : Shared) (H : Hp) (C : Addr) (cl : List (Str × Addr)) (fp : List Addr), DTs W E (X.blk s H scope (compEnvC scope cl C X.env) fp) ifs tt)
    (he : ∀ (s : Shared) (H : Hp) (C : Addr) (cl : List (Str × Addr)) (fp : List Addr), DE W E (X.blk s H scope (compEnvC scope cl C X.env) fp) elt te) (hs : ∀ x, foldedSetIterable iter X.env x = pure x := by intro _; rfl) :
    DS W E X (.Assign [.Name y py] (.ListComp elt [⟨tg, iter, ifs, 0⟩] scope pos) spos) (dAsg f (dgName i)) :=
  (ps_setLc hc hN hy hyl hsw hi ok hg ht he hs).imp (lc_set hr)
end
/-! ### all(test for target in iter) -/
open Classical in
noncomputable def allLoop (g : DGf) (te : DEf) (wt : List (Nat × List D)) (env : Env) : List D → Sto → Out Val
  | [], S => if wtOk wt S then .ok (.d (.bl true)) S else .bad
  | d :: ds, S => if wtOk wt S then (g (.d d) env S).bind fun env1 S1 => (te env1 S1).bind fun z S2 => match z with
      | .d (.bl true) => allLoop g te wt env ds S2
      | .d (.bl false) => .ok (.d (.bl false)) S2
      | _ => .bad
    else .bad
noncomputable def dAllG (it : DIf) (g : DGf) (te : DEf) (vs : List Nat) : DEf := fun env S => (it env S).bind fun i S1 => allLoop g te i.wt (wipeE env vs) i.ds S1
section
variable {W : Wd} {E : XK} {X : Cx} {pos : Pos} {own : List (Str × Nat)} {elt tg iter : Expr} {scope : Scope} {it : DIf} {g : DGf} {te : DEf}
theorem Le.tabbed {H H' : Hp} {μ : Mu} {P : Addr} (h : TabG H P) (t : Tabbed P H H') : Le H μ H' μ :=
  ⟨Nat.le_refl _, fun _ _ e => .inl e, fun b o e n z => ⟨by
    rw [t.2 b (fun q => ?_)]
    · exact e
    · obtain ⟨ps, e2, _⟩ := h
      rw [q, e2] at e
      cases e
      exact z ps rfl, n⟩⟩
theorem RelS.tabbed {H H' : Hp} {μ : Mu} {S : Sto} {P : Addr} (s : RelS W H μ S) (h : TabG H P) (t : Tabbed P H H') : RelS W H' μ S := by
  have ne : ∀ {b vs}, H b = some (.lst vs) → b ≠ P := fun e q => by
    obtain ⟨ps, e2, _⟩ := h
    rw [q, e2] at e; cases e
  refine ⟨s.len, s.nd, fun n c o e1 e2 => ?_, fun n a e => ?_, fun P' hP' => ?_⟩
  · have ok := s.cell n c o e1 e2
    cases c with
    | dead => trivial
    | lst ds =>
      obtain ⟨a, vs, e3, e4, r⟩ := ok
      exact ⟨a, vs, e3, by rw [t.2 a (ne e4)]; exact e4, RelDs.mono (Le.tabbed h t) s.is ds vs r⟩
  · obtain ⟨vs, e4⟩ := s.is n a e
    exact ⟨vs, by rw [t.2 a (ne e4)]; exact e4⟩
  · by_cases q : P' = P
    · rw [q]; exact t.1
    · obtain ⟨ps, e, k⟩ := s.tab P' hP'
      exact ⟨ps, by rw [t.2 P' q]; exact e, k⟩
theorem de_allG {c P : Addr} {p gpos : Pos} {k : Nat}
    (hr : Room (k + 4) X.A) (hc : X.calm = true) (hN : X.N.Nodup) (hgl : Gl X "all") (hm : X.mg "all" = none) (hT : P ∈ W.tabs) (TB : TabB X.base X.mg c P) (hcode : X.env.code = .ref c)
    (hi : DI W E X tg iter it) (ok : BlkOk X.N X.env.scope scope own) (hco : scope.isCoroutine = false) (hcell : ∀ y ∈ scope.names, y.2 ≠ .cell) (hdot : scope.names.lookup (".0" : Str) = some NameKind.local)
    (hg : ∀ (s : Shared) (H : Hp) (C : Addr) (cl : List (Str × Addr)) (code : Value) (fp : List Addr) (pn : List (Addr × Obj)), DGw W E (own.map (·.2)) (gcx X s H (genv X scope cl C code) fp pn) tg g)
    (he : ∀ (s : Shared) (H : Hp) (C : Addr) (cl : List (Str × Addr)) (code : Value) (fp : List Addr) (pn : List (Addr × Obj)), Room k (gcx X s H (genv X scope cl C code) fp pn).A → DE W E (gcx X s H (genv X scope cl C code) fp pn) elt te)
    (hs : ∀ v, genFold iter X.env v = pure v := by intro _; rfl)
    (hst : starEach [.GeneratorExp elt [⟨tg, iter, [], 0⟩] scope gpos] X.env = (false, eval (.GeneratorExp elt [⟨tg, iter, [], 0⟩] scope gpos) X.env) :: starEach [] X.env := by rfl) :
    DE W E X (.Call (.Name "all" p) [.GeneratorExp elt [⟨tg, iter, [], 0⟩] scope gpos] [] pos) (dAllG it g te (own.map (·.2))) :=
  (pe_allG hr hc hN hgl hm TB hcode hi ok hco hcell hdot hg he hs hst).imp fun σ H Q ⟨env, S, μ, hE, hS, hp⟩ => by
    refine ⟨env, S, μ, hE, hS, hp.bind.imp fun i S1 H1 μ1 l1 s1 p1 J hJ => ⟨s1.tab P hT, fun H2 ht => ?_⟩⟩
    have lt := Le.tabbed (μ := μ1) (s1.tab P hT) ht
    have s2 := s1.tabbed (s1.tab P hT) ht
    have hE2 := wipe_rel ((hE.mono l1 hS.is).mono lt s1.is) (own.map (·.2))
    refine ⟨fun t m H' => m = i.ds.length - t ∧ t ≤ i.ds.length ∧ ∃ S' μ', Le H1 μ1 H' μ' ∧ RelE W H' μ' (wipeE env (own.map (·.2))) (wipe σ (own.map (·.2))) ∧ RelS W H' μ' S' ∧ Post W E H' μ' (allLoop g te i.wt (wipeE env (own.map (·.2))) (i.ds.drop t) S') (QV W Q),
      ⟨_, rfl, Nat.zero_le _, S1, μ1, lt, hE2, s2, by rw [List.drop_zero]; exact Post.le p1 lt⟩, ?_⟩
    rintro t m H' ⟨rfl, ht', S', μ', l', hE', hS', hp'⟩
    by_cases hlt : t < i.ds.length
    · have hd : i.ds.drop t = i.ds[t] :: i.ds.drop (t + 1) := List.drop_eq_getElem_cons hlt
      rw [hd] at hp'
      unfold allLoop at hp'
      split at hp'
      case isFalse => exact hp'.elim
      rename_i hw'
      refine .inr ⟨hJ.go t H' μ' S' l' hS' hw' hlt, fun H2 => ∃ S2 μ2, Le H1 μ1 H2 μ2 ∧ RelE W H2 μ2 (wipeE env (own.map (·.2))) (wipe σ (own.map (·.2))) ∧ RelS W H2 μ2 S2 ∧ Post W E H2 μ2 (allLoop g te i.wt (wipeE env (own.map (·.2))) (i.ds.drop (t + 1)) S2) (QV W Q),
        fun H2 ⟨S2, μ2, h⟩ => ⟨_, by omega, rfl, hlt, S2, μ2, h⟩, fun x H2 y => ?_⟩
      obtain ⟨d, e1, r, l2, s2⟩ := hJ.yld t H' μ' S' x H2 l' hS' hw' hlt y
      rw [List.getElem?_eq_getElem hlt] at e1
      cases e1
      have hE2 := hE'.mono l2 hS'.is
      refine ⟨.d i.ds[t], _, S', μ', r, hE2, s2, (hp'.le l2).bind.imp fun env3 S3 H3 μ3 l3 s3 p3 σ3 hE3 w3 => ⟨w3.trans (wipe_wipe _ _ fun _ z => z), ?_⟩⟩
      refine ⟨env3, S3, μ3, hE3, s3, p3.bind.imp fun z S4 H4 μ4 l4 s4 p4 v rv => ?_⟩
      have hE4 := (hE2.mono l3 s2.is).mono l4 s3.is
      have lA := ((l'.trans l2).trans l3).trans l4
      split at p4
      · exact ⟨true, bl_rel rv, by rw [if_pos rfl]; exact ⟨S4, μ4, lA, hE4, s4, p4⟩⟩
      · exact ⟨false, bl_rel rv, by rw [if_neg Bool.false_ne_true]; exact p4.at_ s4 _ (rel_bl _)⟩
      · exact p4.elim
    · have e : t = i.ds.length := by omega
      subst e
      rw [List.drop_length] at hp'
      unfold allLoop at hp'
      split at hp'
      case isFalse => exact hp'.elim
      rename_i hw'
      exact .inl ⟨hJ.stop H' μ' S' l' hS' hw', hp'.at_ hS' _ (rel_bl _)⟩
end
end Dn
set_option Elab.async false
set_option linter.all false
set_option maxRecDepth 100000
set_option maxHeartbeats 4000000
/-! ### calls of built-in functions by name; defs -/
namespace Dn
open PySem PySem.Spec PyProof.Rows L2 GxR Gx

section
variable {W : Wd} {E : XK} {X : Cx} {pos p : Pos} {x : Str} {e : Expr} {es : List Expr} {As : DAf} {r : List V → Hp → VK → Prop} {o : Opn} {id T : String}
theorem de_callB (hc : CallR X (.builtin id) r) (hd : DCall W E r o) (hg : Gl X x) (hm : X.mg x = none) (hv : bootBuiltins x = some (.builtin id)) (ha : DA W E X (e :: es) As) (hn : x ≠ "__name__" := by decide) (hdb : (x == ("__debug__" : Str)) = false := by decide)
    (he : starEach (e :: es) X.env = (false, eval e X.env) :: starEach es X.env := by rfl) (hpl : (backTo pos (starEach es X.env)).any (·.1) = false := by rfl) : DE W E X (.Call (.Name x p) (e :: es) [] pos) (dCall o As) :=
  (pe_callB hc hg hm hv ha hn hdb he hpl).imp (tE_call hd)
theorem de_callTy (hc : CallR X (.type T) r) (hd : DCall W E r o) (hg : Gl X x) (hm : X.mg x = none) (hv : bootBuiltins x = some (.type T)) (ha : DA W E X (e :: es) As) (hn : x ≠ "__name__" := by decide) (hdb : (x == ("__debug__" : Str)) = false := by decide)
    (he : starEach (e :: es) X.env = (false, eval e X.env) :: starEach es X.env := by rfl) (hpl : (backTo pos (starEach es X.env)).any (·.1) = false := by rfl) : DE W E X (.Call (.Name x p) (e :: es) [] pos) (dCall o As) :=
  (pe_callTy hc hg hm hv ha hn hdb he hpl).imp (tE_call hd)
theorem de_callBf (hc : CallR X (.builtin id) r) (hd : DCall W E r o) (hg : Gl X x) (hm : X.mg x = some (.builtin id)) (ha : DA W E X (e :: es) As) (hdb : (x == ("__debug__" : Str)) = false := by decide)
    (he : starEach (e :: es) X.env = (false, eval e X.env) :: starEach es X.env := by rfl) (hpl : (backTo pos (starEach es X.env)).any (·.1) = false := by rfl) : DE W E X (.Call (.Name x p) (e :: es) [] pos) (dCall o As) :=
  (pe_callBfun hc hg hm ha hdb he hpl).imp (tE_call hd)
theorem boot_len' : bootBuiltins "len" = some (.builtin "len") := by decide +kernel
theorem boot_abs' : bootBuiltins "abs" = some (.builtin "abs") := by decide +kernel
theorem boot_max' : bootBuiltins "max" = some (.builtin "max") := by decide +kernel
theorem boot_min' : bootBuiltins "min" = some (.builtin "min") := by decide +kernel
theorem boot_all' : bootBuiltins "all" = some (.builtin "all") := by decide +kernel
theorem boot_any' : bootBuiltins "any" = some (.builtin "any") := by decide +kernel
theorem boot_sum' : bootBuiltins "sum" = some (.builtin "sum") := by decide +kernel
theorem boot_divmod' : bootBuiltins "divmod" = some (.builtin "divmod") := by decide +kernel
theorem boot_isinstance' : bootBuiltins "isinstance" = some (.builtin "isinstance") := by decide +kernel
theorem boot_int' : bootBuiltins "int" = some (.type "int") := by decide +kernel
theorem boot_bool' : bootBuiltins "bool" = some (.type "bool") := by decide +kernel
theorem boot_str' : bootBuiltins "str" = some (.type "str") := by decide +kernel
theorem boot_tuple' : bootBuiltins "tuple" = some (.type "tuple") := by decide +kernel
theorem boot_list' : bootBuiltins "list" = some (.type "list") := by decide +kernel
theorem boot_dict' : bootBuiltins "dict" = some (.type "dict") := by decide +kernel
/-! isinstance(x, T) -/
inductive Tn where
  | int | bool | str | tup | lst | dic
def Tn.nm : Tn → Str
  | .int => "int" | .bool => "bool" | .str => "str" | .tup => "tuple" | .lst => "list" | .dic => "dict"
def Tn.ty : Tn → String
  | .int => "int" | .bool => "bool" | .str => "str" | .tup => "tuple" | .lst => "list" | .dic => "dict"
def isi (d : D) (t : Tn) : Option Bool := match d, t with
  | .bl _, .int => some true
  | .int _, .int => some true
  | .bl _, .bool => some true
  | .str _, .str => some true
  | .tup _, .tup => some true
  | .lst _, .lst => some true
  | .con _, .lst => some true
  | .dic, .dic => some true
  | .obj _ _, _ => none
  | _, _ => some false
def tyN : D → String
  | .non => "NoneType" | .bl _ => "bool" | .int _ => "int" | .str _ => "str" | .tup _ => "tuple" | .lst _ => "list" | .con _ => "list" | .dic => "dict" | .obj _ _ => ""
theorem isi_kit {d : D} {t : Tn} {b : Bool} (h : isi d t = some b) : kitB (tyN d) t.ty = some b := by
  cases d <;> cases t <;> simp only [isi] at h <;> first
    | (cases h; done)
    | (cases h; simp only [tyN, Tn.ty]; decide +kernel)
theorem tyx_of {H : Hp} {μ : Mu} {d : D} {v : V} {t : Tn} {b : Bool} (h : RelD W H μ d v) (hi : isi d t = some b) : TyX W.K H v (.type (tyN d)) := by
  cases d with
  | non => simp only [RelD] at h; rw [h]; exact .base .non
  | bl b => simp only [RelD] at h; rw [h]; exact .base (.bl b)
  | int b => simp only [RelD] at h; rw [h]; exact .base (.int b)
  | str b => simp only [RelD] at h; rw [h]; exact .base (.str b)
  | tup ds =>
    simp only [RelD] at h
    obtain ⟨a, vs, rfl, q, _⟩ := h
    rcases q with (q | ⟨o, q⟩) | ⟨o, its, n, q1, q2, _⟩
    · exact .base (.tup q)
    · exact .fTuple q
    · exact .kTuple q1 q2
  | lst ds =>
    simp only [RelD] at h
    obtain ⟨a, vs, rfl, q, _⟩ := h
    exact .base (.lst q.2)
  | con ds =>
    simp only [RelD] at h
    obtain ⟨a, vs, rfl, q, _⟩ := h
    rcases q with q | ⟨o, q⟩ | ⟨o, its, n, q1, q2, _⟩
    · exact .base (.lst q.2)
    · exact .base (.frz q)
    · exact .kList q1 q2
  | dic =>
    simp only [RelD] at h
    obtain ⟨a, rfl, _, q⟩ := h
    exact .base (.dK q)
  | obj c fs => cases t <;> cases hi
def oIsi (t : Tn) : Val → Sto → Out Val := fun x S => match x with
  | .d d => (match isi d t with | some b => .ok (.d (.bl b)) S | none => .bad)
  | .r n => (match S[n]? with | some (.lst _) => .ok (.d (.bl (match t with | .lst => true | _ => false))) S | _ => .bad)
theorem de_isi {f : DEf} {p2 : Pos} (t : Tn) (hK : X.K = W.K) (hg : Gl X "isinstance") (hm : X.mg "isinstance" = none) (hg2 : Gl X t.nm) (hm2 : X.mg t.nm = none) (ha : DE W E X e f)
    (he : starEach [e, .Name t.nm p2] X.env = (false, eval e X.env) :: starEach [.Name t.nm p2] X.env := by rfl) (hpl : (backTo pos (starEach [.Name t.nm p2] X.env)).any (·.1) = false := by rfl) : DE W E X (.Call (.Name "isinstance" p) [e, .Name t.nm p2] [] pos) (dUn (oIsi t) f) := by
  have hv : bootBuiltins t.nm = some (.type t.ty) := by cases t <;> decide +kernel
  have hT : PE X (.Name t.nm p2) (tC (.ty t.ty)) := pe_bltn hg2 hm2 hv rfl (by cases t <;> decide) (by cases t <;> decide)
  refine (pe_callB call_isi hg hm boot_isinstance' (pa_cons ha (pa_cons hT pa_nil) he) (by decide) (by decide) he hpl).imp fun σ H Q ⟨env, S, μ, hE, hS, hp⟩ => ?_
  refine ⟨env, S, μ, hE, hS, hp.bind.imp fun x S1 H1 μ1 l1 s1 p1 v rv => ?_⟩
  unfold oIsi at p1
  rw [hK]
  split at p1
  · rename_i d
    split at p1
    · rename_i b e1
      exact ⟨v, _, _, _, b, rfl, .ty _, tyx_of rv e1, kit_ty (isi_kit e1), p1.at_ s1 _ (rel_bl _)⟩
    · exact p1.elim
  · rename_i n
    split at p1
    · rename_i ds e1
      obtain ⟨a, vs, rfl, _, h2, _⟩ := cell_rel s1 rv e1
      refine ⟨_, _, _, _, _, rfl, .ty _, .base (.lst h2), kit_ty ?_, p1.at_ s1 _ (rel_bl _)⟩
      cases t <;> decide +kernel
    · exact p1.elim
end

/-! ### defs -/
def spD (W : Wd) (n : Nat) (m : Opn) : Sp := fun vs H Q E => vs.length = n ∧ ∃ xs S μ, RelVs W H μ xs vs ∧ RelS W H μ S ∧ Post W E H μ (m xs S) (QV W Q)
/-- what comes back: the places behind the caller's go, but a new list -/
def dFin (S : Sto) (x : Val) (S' : Sto) : Out Val := match x with
  | .d d => .ok (.d d) (S'.take S.length)
  | .r n => if n < S.length then .ok (.r n) (S'.take S.length) else match S'[n]? with
    | some c => .ok (.r S.length) (S'.take S.length ++ [c])
    | none => .bad
def dFn (N : Nat) (body : DSf) : Opn := fun xs S => match body (xs.map some ++ List.replicate (N - xs.length) none) S with
  | .ok (.ret x) S' => dFin S x S'
  | .ok (.nx _) S' => .ok (.d .non) (S'.take S.length)
  | .exc x S' => .exc x (S'.take S.length)
  | _ => .bad
theorem start_rel {W : Wd} {H : Hp} {μ : Mu} {N : List Str} : ∀ {xs : List Val} {vs : List V}, RelVs W H μ xs vs → RelE W H μ (xs.map some ++ List.replicate (N.length - xs.length) none) (start N vs) := by
  have key : ∀ {xs : List Val} {vs : List V} {i : Nat} {x : Val}, RelVs W H μ xs vs → xs[i]? = some x → ∃ v, vs[i]? = some v ∧ RelV' W H μ x v := by
    intro xs
    induction xs with
    | nil => intro vs i x h e; simp at e
    | cons y ys ih =>
      intro vs i x h e
      simp only [RelVs] at h
      obtain ⟨v, r, rfl, h1, h2⟩ := h
      cases i with
      | zero => simp at e; subst e; exact ⟨v, by simp, h1⟩
      | succ i => simp at e; obtain ⟨u, q, z⟩ := ih h2 e; exact ⟨u, by simpa using q, z⟩
  intro xs vs h
  unfold L2.start
  rw [h.length]
  refine ⟨by simp [h.length], fun i x e => ?_⟩
  by_cases hi : i < vs.length
  · rw [List.getElem?_append_left (by simpa [h.length] using hi), List.getElem?_map] at e
    rw [List.getElem?_append_left (by simpa using hi), List.getElem?_map]
    cases q : xs[i]? with
    | none => rw [q] at e; cases e
    | some y =>
      rw [q] at e
      simp at e
      subst e
      obtain ⟨v, e2, r⟩ := key h q
      exact ⟨v, by rw [e2]; rfl, r⟩
  · rw [List.getElem?_append_right (by simp [h.length]; omega), List.getElem?_replicate] at e
    split at e <;> cases e
section
variable {W : Wd} {E : XK} {H : Hp} {μ : Mu} {S : Sto}
theorem post_fn {N : Nat} {body : DSf} {xs : List Val} {Q : VK} (hS : RelS W H μ S) (h : Post W E H μ (dFn N body xs S) (QV W Q)) :
    Post W E H μ (body (xs.map some ++ List.replicate (N - xs.length) none) S) (QS W { nx := fun _ H' => Q .non H', rt := Q }) := by
  unfold dFn at h
  generalize body (xs.map some ++ List.replicate (N - xs.length) none) S = r at h ⊢
  have n0 := hS.len
  have tk : ∀ {S' : Sto} {H' : Hp} {μ' : Mu}, Le H μ H' μ' → RelS W H' μ' S' → Le H μ H' (μ'.take μ.length) ∧ RelS W H' (μ'.take μ.length) (S'.take S.length) := fun l s => ⟨l.take, by rw [n0]; exact s.take _⟩
  cases r with
  | bad => exact h
  | exc x S' =>
    intro H' μ' u dd l s rx
    obtain ⟨l2, s2⟩ := tk l s
    exact h H' _ u dd l2 s2 rx
  | ok fl S' =>
    intro H' μ' l s
    obtain ⟨l2, s2⟩ := tk l s
    cases fl with
    | nx env => exact fun σ _ => h H' _ l2 s2 _ rel_non
    | brk env => exact h.elim
    | cnt env => exact h.elim
    | ret x =>
      intro v rv
      cases x with
      | d d => exact h H' _ l2 s2 v (RelD.sub (fun _ z => z.take _) d v rv)
      | r n =>
        unfold dFin at h
        dsimp only at h
        split at h
        · rename_i hn
          refine h H' _ l2 s2 v ?_
          have e : (μ'.take μ.length)[n]? = μ'[n]? := by rw [List.getElem?_take, if_pos (n0 ▸ hn)]
          simp only [RelV', e]
          exact rv
        · rename_i hn
          split at h
          · rename_i c e
            have hl : n < μ'.length := by rw [← s.len]; exact (List.getElem?_eq_some_iff.mp e).1
            have eo := List.getElem?_eq_getElem hl
            refine h H' (μ'.take μ.length ++ [μ'[n]]) (l.comp eo) ?_ v ?_
            · rw [n0]
              exact s.comp (by omega) eo e
            · have l1 : (μ'.take μ.length).length = S.length := by rw [List.length_take, n0]; have := l.len; omega
              simp only [RelV'] at rv ⊢
              rw [List.getElem?_append_right (by omega), l1]
              simp only [Nat.sub_self, List.getElem?_cons_zero]
              rw [eo] at rv
              exact rv
          · exact h.elim
end
/-! ### a def's promise where no repr runs (so that one may) -/
structure FnG (P : Program) (w : World) (K : PySem.W.Frag) (mg : Str → Option Value) (base : Heap) (k : Nat) (f : Addr) (fd : FuncData) (ps : List Str) (sp : Sp) : Prop where
  len : ∀ vs H Q E, sp vs H Q E → vs.length = ps.length
  run : ∀ (A : Around) (outer : List PySem.Env) (s : Shared) (H : Hp) (args : Args) (us : List Value) (vs : List V) (Q : VK) (E : XK), Room k A → A.guards = some [] → Env0 P w K mg base A outer s H →
    BindsTo s fd args (ps.zip us) → Vals vs us → sp vs H Q E → codeAny (model P w) A (.call (.ref f) args) (CR CX0 outer P w H s Q E) s
theorem FnG.mono {P : Program} {w : World} {K : PySem.W.Frag} {mg : Str → Option Value} {base : Heap} {j k : Nat} {f : Addr} {fd : FuncData} {ps : List Str} {sp : Sp} (F : FnG P w K mg base j f fd ps sp) (h : j ≤ k) : FnG P w K mg base k f fd ps sp :=
  ⟨F.len, fun A outer s H args us vs Q E hr => F.run A outer s H args us vs Q E (hr.mono h)⟩
/-- by its body -/
theorem fnG_of {P : Program} {w : World} {K : PySem.W.Frag} {mg : Str → Option Value} {base : Heap} {k : Nat} {f : Addr} {name qual : Str} {params : Arguments} {body : List Stmt} {scope : Scope} {dV kV doc pm cdv ct oc : Value} {an od : Option Addr}
    {osl : Array (Option Value)} {N ps : List Str} {sp : Sp} (lk : K.lookup f = some ⟨oc, od, .func (PySem.W.fnOf name qual params body scope dV kV doc pm an cdv ct), osl⟩) (hcd : PySem.W.codeIn K cdv qual = true) (S : FnScope N ps scope)
    (hl : ∀ vs H Q E, sp vs H Q E → vs.length = ps.length)
    (hb : ∀ (A : Around) (outer : List PySem.Env) (s : Shared) (H : Hp) (vs : List V) (Q : VK) (E : XK), Room k (A.deeper (envOfC qual scope s.heap.objs.size f cdv)) → A.guards = some [] → sp vs H Q E →
      ∃ t, PSs (cxOf CX0 P w K mg base N qual scope f cdv A outer s H E) body t ∧ t { nx := fun _ H' => Q .non H', rt := Q } (L2.start N vs) H) :
    FnG P w K mg base (k + 1) f (PySem.W.fnOf name qual params body scope dV kV doc pm an cdv ct) ps sp where
  len := hl
  run := by
    intro A outer s0 H0 args us vs Q E room hg en bd rel promise
    have there : K.In s0.heap := en.mod.kin.keeps fun b o q => (en.bs b o q).1
    have nolim : s0.heap.NoLimit := en.mod.nolimit.keeps fun b o q => (en.bs b o q).1
    obtain ⟨t, body_t, at_start⟩ := hb A outer s0 H0 vs Q E (room.deeper _) hg promise
    refine codeAny_call_function room.depth (there _ _ lk) rfl S.co S.gen rfl (PySem.W.codeRec_of there hcd) (bd _ _ _ _ ?_)
    refine wpAny_newFunctionEnv_cells S.kind (fun y hy => ?_) fun env he s1 inC => ?_
    · obtain ⟨n, u⟩ := y
      exact (S.par n (List.of_mem_zip hy).1).imp id fun c => ⟨c, PySem.W.cellsFrom_some _ _ _ (.inl c)⟩
    · subst he
      have I1 := inv_start (CX := CX0) (P := P) (w := w) (E := E) S room.hd en (hl _ _ _ _ promise) rel inC
      refine ⟨nolim.keeps inC.toInCall.keep, codeAny_func (wpAny_mono (body_t.run [] s1 _ H0 _ I1 at_start) ?_ fun _ _ z => z)⟩
      intro fl s2 hs
      cases fl with
      | brk => obtain ⟨_, _, _, z⟩ := hs; exact z.elim
      | cont => obtain ⟨_, _, _, z⟩ := hs; exact z.elim
      | next => obtain ⟨_, H2, I2, z⟩ := hs; exact ⟨.non, H2, I2.os, I2.bare, I2.base, I2.hok, rfl, z⟩
      | ret u => obtain ⟨v, _, H2, I2, rv, z⟩ := hs; exact ⟨v, H2, I2.os, I2.bare, I2.base, I2.hok, rv, z⟩
section
variable {P : Program} {w : World} {K : PySem.W.Frag} {mg : Str → Option Value} {base : Heap} {x qual : Str} {params : Arguments} {body : List Stmt} {scope : Scope} {kws : List (Str × V)} {q : Str × Option Str} {fd : FuncData}
/-- a def keeps what its body's function says -/
theorem fn_D {W : Wd} {N ps : List Str} {k : Nat} {f : DSf} (F : FunD K x qual params body scope [] kws (He.fAd K q) fd) (S : FnScope N ps scope)
    (hb : ∀ (A : Around) (outer : List PySem.Env) (s : Shared) (H : Hp) (E : XK), Room k (A.deeper (envOfC qual scope s.heap.objs.size (He.fAd K q) (.ref (He.codeOf K q)))) → A.guards = some [] →
      DSs W E (cxOf CX0 P w K mg base N qual scope (He.fAd K q) (.ref (He.codeOf K q)) A outer s H E).nox body f) : FnG P w K mg base (k + 1) (He.fAd K q) fd ps (spD W ps.length (dFn N.length f)) := by
  obtain ⟨oc, od, dV, kV, doc, pm, an, cdv, ct, osl, rfl, lk, hcd, _, _⟩ := F.ex
  obtain ⟨c, rfl⟩ := He.codeIn_ref hcd
  have hc : He.codeOf K q = c := He.codeOf_eq lk rfl
  rw [hc] at hb
  refine fnG_of lk hcd S (fun vs H Q E h => h.1) fun A outer s H vs Q E hr hg ⟨hl, xs, S0, μ, hv, hS, hp⟩ => ⟨_, (hb A outer s H E hr hg).nox, ?_⟩
  exact ⟨_, S0, μ, start_rel (N := N) hv, hS, post_fn hS hp⟩
/-- a def as its callers take it; ks, g: how keywords are put -/
structure Callee (P : Program) (w : World) (K : PySem.W.Frag) (mg : Str → Option Value) (base : Heap) (W : Wd) (k : Nat) (x : Str) (n : Nat) (m : Opn) : Prop where
  ex : ∃ (fd : FuncData) (ps : List Str), ps.length = n ∧ FnG P w K mg base k (He.fAd K (x, none)) fd ps (spD W n m) ∧ (∀ (s : Shared) (us : List Value), us.length = n → BindsTo s fd ⟨us, []⟩ (ps.zip us)) ∧ PySem.W.keepIn K (.ref (He.fAd K (x, none))) = true
  glo : mg x = some (.ref (He.fAd K (x, none)))
/-- the same called with keywords ks behind j positional values; pr: the places in the parameters' order of all that is given -/
def permL {α : Type} (pr : List Nat) (xs : List α) : List α := pr.filterMap fun i => xs[i]?
structure CalleeK (P : Program) (w : World) (K : PySem.W.Frag) (mg : Str → Option Value) (base : Heap) (W : Wd) (k : Nat) (x : Str) (n j : Nat) (ks : List Str) (pr : List Nat) (m : Opn) : Prop where
  ex : ∃ (fd : FuncData) (ps : List Str), ps.length = n ∧ FnG P w K mg base k (He.fAd K (x, none)) fd ps (spD W n m) ∧
    (∀ (s : Shared) (us ws : List Value), us.length = j → ws.length = ks.length → BindsTo s fd ⟨us, ks.zip ws⟩ (ps.zip (permL pr (us ++ ws)))) ∧ PySem.W.keepIn K (.ref (He.fAd K (x, none))) = true
  glo : mg x = some (.ref (He.fAd K (x, none)))
theorem Callee.mono {W : Wd} {j k n : Nat} {m : Opn} (C : Callee P w K mg base W j x n m) (h : j ≤ k) : Callee P w K mg base W k x n m := by
  obtain ⟨⟨fd, ps, h1, h2, h3, h4⟩, g⟩ := C
  exact ⟨⟨fd, ps, h1, h2.mono h, h3, h4⟩, g⟩
theorem CalleeK.mono {W : Wd} {i k n j : Nat} {ks : List Str} {pr : List Nat} {m : Opn} (C : CalleeK P w K mg base W i x n j ks pr m) (h : i ≤ k) : CalleeK P w K mg base W k x n j ks pr m := by
  obtain ⟨⟨fd, ps, h1, h2, h3, h4⟩, g⟩ := C
  exact ⟨⟨fd, ps, h1, h2.mono h, h3, h4⟩, g⟩
def dCallN (n : Nat) (m : Opn) (As : DAf) : DEf := fun env S => (As env S).bind fun xs S1 => if xs.length = n then m xs S1 else .bad
/-- the callee runs, within a body -/
theorem runG {X : Cx} {k : Nat} {f : Addr} {ps : List Str} {sp : Sp} {E : XK} {args : Args} {pins : List (Addr × Obj)} {σ : L2.St} {H : Hp} {s : Shared} {Q : VK} {us : List Value} {vs : List V} (F : FnG X.prog X.w X.K X.mg X.base k f fd ps sp) (hr : Room k X.A) (hG : X.A.guards = some [])
    (hb : BindsTo s fd args (ps.zip us)) (I : Inv X pins σ H s) (r : Vals vs us) (h : sp vs H Q E) {first : List Value} {kw : List (Str × Value)} (ha : args = ⟨first, kw⟩) : wpAny (model X.prog X.w) X.A (call (.ref f) first kw) (EP X pins σ Q) X.xe s := by
  subst ha
  refine wpAny_call (codeAny_mono (F.run X.A X.stack s H _ us vs Q E hr hG I.env0 hb r h) fun res s' hq => ?_)
  match res, hq with
  | .error _, hq => exact hq.elim
  | .ok (.ret u), hq => exact I.after hq
  | .ok .next, hq => exact hq.elim
  | .ok .brk, hq => exact hq.elim
  | .ok .cont, hq => exact hq.elim
theorem de_call {W : Wd} {E : XK} {X : Cx} {k n : Nat} {m : Opn} {p pos : Pos} {e : Expr} {es : List Expr} {As : DAf} (C : Callee X.prog X.w X.K X.mg X.base W k x n m) (hr : Room k X.A) (hG : X.A.guards = some []) (hg : Gl X x) (ha : DA W E X (e :: es) As)
    (hdb : (x == ("__debug__" : Str)) = false := by decide) (he : starEach (e :: es) X.env = (false, eval e X.env) :: starEach es X.env := by rfl) (hpl : (backTo pos (starEach es X.env)).any (·.1) = false := by rfl) :
    DE W E X (.Call (.Name x p) (e :: es) [] pos) (dCallN n m As) := by
  obtain ⟨⟨fd, ps, h1, h2, h3, h4⟩, g⟩ := C
  refine ⟨fun pins s σ H Q I ⟨env, S, μ, hE, hS, hp⟩ => wpAny_Call_Name_kw (ld_glob I hg g ?_ hdb)⟩
  refine PySem.W.callWith_K (h₀ := X.base) I.ok.mod.kin h4 (thn (ha.run pos pins s σ H (fun vs H1 => spD W n m vs H1 Q E) I ⟨env, S, μ, hE, hS, hp.bind.imp fun xs S1 H1 μ1 l1 s1 p1 vs rvs => ?_⟩) fun us s1 ⟨vs, H1, I1, r, q⟩ => ⟨I1.kIn, ?_⟩) he hpl
  · split at p1
    · rename_i hn
      exact ⟨by rw [← rvs.length]; exact hn, xs, S1, μ1, rvs, s1, p1⟩
    · exact p1.elim
  · exact runG h2 hr hG (h3 s1 us (by rw [← r.length]; exact q.1)) I1 r q rfl
theorem de_call0 {W : Wd} {E : XK} {X : Cx} {k : Nat} {m : Opn} {p pos : Pos} (C : Callee X.prog X.w X.K X.mg X.base W k x 0 m) (hr : Room k X.A) (hG : X.A.guards = some []) (hg : Gl X x)
    (hdb : (x == ("__debug__" : Str)) = false := by decide) : DE W E X (.Call (.Name x p) [] [] pos) (dCallN 0 m dNil) := by
  obtain ⟨⟨fd, ps, h1, h2, h3, h4⟩, g⟩ := C
  refine ⟨fun pins s σ H Q I ⟨env, S, μ, hE, hS, hp⟩ => wpAny_Call_Name_kw (ld_glob I hg g ?_ hdb)⟩
  exact PySem.W.callWith_K0 I.kIn h4 (runG (us := []) (vs := []) h2 hr hG (h3 s [] rfl) I .nil (show spD W 0 m [] H Q E from ⟨rfl, [], S, μ, rfl, hS, hp⟩) rfl)
/-! keywords -/
abbrev DK (W : Wd) (E : XK) (X : Cx) (kws : List Keyword) (f : DAf) : Prop := PK X kws (tA W E f)
theorem _root_.L2.PK.imp {X : Cx} {e : List Keyword} {t t' : TA} (h : PK X e t) (hi : ∀ σ H Q, t' σ H Q → t σ H Q) : PK X e t' := ⟨fun pos pins s σ H Q I q => h.run pos pins s σ H Q I (hi σ H Q q)⟩
theorem dk_nil {W : Wd} {E : XK} {X : Cx} : DK W E X [] dNil := pk_nil.imp fun σ H Q ⟨env, S, μ, hE, hS, hp⟩ => hp.at_ hS [] rfl
theorem dk_cons {W : Wd} {E : XK} {X : Cx} {nm : Option Str} {e : Expr} {kpos : Pos} {kws : List Keyword} {F : DEf} {As : DAf} (ha : DE W E X e F) (hr : DK W E X kws As) : DK W E X (⟨nm, e, kpos⟩ :: kws) (dCons F As) :=
  (pk_cons ha hr).imp fun σ H Q ⟨env, S, μ, hE, hS, hp⟩ => by
    refine ⟨env, S, μ, hE, hS, hp.bind.imp fun x S1 H1 μ1 l1 s1 p1 v rv => ?_⟩
    refine ⟨env, S1, μ1, hE.mono l1 hS.is, s1, p1.bind.imp fun xs S2 H2 μ2 l2 s2 p2 vs rvs => ?_⟩
    exact p2.at_ s2 _ ⟨v, vs, rfl, rv.mono l2 s1.is, rvs⟩
theorem RelVs.get {W : Wd} {H : Hp} {μ : Mu} : ∀ {xs : List Val} {vs : List V} {i : Nat}, RelVs W H μ xs vs → (xs[i]? = none ∧ vs[i]? = none) ∨ ∃ x v, xs[i]? = some x ∧ vs[i]? = some v ∧ RelV' W H μ x v
  | [], vs, i, h => by simp only [RelVs] at h; subst h; exact .inl ⟨by simp, by simp⟩
  | x :: xs, vs, i, h => by
    simp only [RelVs] at h
    obtain ⟨v, r, rfl, h1, h2⟩ := h
    cases i with
    | zero => exact .inr ⟨x, v, rfl, rfl, h1⟩
    | succ i => simpa using RelVs.get (i := i) h2
theorem RelVs.perm {W : Wd} {H : Hp} {μ : Mu} {xs : List Val} {vs : List V} (h : RelVs W H μ xs vs) : ∀ pr : List Nat, RelVs W H μ (permL pr xs) (permL pr vs)
  | [] => by simp [permL, RelVs]
  | i :: pr => by
    have ih := RelVs.perm h pr
    unfold permL at ih ⊢
    rcases h.get (i := i) with ⟨e1, e2⟩ | ⟨x, v, e1, e2, r⟩
    · simp only [List.filterMap_cons, e1, e2]; exact ih
    · simp only [List.filterMap_cons, e1, e2, RelVs]; exact ⟨v, _, rfl, r, ih⟩
theorem RelVs.append {W : Wd} {H : Hp} {μ : Mu} : ∀ {xs ys : List Val} {vs ws : List V}, RelVs W H μ xs vs → RelVs W H μ ys ws → RelVs W H μ (xs ++ ys) (vs ++ ws)
  | [], ys, vs, ws, h, h' => by simp only [RelVs] at h; subst h; simpa using h'
  | x :: xs, ys, vs, ws, h, h' => by
    simp only [RelVs] at h
    obtain ⟨v, r, rfl, h1, h2⟩ := h
    simp only [List.cons_append, RelVs]
    exact ⟨v, r ++ ws, rfl, h1, RelVs.append h2 h'⟩
theorem Vals.get2 : ∀ {vs : List V} {us : List Value} {i : Nat}, Vals vs us → (vs[i]? = none ∧ us[i]? = none) ∨ ∃ v u, vs[i]? = some v ∧ us[i]? = some u ∧ RelV v u
  | [], us, i, h => by cases h; exact .inl ⟨by simp, by simp⟩
  | v :: vs, us, i, h => by
    cases h with
    | cons r h2 =>
      cases i with
      | zero => exact .inr ⟨v, _, rfl, rfl, r⟩
      | succ i => simpa using Vals.get2 (i := i) h2
theorem vals_perm {vs : List V} {us : List Value} (h : Vals vs us) : ∀ pr : List Nat, Vals (permL pr vs) (permL pr us)
  | [] => .nil
  | i :: pr => by
    have ih := vals_perm h pr
    unfold permL at ih ⊢
    rcases Vals.get2 (i := i) h with ⟨e1, e2⟩ | ⟨v, u, e1, e2, r⟩
    · simp only [List.filterMap_cons, e1, e2]; exact ih
    · simp only [List.filterMap_cons, e1, e2]; exact .cons r ih
def dCallK (n j l : Nat) (pr : List Nat) (m : Opn) (As Ks : DAf) : DEf := fun env S => (As env S).bind fun xs S1 => (Ks env S1).bind fun ys S2 => if xs.length = j ∧ ys.length = l ∧ (permL pr (xs ++ ys)).length = n then m (permL pr (xs ++ ys)) S2 else .bad
theorem tkw {W : Wd} {E : XK} {n j l : Nat} {pr : List Nat} {m : Opn} {As Ks : DAf} {σ : L2.St} {H : Hp} {Q : VK} (h : tE W E (dCallK n j l pr m As Ks) σ H Q) : tA W E As σ H fun vs H1 => tA W E Ks σ H1 fun zs H2 => vs.length = j ∧ zs.length = l ∧ spD W n m (permL pr (vs ++ zs)) H2 Q E := by
  obtain ⟨env, S, μ, hE, hS, hp⟩ := h
  refine ⟨env, S, μ, hE, hS, hp.bind.imp fun xs S1 H1 μ1 l1 s1 p1 vs rvs => ?_⟩
  refine ⟨env, S1, μ1, hE.mono l1 hS.is, s1, p1.bind.imp fun ys S2 H2 μ2 l2 s2 p2 zs rzs => ?_⟩
  split at p2
  · rename_i c
    have r := ((rvs.mono l2 s1.is).append rzs).perm pr
    exact ⟨by rw [← rvs.length]; exact c.1, by rw [← rzs.length]; exact c.2.1, by rw [← r.length]; exact c.2.2, _, S2, μ2, r, s2, p2⟩
  · exact p2.elim
theorem de_callK {W : Wd} {E : XK} {X : Cx} {k n j l : Nat} {m : Opn} {p pos : Pos} {e : Expr} {es : List Expr} {kws : List Keyword} {ks : List Str} {pr : List Nat} {As Ks : DAf} (C : CalleeK X.prog X.w X.K X.mg X.base W k x n j ks pr m) (hr : Room k X.A) (hG : X.A.guards = some []) (hg : Gl X x)
    (ha : DA W E X (e :: es) As) (hkw : DK W E X kws Ks) (hall : (backToKw pos (keywordEach kws X.env)).all (·.1.isSome) = true := by rfl) (hks : (backToKw pos (keywordEach kws X.env)).filterMap (·.1) = ks := by rfl) (hl : ks.length = l := by rfl)
    (hdb : (x == ("__debug__" : Str)) = false := by decide) (he : starEach (e :: es) X.env = (false, eval e X.env) :: starEach es X.env := by rfl)
    (hpl : ((backTo pos (starEach (e :: es) X.env)).any (·.1) || (backToKw pos (keywordEach kws X.env)).any (·.1.isNone)) = false := by rfl) : DE W E X (.Call (.Name x p) (e :: es) kws pos) (dCallK n j l pr m As Ks) := by
  subst hl
  obtain ⟨⟨fd, ps, h1, h2, h3, h4⟩, g⟩ := C
  refine ⟨fun pins s σ H Q I h => wpAny_Call_Name_kw (ld_glob I hg g ?_ hdb)⟩
  refine PySem.W.callWith_KW (h₀ := X.base) I.ok.mod.kin h4 hall (thn (ha.run pos pins s σ H _ I (tkw h)) fun us s1 ⟨vs, H1, I1, r, q⟩ => ?_) hpl he
  refine thn (hkw.run pos pins s1 σ H1 _ I1 q) fun ws s2 ⟨zs, H2, I2, rz, l1, l2, q2⟩ => ⟨I2.kIn, ?_⟩
  rw [hks]
  exact runG h2 hr hG (h3 s2 us ws (by rw [← r.length]; exact l1) (by rw [← rz.length]; exact l2)) I2 (vals_perm (r.append rz) pr) q2 rfl
theorem de_callK0 {W : Wd} {E : XK} {X : Cx} {k n l : Nat} {m : Opn} {p pos : Pos} {kws : List Keyword} {ks : List Str} {pr : List Nat} {Ks : DAf} (C : CalleeK X.prog X.w X.K X.mg X.base W k x n 0 ks pr m) (hr : Room k X.A) (hG : X.A.guards = some []) (hg : Gl X x)
    (hkw : DK W E X kws Ks) (hall : (backToKw pos (keywordEach kws X.env)).all (·.1.isSome) = true := by rfl) (hks : (backToKw pos (keywordEach kws X.env)).filterMap (·.1) = ks := by rfl) (hl : ks.length = l := by rfl)
    (hdb : (x == ("__debug__" : Str)) = false := by decide)
    (hpl : ((backTo pos (starEach [] X.env)).any (·.1) || (backToKw pos (keywordEach kws X.env)).any (·.1.isNone)) = false := by rfl) : DE W E X (.Call (.Name x p) [] kws pos) (dCallK n 0 l pr m dNil Ks) := by
  subst hl
  obtain ⟨⟨fd, ps, h1, h2, h3, h4⟩, g⟩ := C
  refine ⟨fun pins s σ H Q I h => wpAny_Call_Name_kw (ld_glob I hg g ?_ hdb)⟩
  have h' := tkw h
  refine PySem.W.callWith_KW0 (h₀ := X.base) (first := []) I.ok.mod.kin h4 hall ?_ hpl
  obtain ⟨env, S, μ, hE, hS, hp⟩ := h'
  have q := hp.at_ hS [] rfl
  refine thn (hkw.run pos pins s σ H _ I q) fun ws s2 ⟨zs, H2, I2, rz, l1, l2, q2⟩ => ⟨I2.kIn, ?_⟩
  rw [hks]
  exact runG h2 hr hG (h3 s2 [] ws rfl (by rw [← rz.length]; exact l2)) I2 (vals_perm (show Vals ([] ++ zs) ([] ++ ws) from by simpa using rz) pr) q2 rfl
/-- made from the head's facts -/
theorem callee_of {W : Wd} {ps : List Str} {k : Nat} {m : Opn} {dflt : List (Str × V)} (F : FunD K x x params body scope [] dflt (He.fAd K (x, none)) fd) (h : FnG P w K mg base k (He.fAd K (x, none)) fd ps (spD W ps.length m)) (g : mg x = some (.ref (He.fAd K (x, none))))
    (hb : ∀ (kV doc pm : Value) (an : Option Addr) (cdv ct : Value) (us : List Value), us.length = ps.length → bindArgs (PySem.W.fnOf x x params body scope .none kV doc pm an cdv ct) ⟨us, []⟩ = pure (ps.zip us)) : Callee P w K mg base W k x ps.length m :=
  ⟨⟨fd, ps, rfl, h, fun s us hl => F.bindsA (ps := ps) hb s us hl, F.kp⟩, g⟩
theorem calleeK_of {W : Wd} {ps : List Str} {k j : Nat} {m : Opn} {ks : List Str} {pr : List Nat} {dflt : List (Str × V)} (F : FunD K x x params body scope [] dflt (He.fAd K (x, none)) fd) (h : FnG P w K mg base k (He.fAd K (x, none)) fd ps (spD W ps.length m)) (g : mg x = some (.ref (He.fAd K (x, none))))
    (hb : ∀ (kV doc pm : Value) (an : Option Addr) (cdv ct : Value) (us ws : List Value), us.length = j → ws.length = ks.length → bindArgs (PySem.W.fnOf x x params body scope .none kV doc pm an cdv ct) ⟨us, ks.zip ws⟩ = pure (ps.zip (permL pr (us ++ ws)))) : CalleeK P w K mg base W k x ps.length j ks pr m := by
  refine ⟨⟨fd, ps, rfl, h, fun s us ws h1 h2 => ?_, F.kp⟩, g⟩
  obtain ⟨oc, od, dV, kV, doc, pm, an, cdv, ct, osl, rfl, lk, hcd, hD, hK⟩ := F.ex
  rcases hD with ⟨_, rfl⟩ | ⟨e, _⟩
  · exact .of_eq (hb kV doc pm an cdv ct us ws h1 h2)
  · exact absurd rfl e
end
/-! ### {} -/
section
variable {W : Wd} {E : XK} {X : Cx} {pos : Pos}
theorem de_dic : DE W E X (.Dict [] [] pos) (dC .dic) := pe_dnewK.imp fun σ H Q ⟨env, S, μ, hE, hS, hp⟩ => fun p hp0 => by
  refine hp _ _ (Le.new hp0) (hS.new hp0) _ ?_
  simp only [RelV', RelD]
  exact ⟨p, rfl, outM.new hS.is hp0, upd_same⟩
/-! ### repr -/
def bRepr : Val → Sto → Out Val := fun x S => match pyV x S with
  | some p => if p.showable = true ∧ p.hasDict = false ∧ p.depth ≤ 30 ∧ p.shown.length ≤ szL then .ok (.d (.str p.shown)) S else .bad
  | none => .bad
def rReprA (K : PySem.W.Frag) : List V → Hp → VK → Prop := fun vs H Q => ∃ v p, vs = [v] ∧ Dp K H v p ∧ p.showable = true ∧ p.hasDict = false ∧ p.depth ≤ 30 ∧ p.shown.length ≤ szL ∧ Q (.str p.shown) H
theorem call_reprA (hG : X.A.guards = some []) (hu : X.A.units + 64 < cLine) : CallR X (.builtin "repr") (rReprA X.K) := by
  intro pins s σ H xs us Q I r h
  obtain ⟨v, p, rfl, hd, h1, h2, h3, h4, q⟩ := h
  obtain ⟨u, rfl, ru⟩ := vals1 r
  have fin : ∀ (h' : Heap) (t : Tok) (tk : Nat), (∀ b o, s.heap.get? b = some o → h'.get? b = some o) → EP X pins σ Q (.str p.shown t) { s with heap := h', toks := tk } := fun h' t tk k => ⟨.str p.shown, H, I.kept k, ⟨_, rfl⟩, q⟩
  have hz : p.shown.length ≤ sizeLine := by rw [szL_eq]; exact h4
  obtain ⟨as, rd⟩ := Dp.reads I p v u hd ru
  cases hd with
  | non => cases ru; exact PySem.P.repr_of_none (fin s.heap _ _ fun _ _ e => e)
  | bl b => cases ru; exact PySem.P.repr_of_bool (fin s.heap _ _ fun _ _ e => e)
  | int i =>
    obtain ⟨t, rfl⟩ := ru
    simp only [PyData.showable, decide_eq_true_eq] at h1
    exact PySem.P.repr_of_int h1 (fin s.heap _ _ fun _ _ e => e)
  | str z =>
    obtain ⟨t, rfl⟩ := ru
    exact PySem.P.repr_of_str (fin s.heap _ _ fun _ _ e => e) hz
  | lst hs ha =>
    cases ru
    exact repr_of_reads' rd h1 (fun z => absurd (h2.symm.trans z) Bool.false_ne_true) hG (by omega) (fun _ _ e => e) (fun h' t tk k => fin h' t tk k) hz
  | tup hs ha =>
    cases ru
    exact repr_of_reads' rd h1 (fun z => absurd (h2.symm.trans z) Bool.false_ne_true) hG (by omega) (fun _ _ e => e) (fun h' t tk k => fin h' t tk k) hz
theorem dc_repr : DCall W E (rReprA W.K) (o1 bRepr) := dcall1 fun x S H μ v Q s rv p => by
  unfold bRepr at p
  split at p
  · rename_i d e
    split at p
    · rename_i c
      exact ⟨v, d, rfl, pyV_rel s rv e, c.1, c.2.1, c.2.2.1, c.2.2.2, p.at_ s _ (rel_str _)⟩
    · exact p.elim
  · exact p.elim
theorem boot_repr' : bootBuiltins "repr" = some (.builtin "repr") := by decide +kernel
end
end Dn
set_option Elab.async false
set_option linter.all false
set_option maxRecDepth 100000
set_option maxHeartbeats 4000000
/-! ### t[::-1] of a tuple or a list -/
namespace Dn
open PySem PySem.Spec PyProof.Rows L2 GxR HT
section
variable {prog : Program} {w : World} {A : Around} {E : Value → Shared → Prop} {s : Shared}
theorem back_pick (xs : Array Value) : ((List.range xs.size).filterMap fun (k : Nat) => xs[(((xs.size : Int) - 1) + (k : Int) * (-1)).toNat]?).toArray = xs.toList.reverse.toArray := by
  congr 1
  refine List.ext_getElem? fun i => ?_
  have key : ∀ k ∈ List.range xs.size, xs[(((xs.size : Int) - 1) + (k : Int) * (-1)).toNat]? = some (xs.toList.reverse.getD k .none) := fun k hk => by
    have hk' : k < xs.size := List.mem_range.mp hk
    have e : (((xs.size : Int) - 1) + (k : Int) * (-1)).toNat = xs.size - 1 - k := by omega
    rw [e, List.getD_eq_getElem?_getD, List.getElem?_reverse (by simpa using hk')]
    have hl : xs.size - 1 - k < xs.size := by omega
    simp [hl]
  have e2 : (List.range xs.size).filterMap (fun (k : Nat) => xs[(((xs.size : Int) - 1) + (k : Int) * (-1)).toNat]?) = (List.range xs.size).map fun k => xs.toList.reverse.getD k .none := by
    have : ∀ l : List Nat, (∀ k ∈ l, xs[(((xs.size : Int) - 1) + (k : Int) * (-1)).toNat]? = some (xs.toList.reverse.getD k .none)) → l.filterMap (fun (k : Nat) => xs[(((xs.size : Int) - 1) + (k : Int) * (-1)).toNat]?) = l.map fun k => xs.toList.reverse.getD k .none := by
      intro l
      induction l with
      | nil => intro _; rfl
      | cons a r ih => intro h; rw [List.filterMap_cons, h a List.mem_cons_self, List.map_cons, ih fun k hk => h k (List.mem_cons_of_mem _ hk)]
    exact this _ key
  rw [e2]
  by_cases hi : i < xs.size
  · rw [List.getElem?_map, List.getElem?_range hi]
    have hl : i < xs.toList.reverse.length := by simpa using hi
    simp only [Option.map_some, List.getD_eq_getElem?_getD, List.getElem?_eq_getElem hl, Option.getD_some]
  · rw [List.getElem?_eq_none (by simp; omega), List.getElem?_eq_none (by simp; omega)]
theorem slice_back {sl : Addr} {vl vu vs : Value} {n : Nat} {Q : Int × Int × Nat → Shared → Prop} (hs : s.heap.IsSliceOf sl vl vu vs) (pl : IsPart vl none) (pu : IsPart vu none) (ps : IsPart vs (some (-1)))
    (h : Q ((n : Int) - 1, -1, n) s) : wpAny (model prog w) A (Builtin.Slice.sliceApplied (.ref sl) (pure (n : Int))) Q E s := by
  obtain ⟨o, ho, hc, hd⟩ := id hs
  cases pl
  cases pu
  cases ps with
  | int i t =>
    unfold Builtin.Slice.sliceApplied Builtin.Slice.sliceFields
    refine wpAny_bind (wpAny_bind (wpAny_field ho hd (x := .none) rfl (wpAny_bind (wpAny_field ho hd (x := .none) rfl (wpAny_bind (wpAny_field ho hd (x := .int (-1) t) rfl (wpAny_pure ?_)))))))
    refine wpAny_bind (slicePart_int ?_)
    show wpAny _ _ (if ((-1 : Int) == 0) = true then _ else _) _ _ s
    rw [if_neg (by decide)]
    refine wpAny_bind (slicePart_none (wpAny_bind (slicePart_none (wpAny_bind (wpAny_pure ?_)))))
    have e : Builtin.Slice.slicePlaces ((n : Int) - 1) (-1) (-1) = n := by
      unfold Builtin.Slice.slicePlaces
      rw [if_neg (by decide)]
      by_cases hn : n = 0
      · subst hn; decide
      · rw [if_pos (by omega)]
        have : ((n : Int) - 1 - -1 - 1) / (- -1) + 1 = n := by
          have e2 : (- -1 : Int) = 1 := by decide
          rw [e2, Int.ediv_one]
          omega
        rw [this]
        omega
    show wpAny _ _ (pure ((n : Int) - 1, (-1 : Int), Builtin.Slice.slicePlaces ((n : Int) - 1) (-1) (-1))) _ _ s
    rw [e]
    exact wpAny_pure h
theorem getItem_tuple_back {t sl : Addr} {items : Array Value} {vl vu vs : Value} {Q : Value → Shared → Prop} (ht : IsTup s.heap t items) (hs : s.heap.IsSliceOf sl vl vu vs) (pl : IsPart vl none) (pu : IsPart vu none) (ps : IsPart vs (some (-1)))
    (h : Q (.ref s.heap.objs.size) { s with heap := s.heap.push { cls := .type "tuple", data := .seq items.toList.reverse.toArray } }) (hsz : items.size ≤ sizeLine) : wpAny (model prog w) A (getItem (.ref t) (.ref sl)) Q E s := by
  have hz : sizeOk (.seq items.toList.reverse.toArray) := by
    show items.toList.reverse.toArray.size ≤ sizeLine
    simpa using hsz
  obtain ⟨o, ho, hc, hd⟩ := id hs
  have hT : s.TypeIs (.ref sl) "slice" := ⟨o, ho, hc⟩
  unfold getItem
  try with_reducible refine wpAny_holding ?_
  first | refine wpAny_bind (wpAny_pure ?_) | skip
  refine wpAny_bind (wpAny_sequenceKey ht.typeIs (by decide) ?_)
  refine wpAny_bind (wpAny_callSpecial?_slot (name := Str.ofString "__getitem__") ht.typeIs PyProof.Rows.slot_tuple_getitem (wpAny_call_entry PyProof.Rows.slot_tuple_getitem ht.typeIs entry_tuple_getitem ?_ (args_tuple_getitem _ _)))
  show wpAny _ _ (Builtin.Tuple.tupleItemsOf (.ref t) >>= _) _ _ s
  refine wpAny_bind (tupleItemsOf_ ht (wpAny_bind (wpAny_typeOf hT ?_)))
  rw [if_pos (by decide)]
  refine wpAny_bind (slice_back hs pl pu ps ?_)
  have no : ¬ ((((items.size : Int) - 1) == 0 && (-1 : Int) == 1 && items.size == items.size) = true) := by simp
  show wpAny _ _ (if (((items.size : Int) - 1) == 0 && (-1 : Int) == 1 && items.size == items.size) = true then _ else _) _ _ s
  rw [if_neg no, back_pick]
  first
    | exact wpAny_bind (m := Builtin.Tuple.tupleExact _) (wpAny_newObj_type (wpAny_pure ⟨_, rfl, wpAny_pure h⟩) hz)
    | exact wpAny_bind (m := Builtin.Tuple.tupleExact _) (wpAny_newObj_type (wpAny_bind (wpAny_pure (wpAny_pure ⟨_, rfl, wpAny_pure h⟩))) hz)
    | exact wpAny_bind (wpAny_bind (m := Builtin.Tuple.tupleExact _) (wpAny_newObj_type (wpAny_pure (wpAny_pure ⟨_, rfl, wpAny_pure h⟩)) hz))
    | exact wpAny_bind (wpAny_bind (m := Builtin.Tuple.tupleExact _) (wpAny_newObj_type (wpAny_pure ⟨_, rfl, wpAny_pure h⟩) hz))
end
section
variable {X : Cx} {W : Wd} {E : XK}
def tRevA (K : PySem.W.Frag) (te : TE) : TE := fun σ H Q => te σ H fun x H1 => ∃ a xs, x = .ref a ∧ ((SqL K H1 a xs ∧ ∀ p, H1 p = none → Q (.ref p) (upd H1 p (.lst xs.reverse))) ∨ (SqT K H1 a xs ∧ ∀ p, H1 p = none → Q (.ref p) (upd H1 p (.tup xs.reverse))))
theorem pe_back {e : Expr} {te : TE} {k : Nat} {p1 p2 p3 pos : Pos} (he : PE X e te) : PE X (.Subscript e (.Slice none none (some (.UnaryOp .USub (.Constant (.int 1) k p1) p2)) p3) pos) (tRevA X.K te) := by
  refine ⟨fun pins s0 σ H Q I h => Subscript_ (thn (he.run pins s0 σ H _ I h) fun v s1 ⟨x, H1, I1, r1, a, xs, ex, q⟩ => ?_)⟩
  subst ex
  cases r1
  have step : PO X (some (.UnaryOp .USub (.Constant (.int 1) k p1) p2)) (tPart (tUn (rU fun i => .int (-i)) (tC (.int 1)))) := po_some (pe_un un_neg pe_int)
  refine wpAny_Slice (thn (po_none.run pins s1 σ H1 (fun o H2 => o = none ∧ H2 = H1) I1 ⟨rfl, rfl⟩) fun vl s2 ⟨l, H2, I2, pl, el, e2⟩ => ?_)
  subst el e2
  refine thn (po_none.run pins s2 σ H2 (fun o H3 => o = none ∧ H3 = H2) I2 ⟨rfl, rfl⟩) fun vu s3 ⟨u, H3, I3, pu, eu, e3⟩ => ?_
  subst eu e3
  refine thn (step.run pins s3 σ H3 (fun o H4 => o = some (-1) ∧ H4 = H3) I3 ⟨1, rfl, -1, rfl, rfl, rfl⟩) fun vs s4 ⟨o, H4, I4, ps, eo, e4⟩ => ?_
  subst eo e4
  have I5 : Inv X pins σ H4 { s4 with heap := s4.heap.push { cls := .type "slice", data := .fields #[vl, vu, vs] } } := I4.kept (t' := s4.toks) fun b ob z => Heap.get?_push_of_some _ z
  show wpAny (model X.prog X.w) X.A (subscriptTail e (.Slice none none (some (.UnaryOp .USub (.Constant (.int 1) k p1) p2)) p3) (.ref a) (.ref s4.heap.objs.size)) (EP X pins σ Q) X.xe { s4 with heap := s4.heap.push { cls := .type "slice", data := .fields #[vl, vu, vs] } }
  rcases q with ⟨hx, q⟩ | ⟨hx, q⟩
  · obtain ⟨its, r, ht, hz⟩ := I5.list hx
    have hlen := r.length
    refine tail_any (ops := [.ref a, .ref s4.heap.objs.size]) ht.isList.typeIs (PySem.slot_list_getitem.lookup) ?_ (by with_unfolding_all rfl)
    refine wpAny_getItem_list_slice ht.isList (Heap.IsSliceOf.new _ vl vu vs) pl pu ps (by decide) ?_ (by rw [List.size_toArray]; omega)
    rw [PySem.W.krv_pick]
    exact ⟨.ref _, _, I5.laid (t' := s4.toks) (o := .lst xs.reverse) (fun b ob z => Heap.get?_push_of_some _ z) (Nat.le_refl _) ⟨by rw [List.length_reverse]; exact hz, _, 0, r.reverse, Heap.get?_push_size _ rfl⟩, rfl, q _ (I5.hok.fresh (Nat.le_refl _))⟩
  · obtain ⟨its, r, ht, hz⟩ := I5.tuple hx
    have hlen := r.length
    refine tail_any (ops := [.ref a, .ref s4.heap.objs.size]) ht.typeIs (PyProof.Rows.slot_tuple_getitem.lookup) ?_ (by with_unfolding_all rfl)
    refine getItem_tuple_back ht (Heap.IsSliceOf.new _ vl vu vs) pl pu ps ?_ (by rw [List.size_toArray]; omega)
    exact ⟨.ref _, _, I5.laid (t' := s4.toks) (o := .tup xs.reverse) (fun b ob z => Heap.get?_push_of_some _ z) (Nat.le_refl _) ⟨by rw [List.length_reverse]; exact hz, _, r.reverse, _, Heap.get?_push_size _ rfl, rfl, 0, rfl⟩, rfl, q _ (I5.hok.fresh (Nat.le_refl _))⟩
def oBack : Val → Sto → Out Val := fun x S => match x with
  | .d (.tup ds) => .ok (.d (.tup ds.reverse)) S
  | _ => match seqL x S with
    | some ds => .ok (.d (.lst ds.reverse)) S
    | none => .bad
theorem de_back {a : Expr} {f : DEf} {k : Nat} {p1 p2 p3 pos : Pos} (hK : X.K = W.K) (ha : DE W E X a f) : DE W E X (.Subscript a (.Slice none none (some (.UnaryOp .USub (.Constant (.int 1) k p1) p2)) p3) pos) (dUn oBack f) :=
  (pe_back ha).imp fun σ H Q ⟨env, S, μ, hE, hS, hp⟩ => ⟨env, S, μ, hE, hS, hp.bind.imp fun x S1 H1 μ1 l1 s1 p1 v rv => by
    rw [hK]
    unfold oBack at p1
    split at p1
    · obtain ⟨p, vs, rfl, q1, r1⟩ := seqT_rel rv rfl
      refine ⟨p, vs, rfl, .inr ⟨q1, fun c hc => ?_⟩⟩
      obtain ⟨k, r⟩ := post_tup p1 s1 hc r1.reverse
      exact k _ r
    · split at p1
      · rename_i ds e0
        obtain ⟨p, vs, rfl, q1, r1⟩ := seqL_rel s1 rv e0
        refine ⟨p, vs, rfl, .inl ⟨q1, fun c hc => ?_⟩⟩
        obtain ⟨k, r⟩ := post_lst p1 s1 hc r1.reverse
        exact k _ r
      · exact p1.elim⟩
end
end Dn
set_option Elab.async false
set_option linter.all false
set_option maxRecDepth 100000
set_option maxHeartbeats 4000000
/-! ### short words for the printed derivations -/
namespace Dn
open PySem PySem.Spec PyProof.Rows L2 GxR Gx
section
variable {W : Wd} {E : XK} {X : Cx} {pos : Pos}
theorem dv (i : Nat) {x : Str} (hN : X.N[i]? = some x := by rfl) (hv : Vis X.env.scope x := by first | exact Or.inl rfl | exact Or.inr (Or.inl rfl) | exact Or.inr (Or.inr rfl)) (hd : (x == ("__debug__" : Str)) = false := by decide)
    (hcd : (x == ("__classdict__" : Str)) = false := by decide) : DE W E X (.Name x pos) (dVar i) := de_var hN hv hd hcd
theorem dgn (i : Nat) {x : Str} (hn : X.N.Nodup) (hi : X.N[i]? = some x := by rfl) (hx : Loc X.env.scope x := by first | exact Or.inl rfl | exact Or.inr rfl) (hf : X.fn x = true ∨ X.env.scope.names.lookup x = some .local := by first | exact .inl rfl | exact .inr rfl) : DG W E X (.Name x pos) (dgName i) := dg_name hn hi hx hf
theorem dgwn {vs : List Nat} (i : Nat) {x : Str} (hn : X.N.Nodup) (hv : i ∈ vs := by decide) (hi : X.N[i]? = some x := by rfl) (hx : Loc X.env.scope x := by first | exact Or.inl rfl | exact Or.inr rfl) (hf : X.fn x = true ∨ X.env.scope.names.lookup x = some .local := by first | exact .inl rfl | exact .inr rfl) : DGw W E vs X (.Name x pos) (dgName i) := dgw_name hv hn hi hx hf
theorem dset (i : Nat) {x : Str} {e : Expr} {F : DEf} {pos' : Pos} (hn : X.N.Nodup) (he : DE W E X e F) (hi : X.N[i]? = some x := by rfl) (hx : Loc X.env.scope x := by first | exact Or.inl rfl | exact Or.inr rfl) (hs : swapsWith e (some (.Name x pos')) pos.line X.env = pure false := by rfl)
    (hf : X.fn x = true ∨ X.env.scope.names.lookup x = some .local := by first | exact .inl rfl | exact .inr rfl) : DS W E X (.Assign [.Name x pos'] e pos) (dAsg F (dgName i)) := ds_set hn hi hx he hs hf
end
end Dn
set_option Elab.async false
set_option linter.all false
set_option maxRecDepth 100000
set_option maxHeartbeats 2000000
/-! enumerate over a tuple, over a list -/
namespace Dn
open PySem PySem.Spec PyProof.Rows L2 GxR
theorem en_new (l : Addr) (items : Array Value) (n : Nat) (dd : Option Addr) (sl : Array (Option Value)) :
    Meets (Builtin.«enumerate.__new__» ⟨[.type "enumerate", .ref l], []⟩) (fun _ R s => s.heap.get? l = some { cls := .type "tuple", dict := dd, data := .seq items n, slots := sl } ∧
      R (.ok (.ret (.ref (s.heap.push { cls := .type "tuple_iterator", data := .fields #[.ref l, .int 0 0] }).objs.size)))
        { s with heap := (s.heap.push { cls := .type "tuple_iterator", data := .fields #[.ref l, .int 0 0] }).push { cls := .type "enumerate", data := .fields #[.none, .bool false, .ref s.heap.objs.size, rawInt 0, .none, .none] } }) :=
  .of_wp fun prog w A R s h => by
    obtain ⟨hp, g, dr, tk, os⟩ := s
    obtain ⟨hl, h⟩ := h
    have hsub := sub_enumerate
    have hT : Heap.IsTuple (Shared.heap ⟨hp, g, dr, tk, os⟩) l items := ⟨_, hl, rfl, n, rfl⟩
    wp_walk using AutoSeq1.wpAny_loadPart' hl
    refine wpAny_stack_any fun st => wpAny_pure ?_
    split
    · rename_i c _ _ _ _ _
      cases (c == Value.type "enumerate")
      · wp_walk using AutoSeq1.wpAny_loadPart' hl, wpAny_pyIter_tuple hT
        exact ⟨_, rfl, h⟩
      · wp_walk using AutoSeq1.wpAny_loadPart' hl, wpAny_pyIter_tuple hT
        exact ⟨_, rfl, h⟩
    · wp_walk using AutoSeq1.wpAny_loadPart' hl, wpAny_pyIter_tuple hT
      exact ⟨_, rfl, h⟩
section
variable {prog : Program} {w : World} {A : Around} {E : Value → Shared → Prop} {s : Shared}
theorem en_call {l : Addr} {items : Array Value} {Q : Value → Shared → Prop} (hL : IsTup s.heap l items)
    (h : ∀ h', IsEnum h' (s.heap.objs.size + 1) s.heap.objs.size 0 .none → h'.IsTupleIter s.heap.objs.size l 0 → (∀ b o, s.heap.get? b = some o → h'.get? b = some o) → Q (.ref (s.heap.objs.size + 1)) { s with heap := h' }) :
    wpAny (model prog w) A (call (.type "enumerate") [.ref l]) Q E s := by
  obtain ⟨⟨c, dct, dt, sl⟩, hl, hc, n, hd⟩ := hL
  replace hc : c = .type "tuple" := hc
  replace hd : dt = .seq items n := hd
  subst hc hd
  refine callType_new F.called_enumerate (by decide) (F.typeCall_enumerate_1 _) (F.newCall_enumerate_1 _) (fun obj => F.args_object_init_2 obj _) F.entry_enumerate_new (en_new l items n dct sl) ⟨hl, ?_⟩
  have hz : (s.heap.push { cls := .type "tuple_iterator", data := .fields #[.ref l, .int 0 0] }).objs.size = s.heap.objs.size + 1 := Heap.size_push ..
  show _ ∧ _
  rw [hz]
  have he : IsEnum ((s.heap.push { cls := .type "tuple_iterator", data := .fields #[.ref l, .int 0 0] }).push
      { cls := .type "enumerate", data := .fields #[.none, .bool false, .ref s.heap.objs.size, rawInt 0, .none, .none] }) (s.heap.objs.size + 1) s.heap.objs.size 0 .none := by
    have q := Heap.get?_push_size (s.heap.push { cls := .type "tuple_iterator", data := .fields #[.ref l, .int 0 0] })
      (o := { cls := .type "enumerate", data := .fields #[.none, .bool false, .ref s.heap.objs.size, rawInt 0, .none, .none] }) rfl
    rw [hz] at q; exact q
  exact ⟨⟨_, he, rfl⟩, h _ he ⟨_, Heap.get?_push_of_some _ (Heap.get?_push_size _ rfl), rfl, rfl⟩ fun b o x => Heap.get?_push_of_some _ (Heap.get?_push_of_some _ x)⟩
end
/-- the tuple at a as it stands at each turn, each item in a new pair -/
def IteT (K : PySem.W.Frag) (a : Addr) : It :=
  ⟨fun i H => ∃ (xs : List V) (x : V), SqT K H a xs ∧ xs[i]? = some x, fun i H v H' => ∃ T x, v = .ref T ∧ H T = none ∧ H' = upd H T (.tup [.int (i : Nat), x]) ∧ ∀ xs, SqT K H a xs → xs[i]? = some x, fun i H => ∃ xs : List V, SqT K H a xs ∧ xs.length = i⟩
theorem turn_enT {P : Program} {w : World} {K : PySem.W.Frag} {elts : List Expr} {kk : Nat} {tpos : Pos} (a e it : Addr) :
    Turn P w K (.Tuple elts kk tpos) (IteT K a) [e, it] e (fun i h => (∃ old, IsEnum h e it ((i : Nat) : Int) old) ∧ h.IsTupleIter it a i ∧ e ≠ it ∧ e ≠ a ∧ a ≠ it) where
  mem := by simp
  obj := fun i h st b hb => by
    obtain ⟨⟨old, he⟩, ⟨o, ho, hc, hd⟩, _⟩ := st
    have q : b = e ∨ b = it := by simpa using hb
    rcases q with z | z
    · rw [z]; exact ⟨_, he, fun v q => nomatch q⟩
    · rw [z]; exact ⟨o, ho, fun v q => by rw [hd] at q; cases q⟩
  keep := fun i h h' st k => let ⟨⟨old, he⟩, hi, hne⟩ := st; ⟨⟨old, k e (by simp) _ he⟩, hi.at fun o q => k it (by simp) o q, hne⟩
  item := by
    intro X hP hw hK hc i pins s σ H E I hf st hg
    subst hP hw hK
    obtain ⟨⟨old, he⟩, hit, hne, hea, hai⟩ := st
    obtain ⟨xs, x, hq, hx⟩ := hg
    obtain ⟨its, rv, p, hz⟩ := I.tuple hq
    obtain ⟨u, hu, ru⟩ := rv.get hx
    have hel : e < s.heap.objs.size := Heap.lt_size he
    have hil : it < s.heap.objs.size := by obtain ⟨_, q, _⟩ := hit; exact Heap.lt_size q
    have hlt : i < its.toArray.size := by
      have := (List.getElem?_eq_some_iff.mp hu).1
      simpa using this
    refine wpAny_pyNext_enum_itemD (Draws.tuple (A := X.A.in1) (show X.A.in1.handled = none from I.ok.hd hc) it a hai its.toArray) he ⟨hit, p⟩ hlt hne (by simp [hne, hea]) fun x' h' tk hp ho hst hT hsz hk => ?_
    obtain ⟨hit', hp'⟩ := hst
    have ex : x' = u := by
      have hu' : its.toArray[i]? = some u := by simpa using hu
      rw [hu'] at hp
      cases hp; rfl
    subst ex
    refine ⟨_, rfl, wpAny_letOwnedTupleGo_enum (s := { s with heap := h', toks := tk + 1 }) ho fun h'' he' sb => ?_⟩
    have hT2 : h''.get? s.heap.objs.size = some { cls := .type "tuple", data := .seq #[.int i tk, x'] } := (sb.2 _ (Nat.ne_of_gt hel)).trans hT
    have new : ObjOk X.prog X.w (upd H s.heap.objs.size (.tup [.int (i : Nat), x])) h'' s.heap.objs.size (.tup [.int (i : Nat), x]) :=
      ⟨by show 2 ≤ sizeLine; decide, [.int i tk, x'], .cons ⟨_, rfl⟩ (.cons ru .nil), ⟨_, hT2, rfl, _, rfl⟩⟩
    have I1 : Inv X pins σ (upd H s.heap.objs.size (.tup [.int (i : Nat), x])) { s with heap := h'', toks := tk + 1 } :=
      I.turnedNew (ch := [e, it]) (fun b ob hb q => (sb.2 b (fun z => hb (by simp [z]))).trans (hk b ob (fun z => hb (by simp [z])) (fun z => hb (by simp [z])) q)) hf (Nat.le_refl _) new
    refine ⟨.ref s.heap.objs.size, _, I1, rfl, ⟨_, x, rfl, I.hok.fresh (Nat.le_refl _), rfl, fun ys hy => by rw [I.tuple_inj hy hq]; exact hx⟩, ⟨⟨x', ?_⟩, hit'.at fun o q => (sb.2 it (Ne.symm hne)).trans q, hne, hea, hai⟩, fun b hb => ?_⟩
    · have e1 : ((i + 1 : Nat) : Int) = (i : Int) + 1 := by omega
      rw [e1]; exact he'
    · have hb' : b < s.heap.objs.size := by
        have q : b = e ∨ b = it := by simpa using hb
        rcases q with z | z
        · rw [z]; exact hel
        · rw [z]; exact hil
      rw [upd_ne (Nat.ne_of_lt hb')]
      exact (hf b hb).1
  done := by
    intro X hP hw hK hc i pins s σ H E I hf st hg
    subst hP hw hK
    obtain ⟨⟨old, he⟩, hit, hne, hea, hai⟩ := st
    obtain ⟨xs, hq, hx⟩ := hg
    obtain ⟨its, rv, p, hz⟩ := I.tuple hq
    obtain ⟨f0, f1, f2, f3, f4, f5⟩ := hf it (by simp)
    have hl := rv.length
    have ei : i = its.toArray.size := by simp; omega
    subst ei
    exact wpAny_pyNext_enum_endD (Draws.tuple (A := X.A.in1) (show X.A.in1.handled = none from I.ok.hd hc) it a hai its.toArray) he ⟨hit, p⟩ fun h' eb => ⟨rfl, I.turned (t' := s.toks) (fun b o hb q => eb b o hb q) f0 f1 f3 f4 f5⟩
  self := fun A i s Q E st h => let ⟨⟨_, he⟩, _⟩ := st; wpAny_pyIter_enum he h
def iEnA (K : PySem.W.Frag) (ta : TA) : TI := fun σ H R => ta σ H fun vs H1 => ∃ a xs, vs = [.ref a] ∧ ((SqL K H1 a xs ∧ R (Ite K a) H1) ∨ (SqT K H1 a xs ∧ R (IteT K a) H1))
theorem pi_enA {X : Cx} {e : Expr} {ta : TA} {p pos tpos : Pos} {elts : List Expr} {kk : Nat} (hg : Gl X "enumerate") (hm : X.mg "enumerate" = none) (ha : PA X [e] ta) (hs : starEach [e] X.env = [(false, eval e X.env)] := by rfl) :
    PI X (.Tuple elts kk tpos) (.Call (.Name "enumerate" p) [e] [] pos) (iEnA X.K ta) := by
  refine ⟨fun pins s σ H R I h => ?_⟩
  refine Call_ (ld_blt I hg hm boot_enumerate (PyProof.Rows.callWith_type1 (thn (ha.run pos pins s σ H _ I h) fun us s1 ⟨vs, H1, I1, r1, q1⟩ => ?_) hs rfl))
  obtain ⟨a, xs, ex, hq⟩ := q1
  subst ex
  have fresh : ∀ b ∈ [s1.heap.objs.size + 1, s1.heap.objs.size], FpOk X pins H1 b := fun b hb => by
    have q : b = s1.heap.objs.size + 1 ∨ b = s1.heap.objs.size := by simpa using hb
    have hle : s1.heap.objs.size ≤ b := by omega
    exact I1.fpOk hle (I1.hok.fresh hle)
  cases r1 with
  | cons r rr =>
    cases rr
    cases r
    rcases hq with ⟨hq, q⟩ | ⟨hq, q⟩
    · obtain ⟨its, rv, p', hz⟩ := I1.list hq
      refine call_enumerate_list p'.isList fun h' he hit hsz hk => wpAny_pyIter_enum he ?_
      have I2 : Inv X pins σ H1 { s1 with heap := h' } := I1.kept (t' := s1.toks) hk
      exact ⟨s1.heap.objs.size + 1, [s1.heap.objs.size + 1, s1.heap.objs.size], _, _, H1, rfl, I2, turn_enum a (s1.heap.objs.size + 1) s1.heap.objs.size, ⟨⟨.none, he⟩, hit, Nat.succ_ne_self _⟩, fresh, q⟩
    · obtain ⟨its, rv, p', hz⟩ := I1.tuple hq
      have hal : a < s1.heap.objs.size := by obtain ⟨o, q, _⟩ := p'; exact Heap.lt_size q
      refine en_call p' fun h' he hit hk => wpAny_pyIter_enum he ?_
      have I2 : Inv X pins σ H1 { s1 with heap := h' } := I1.kept (t' := s1.toks) hk
      exact ⟨s1.heap.objs.size + 1, [s1.heap.objs.size + 1, s1.heap.objs.size], _, _, H1, rfl, I2, turn_enT a (s1.heap.objs.size + 1) s1.heap.objs.size, ⟨⟨.none, he⟩, hit, Nat.succ_ne_self _, Nat.ne_of_gt (Nat.lt_succ_of_lt hal), Nat.ne_of_lt hal⟩, fresh, q⟩
/-- the pairs that enumerate tells -/
def enD (ds : List D) : List D := ((rngD 0 ds.length).zip ds).map fun p => .tup [p.1, p.2]
def iEnum (xs : List Val) (S : Sto) : Out Itm := match xs with
  | [x] => (match seqT x with
    | some ds => .ok ⟨enD ds, []⟩ S
    | none => match seqL x S with
      | some ds => .ok ⟨enD ds, wtV x S⟩ S
      | none => .bad)
  | _ => .bad
def diEnum (As : DAf) : DIf := fun env S => (As env S).bind fun xs S1 => Dn.iEnum xs S1
section
variable {W : Wd} {E : XK} {X : Cx} {H H' : Hp} {μ μ' : Mu} {S : Sto}
theorem rng_at {n i : Nat} (h : i < n) : (rngD 0 n)[i]? = some (.int (i : Nat)) := by
  simp [rngD, List.getElem?_map, List.getElem?_range h]
theorem di_enum {a : Expr} {As : DAf} {p tpos : Pos} {elts : List Expr} {kk : Nat} (hK : X.K = W.K) (hg : Gl X "enumerate") (hm : X.mg "enumerate" = none) (ha : DA W E X [a] As) (hs : starEach [a] X.env = [(false, eval a X.env)] := by rfl) :
    DI W E X (.Tuple elts kk tpos) (.Call (.Name "enumerate" p) [a] [] pos) (diEnum As) :=
  (pi_enA hg hm ha hs).imp fun σ H R ⟨env, S, μ, hE, hS, hp⟩ => ⟨env, S, μ, hE, hS, hp.bind.imp fun xs S1 H1 μ1 l1 s1 p1 vs rvs => by
    unfold Dn.iEnum at p1
    rw [hK]
    split at p1
    · rename_i x
      obtain ⟨v, rfl, rv⟩ := rel_one rvs
      split at p1
      · rename_i ds e1
        obtain ⟨a, rfl, h1⟩ := staysT s1 rv e1
        obtain ⟨us, q1, _⟩ := h1 H1 μ1 .refl
        refine ⟨a, us, rfl, .inr ⟨q1, p1.at_ s1 _ (pairs_ok (n := ds.length) (by simp [rngD]) (fun i H' μ' S' l s w hi => ?_) (fun H' μ' S' l s w => ?_) fun i H' μ' S' v H2 l s w hi yy => ?_)⟩⟩
        · obtain ⟨us, q1, r1⟩ := h1 H' μ' l
          obtain ⟨u, e3, _⟩ := r1.get (List.getElem?_eq_getElem hi)
          exact ⟨us, u, q1, e3⟩
        · obtain ⟨us, q1, r1⟩ := h1 H' μ' l
          exact ⟨us, q1, r1.length.symm⟩
        · obtain ⟨us, q1, r1⟩ := h1 H' μ' l
          have hd := List.getElem?_eq_getElem hi
          obtain ⟨u, e3, r3⟩ := r1.get hd
          obtain ⟨T, x, rfl, hT, rfl, f1⟩ := yy
          have g1 := f1 us q1
          rw [e3] at g1; cases g1
          exact ⟨T, _, _, _, _, rfl, hT, rfl, rng_at hi, hd, by simp [RelD], r3⟩
      · split at p1
        · rename_i ds e1
          obtain ⟨a, rfl, h1⟩ := stays s1 rv e1
          obtain ⟨us, q1, _⟩ := h1 H1 μ1 S1 .refl s1 wtV_ok
          refine ⟨a, us, rfl, .inl ⟨q1, p1.at_ s1 _ (pairs_ok (n := ds.length) (by simp [rngD]) (fun i H' μ' S' l s w hi => ?_) (fun H' μ' S' l s w => ?_) fun i H' μ' S' v H2 l s w hi yy => ?_)⟩⟩
          · obtain ⟨us, q1, r1⟩ := h1 H' μ' S' l s w
            obtain ⟨u, e3, _⟩ := r1.get (List.getElem?_eq_getElem hi)
            exact ⟨us, u, q1, e3⟩
          · obtain ⟨us, q1, r1⟩ := h1 H' μ' S' l s w
            exact ⟨us, q1, Nat.le_of_eq r1.length.symm⟩
          · obtain ⟨us, q1, r1⟩ := h1 H' μ' S' l s w
            have hd := List.getElem?_eq_getElem hi
            obtain ⟨u, e3, r3⟩ := r1.get hd
            obtain ⟨T, x, rfl, hT, rfl, f1⟩ := yy
            have g1 := f1 us q1
            rw [e3] at g1; cases g1
            exact ⟨T, _, _, _, _, rfl, hT, rfl, rng_at hi, hd, by simp [RelD], r3⟩
        · exact p1.elim
    · exact p1.elim⟩
end
end Dn
set_option Elab.async false
set_option linter.all false
set_option maxRecDepth 100000
set_option maxHeartbeats 4000000
/-! ### the law's own call -/
namespace Dn
open PySem PySem.Spec PyProof.Rows L2 GxR Gx
/-- what is tracked at the law's entry: the script, if it is no object of the written part, and the empty tables -/
noncomputable def entryH (K : PySem.W.Frag) (a : Addr) (vs : List Value) (ns : List Int) (ts : List Addr) : Hp := fun b =>
  if b ∈ ts then some (.tbl #[]) else if b = a ∧ K.lookup a = none then some (.frz { cls := .type "list", data := .seq vs.toArray } (.lst (ns.map V.int))) else none
section
variable {P : Program} {w : World} {K : PySem.W.Frag} {mg mb : Str → Option Value} {k : Nat} {fa a : Addr} {cs : List (Addr × Addr)} {fd : FuncData} {x : Str} {m : Opn} {s1 : Shared} {vs : List Value} {ns : List Int} {W : Wd}
theorem entry_tab {ts : List Addr} {b : Addr} (h : b ∈ ts) : entryH K a vs ns ts b = some (.tbl #[]) := if_pos h
theorem entry_script {ts : List Addr} (h : a ∉ ts) (hk : K.lookup a = none) : entryH K a vs ns ts a = some (.frz { cls := .type "list", data := .seq vs.toArray } (.lst (ns.map V.int))) := by
  unfold entryH
  rw [if_neg h, if_pos ⟨rfl, hk⟩]
theorem entry_cases {ts : List Addr} {b : Addr} : entryH K a vs ns ts b = none ∨ (b ∈ ts ∧ entryH K a vs ns ts b = some (.tbl #[])) ∨ (b = a ∧ K.lookup a = none ∧ entryH K a vs ns ts b = some (.frz { cls := .type "list", data := .seq vs.toArray } (.lst (ns.map V.int)))) := by
  unfold entryH
  by_cases h1 : b ∈ ts
  · exact .inr (.inl ⟨h1, if_pos h1⟩)
  · by_cases h2 : b = a ∧ K.lookup a = none
    · exact .inr (.inr ⟨h2.1, h2.2, by rw [if_neg h1, if_pos h2]⟩)
    · exact .inl (by rw [if_neg h1, if_neg h2])
/-- the law's def called at its entry, the def kept by a function of data that says True -/
theorem law_callG (KX : K.In s1.heap) (gN : s1.heap.Ns mainGlobals mg) (bN : s1.heap.Ns builtinsNs mb) (bb : ∀ x : Str, x ≠ "__name__" → mb x = bootBuiltins x) (lim : s1.heap.NoLimit) (gn : s1.gens = #[])
    (tE' : ∀ p ∈ cs, s1.heap.get? p.2 = some { cls := .none, data := .fields #[] }) (tK : ∀ p ∈ cs, K.lookup p.2 = none) (tC : ∀ p ∈ cs, PySem.W.CodeHd s1.heap p.1 p.2)
    (bmod : ∃ (bm : Addr) (ob : Obj), mg "__builtins__" = some (.ref bm) ∧ bm ≠ builtinsNs ∧ s1.heap.get? bm = some ob ∧ ob.cls = .type "module" ∧ ob.dict = some builtinsNs ∧ ob.data = .plain)
    (sc : s1.heap.get? a = some { cls := .type "list", data := .seq vs.toArray }) (isI : IntsAre vs ns) (short : ns.length ≤ sizeLine) (room : Room k callerA)
    (hW : W.K = K) (hWt : W.tabs = cs.map (·.2))
    (F : ∀ base : Heap, K.In base → base.Ns mainGlobals mg → (∀ p ∈ cs, TabB base mg p.1 p.2) → FnG P w K mg base k fa fd [x] (spD W 1 m)) (bd : ∀ (s : Shared) (u : Value), BindsTo s fd ⟨[u], []⟩ [(x, u)])
    (so : ∃ S', m [.d (.con (ns.map .int))] [] = .ok (.d (.bl true)) S') :
    codeAny (model P w) callerA (.call (.ref fa) ⟨[.ref a], []⟩) (fun r s' => r = .ok (.ret (.bool true)) ∧ OldK s1.heap s'.heap ∧ s'.os = s1.os ∧ AllBare s'.gens) s1 := by
  have items := vals_ints isI
  have same := isI.length
  have tabAt : ∀ b ∈ cs.map (·.2), s1.heap.get? b = some { cls := .none, data := .fields #[] } ∧ K.lookup b = none := fun b hb => by
    obtain ⟨p, hp, rfl⟩ := List.mem_map.mp hb
    exact ⟨tE' p hp, tK p hp⟩
  have apart : a ∉ cs.map (·.2) := fun z => by
    have q := (tabAt a z).1
    rw [sc] at q
    cases congrArg Obj.data (Option.some.inj q)
  generalize eH : entryH K a vs ns (cs.map (·.2)) = H
  have kinds : ∀ b, H b = none ∨ (b ∈ cs.map (·.2) ∧ H b = some (.tbl #[])) ∨ (b = a ∧ K.lookup a = none ∧ H b = some (.frz { cls := .type "list", data := .seq vs.toArray } (.lst (ns.map V.int)))) := fun b => by
    rw [← eH]; exact entry_cases
  -- what is no list and no empty record is not tracked
  have free : ∀ {b : Addr} {o : Obj}, s1.heap.get? b = some o → (∀ us n, o.data ≠ .seq us n) → o.data ≠ .fields #[] → H b = none := fun {b o} e n1 n2 => by
    rcases kinds b with z | ⟨z, _⟩ | ⟨z, _, _⟩
    · exact z
    · rw [(tabAt b z).1] at e
      cases e
      exact (n2 rfl).elim
    · rw [z, sc] at e
      cases e
      exact (n1 _ _ rfl).elim
  have hide : ∀ {b : Addr} {o : Obj}, s1.heap.get? b = some o → H b = none → (hidT s1.heap H).get? b = some o := fun e n => hidT_get e n
  have dictFree : ∀ {b : Addr} {o : Obj} {es : Array DictEntry} {ep : Nat}, s1.heap.get? b = some o → o.data = .dict es ep → H b = none := fun e d =>
    free e (fun _ _ z => by rw [d] at z; cases z) fun z => by rw [d] at z; cases z
  have nsH : ∀ {b : Addr} {f : Str → Option Value}, s1.heap.Ns b f → (hidT s1.heap H).Ns b f := fun {b f} ⟨o, es, ep, e, d, r⟩ => ⟨o, es, ep, hide e (dictFree e d), d, r⟩
  have Kfree : ∀ b o, K.lookup b = some o → H b = none := fun b o e => by
    rcases kinds b with z | ⟨z, _⟩ | ⟨z, zk, _⟩
    · exact z
    · rw [(tabAt b z).2] at e; cases e
    · rw [z, zk] at e; cases e
  have KB : K.In (hidT s1.heap H) := fun b o e => hide (KX b o e) (Kfree b o e)
  have modB : L2.Mod K mg (hidT s1.heap H) := ⟨KB, nsH gN, ⟨mb, nsH bN, bb⟩, let ⟨f, z1, z2⟩ := lim; ⟨f, nsH z1, z2⟩⟩
  have tabB : ∀ p ∈ cs, TabB (hidT s1.heap H) mg p.1 p.2 := fun p hp => by
    refine ⟨?_, ?_, fun z => ?_⟩
    · obtain ⟨o, us, file, tx, flags, tg, inF, text, tt, e1, r1, r2, r3, rest⟩ := tC p hp
      refine ⟨o, us, file, tx, flags, tg, inF, text, tt, hide e1 (free e1 (fun _ _ z => by rw [r2] at z; cases z) fun z => ?_), r1, r2, r3, rest⟩
      rw [r2] at z
      cases z
      simp at r3
    · obtain ⟨bm, ob, c1, c2, c3, c4, c5, c6⟩ := bmod
      refine ⟨bm, ob, c1, c2, fun q => ?_, fun q => ?_, hide c3 (free c3 (fun _ _ z => by rw [c6] at z; cases z) fun z => by rw [c6] at z; cases z), c4, c5, c6⟩
      · obtain ⟨o, es, ep, e, d, _⟩ := gN
        rw [q, e] at c3
        cases c3
        rw [d] at c6; cases c6
      · rw [q, tE' p hp] at c3
        cases c3
        cases c6
    · obtain ⟨o, es, ep, e, d, _⟩ := gN
      rw [z, tE' p hp] at e
      cases e
      cases d
  have okH : HOk P w H s1.heap := fun b u z => by
    rcases kinds b with q | ⟨q, q2⟩ | ⟨q, _, q2⟩
    · rw [q] at z; cases z
    · rw [q2] at z; cases z
      exact (tabAt b q).1
    · rw [q2] at z; cases z
      rw [q]
      exact ⟨sc, by rw [List.length_map]; exact short, vs, _, items, sc⟩
  have isScript : SqL K H a (ns.map V.int) := by
    cases hk : K.lookup a with
    | none => exact .inl (.inr ⟨_, by rw [← eH]; exact entry_script apart hk⟩)
    | some o =>
      have e := KX a o hk
      rw [sc] at e
      cases e
      exact .inr ⟨_, vs.toArray, _, hk, rfl, rfl, rfl, by rw [List.size_toArray, same]; exact short, by simpa using items⟩
  have en : Env0 P w K mg (hidT s1.heap H) callerA [] s1 H := ⟨rfl, modB, fun _ _ e => of_hidT e, Nat.le_of_eq (hidT_size _ _), trivial, fun b hb => absurd hb List.not_mem_nil, okH, .of_eq gn⟩
  have prom : spD W 1 m [.ref a] H (fun v _ => v = .bl true) fun _ _ _ => False := by
    refine ⟨rfl, [.d (.con (ns.map .int))], [], [], ?_, ⟨rfl, fun n _ b e => by simp at e, fun n c o e => by simp at e, fun n b e => by simp at e, fun T hT => ?_⟩, ?_⟩
    · have rl : ∀ l : List Int, RelDs W H [] (l.map .int) (l.map V.int) := fun l => by
        induction l with
        | nil => simp [RelDs]
        | cons i l ih => simp only [List.map_cons, RelDs]; exact ⟨_, _, rfl, by simp [RelD], ih⟩
      simp only [RelVs, RelV', RelD]
      exact ⟨_, [], rfl, ⟨a, _, rfl, CoL.of (hW ▸ isScript) (fun n e => by simp at e), rl ns⟩, rfl⟩
    · rw [hWt] at hT
      rw [← eH]
      exact ⟨#[], entry_tab hT, trivial⟩
    · obtain ⟨S', e⟩ := so
      rw [e]
      exact fun H' μ' _ _ v rv => bl_rel rv
  refine codeAny_mono ((F _ KB (nsH gN) tabB).run callerA [] s1 H _ [.ref a] [.ref a] _ _ room rfl en (bd s1 (.ref a)) (.cons rfl .nil) prom) fun r s' out => ?_
  match r, out with
  | .error _, out => exact out.elim
  | .ok .next, out => exact out.elim
  | .ok .brk, out => exact out.elim
  | .ok .cont, out => exact out.elim
  | .ok (.ret u), out =>
    obtain ⟨v, H', os', bare, un, okH', rv, q⟩ := out
    have q' : v = .bl true := q
    subst q'
    obtain rfl : u = Value.bool true := rv
    have keep : ∀ b o, b ∉ cs.map (·.2) → s1.heap.get? b = some o → s'.heap.get? b = some o := fun b o nb e => by
      rcases kinds b with z | ⟨z, _⟩ | ⟨z, _, z2⟩
      · exact un.keep b o e z (fun z => absurd z List.not_mem_nil) (fun z => absurd z List.not_mem_nil)
      · exact absurd z nb
      · obtain ⟨e1, _⟩ := okH b _ z2
        obtain ⟨e2, _⟩ := okH' b _ (un.frzs b _ _ z2)
        rw [e] at e1; cases e1
        exact e2
    refine ⟨rfl, ⟨fun b o e => ?_, fun b o e => ?_⟩, os', bare⟩
    · by_cases hb : b ∈ cs.map (·.2)
      · obtain ⟨p, hp, ep⟩ := List.mem_map.mp hb
        rcases kinds b with z | ⟨_, z⟩ | ⟨z, _, _⟩
        · rw [← eH, entry_tab hb] at z; cases z
        · obtain ⟨more, e2⟩ := un.tbls b #[] z
          subst ep
          rw [tE' p hp] at e
          cases e
          exact .inr (.inl ⟨((tC p hp).tab (tE' p hp)).isCodeTable, rfl, #[], more, rfl, okH' _ _ e2⟩)
        · exact absurd (z ▸ hb) apart
      · exact .inl (keep b o hb e)
    · by_cases hb : b ∈ cs.map (·.2)
      · rcases kinds b with z | ⟨_, z⟩ | ⟨z, _, _⟩
        · rw [← eH, entry_tab hb] at z; cases z
        · obtain ⟨more, e2⟩ := un.tbls b #[] z
          exact ⟨_, okH' _ _ e2⟩
        · exact absurd (z ▸ hb) apart
      · exact ⟨o, keep b o hb e⟩
/-- the walk over the head, by it -/
theorem walk_G {l : PySem.W.OpenLaw} {n k : Nat} {q : Program} {loose : List Str} {XP : (Str → Option Value) → Heap → Prop} {YP : World → Heap → Prop} {d : DefRec} {x : Str} {m : Opn}
    (hn : l.most = some n) (hn2 : n ≤ sizeLine) (hdf : d.params.defaults = []) (room : Room k callerA)
    (F : ∀ (w : World) (mg : Str → Option Value) (fa : Addr) (h : Heap), YP w h → h.Ns mainGlobals mg → mg d.name = some (.ref fa) → ∃ (K : PySem.W.Frag) (W : Wd) (fd : FuncData) (cs : List (Addr × Addr)), K.In h ∧ W.K = K ∧ W.tabs = cs.map (·.2) ∧
      (∀ p ∈ cs, h.get? p.2 = some { cls := .none, data := .fields #[] }) ∧ (∀ p ∈ cs, K.lookup p.2 = none) ∧ (∀ p ∈ cs, PySem.W.CodeHd h p.1 p.2) ∧ (∀ (s : Shared) (u : Value), BindsTo s fd ⟨[u], []⟩ [(x, u)]) ∧
      ∀ base : Heap, K.In base → base.Ns mainGlobals mg → (∀ p ∈ cs, TabB base mg p.1 p.2) → FnG l.prog w K mg base k fa fd [x] (spD W 1 m))
    (so : ∀ ns : List Int, ns.length ≤ n → (∀ z ∈ ns, Builtin.Int.intBits z ≤ 1048576) → ∃ S', m [.d (.con (ns.map .int))] [] = .ok (.d (.bl true)) S') :
    PySem.W.WalkO q loose XP YP l.row.toRowW d [] (fun f vs => PySem.call f vs) := by
  refine Att.attach_callB hn hdf fun w s0 s1 mg mb fa o pm cd doc a vs ns G Y ho hd hcd hmg sc isI hlen bits gn => ?_
  obtain ⟨K, W, fd, cs, KX, hW, hWt, t1, t2, t3, bd, hF⟩ := F w mg fa _ Y G.T.g hmg
  exact law_callG KX G.T.g G.T.b G.T.builtins G.T.nolimit gn t1 t2 t3 G.T.bmain sc isI (Nat.le_trans hlen hn2) room hW hWt hF bd (so ns hlen bits)
end
end Dn
set_option Elab.async false
set_option linter.all false
set_option maxRecDepth 100000
set_option maxHeartbeats 4000000
/-! ### lists put together as a new place; lists repeated -/
namespace Dn
open PySem PySem.Spec PyProof.Rows L2 GxR Gx
section
variable {W : Wd} {E : XK} {X : Cx} {pos : Pos}
def oAddC : Op2 := fun x y S => match trkL x S, trkL y S with
  | some a, some b => if a.length + b.length ≤ szL then .ok (.r S.length) (S ++ [.lst (a ++ b)]) else .bad
  | _, _ => .bad
theorem dop_addC : DOp W E rCat oAddC := by
  intro x y S H μ v w Q s rx ry h
  unfold oAddC at h
  split at h
  · rename_i a b e1 e2
    split at h
    · rename_i hz
      obtain ⟨p, vs, rfl, q1, r1⟩ := trkL_rel s rx e1
      obtain ⟨p', ws, rfl, q2, r2⟩ := trkL_rel s ry e2
      refine ⟨p, p', vs, ws, rfl, rfl, q1, q2, by rw [← r1.length, ← r2.length, szL_eq]; exact hz, fun c hc => ?_⟩
      obtain ⟨k, r⟩ := post_cell h s hc (r1.append r2)
      exact k _ r
    · exact h.elim
  · exact h.elim
theorem de_addC {a b : Expr} {f g : DEf} (ha : DE W E X a f) (hb : DE W E X b g) : DE W E X (.BinOp a .Add b pos) (dOp oAddC f g) := de_op op_cat dop_addC ha hb
def oRepL : Op2 := fun x y S => match trkL x S, y with
  | some a, .d (.int k) => if 0 ≤ k ∧ k ≤ 100000 ∧ a.length ≤ 100 then .ok (.d (.lst (List.replicate k.toNat a).flatten)) S else .bad
  | _, _ => .bad
def oRepC : Op2 := fun x y S => match trkL x S, y with
  | some a, .d (.int k) => if 0 ≤ k ∧ k ≤ 100000 ∧ a.length ≤ 100 then .ok (.r S.length) (S ++ [.lst (List.replicate k.toNat a).flatten]) else .bad
  | _, _ => .bad
theorem rep_size {n : Nat} {k : Int} (h1 : k ≤ 100000) (h2 : n ≤ 100) : n * k.toNat ≤ sizeLine := by
  rw [szL_eq]
  have : n * k.toNat ≤ 100 * 100000 := Nat.mul_le_mul h2 (by omega)
  exact Nat.le_trans this (by decide)
theorem dop_repL : DOp W E rRep oRepL := by
  intro x y S H μ v w Q s rx ry h
  unfold oRepL at h
  split at h
  · rename_i a k e1
    split at h
    · rename_i hz
      obtain ⟨p, vs, rfl, q1, r1⟩ := trkL_rel s rx e1
      refine ⟨p, k, vs, rfl, int_rel ry, q1, by omega, by omega, rep_size hz.2.1 (by rw [← r1.length]; exact hz.2.2), fun c hc => ?_⟩
      obtain ⟨k, r⟩ := post_lst h s hc (r1.rep _)
      exact k _ r
    · exact h.elim
  · exact h.elim
theorem dop_repC : DOp W E rRep oRepC := by
  intro x y S H μ v w Q s rx ry h
  unfold oRepC at h
  split at h
  · rename_i a k e1
    split at h
    · rename_i hz
      obtain ⟨p, vs, rfl, q1, r1⟩ := trkL_rel s rx e1
      refine ⟨p, k, vs, rfl, int_rel ry, q1, by omega, by omega, rep_size hz.2.1 (by rw [← r1.length]; exact hz.2.2), fun c hc => ?_⟩
      obtain ⟨k, r⟩ := post_cell h s hc (r1.rep _)
      exact k _ r
    · exact h.elim
  · exact h.elim
theorem de_repL {a b : Expr} {f g : DEf} (ha : DE W E X a f) (hb : DE W E X b g) : DE W E X (.BinOp a .Mult b pos) (dOp oRepL f g) := de_op op_rep dop_repL ha hb
theorem de_repC {a b : Expr} {f g : DEf} (ha : DE W E X a f) (hb : DE W E X b g) : DE W E X (.BinOp a .Mult b pos) (dOp oRepC f g) := de_op op_rep dop_repC ha hb
end
end Dn
set_option Elab.async false
set_option linter.all false
set_option maxRecDepth 100000
set_option maxHeartbeats 1000000
/-! ### reckoning with such functions -/
namespace Dn
open PySem PySem.Spec PyProof.Rows L2
/-- it comes to an end with Q -/
def Ok {α : Type} (r : Out α) (Q : α → Sto → Prop) : Prop := ∃ a S, r = .ok a S ∧ Q a S
section
variable {α β : Type} {Q : α → Sto → Prop} {a : α} {S : Sto} {x : Exn}
@[simp] theorem ok_ok : Ok (.ok a S) Q ↔ Q a S := ⟨fun ⟨b, T, e, q⟩ => by cases e; exact q, fun q => ⟨a, S, rfl, q⟩⟩
@[simp] theorem ok_bad : Ok (.bad : Out α) Q ↔ False := ⟨fun ⟨b, T, e, q⟩ => (by cases e), False.elim⟩
@[simp] theorem ok_exc : Ok (.exc x S : Out α) Q ↔ False := ⟨fun ⟨b, T, e, q⟩ => (by cases e), False.elim⟩
@[simp] theorem ok_bind {r : Out α} {k : α → Sto → Out β} {Q : β → Sto → Prop} : Ok (r.bind k) Q ↔ Ok r fun a S => Ok (k a S) Q := by
  cases r <;> simp
theorem Ok.mono {r : Out α} {Q' : α → Sto → Prop} (h : Ok r Q) (hq : ∀ a S, Q a S → Q' a S) : Ok r Q' := let ⟨a, S, e, q⟩ := h; ⟨a, S, e, hq a S q⟩
@[simp] theorem ok_ite {c : Prop} [Decidable c] {r r' : Out α} : Ok (if c then r else r') Q ↔ if c then Ok r Q else Ok r' Q := by by_cases h : c <;> simp [h]
end
/-! equations by constructors: nothing unfolds below a name that is not known yet -/
def getV (o : Option (Option Val)) (S : Sto) : Out Val := match o with
  | some (some x) => .ok x S
  | _ => .bad
@[simp] theorem getV_some (x : Val) (S : Sto) : getV (some (some x)) S = .ok x S := (rfl)
@[simp] theorem getV_none (S : Sto) : getV none S = .bad := (rfl)
@[simp] theorem getV_non (S : Sto) : getV (some none) S = .bad := (rfl)
@[simp] theorem dVar_eq (i : Nat) (env : Env) (S : Sto) : dVar i env S = getV env[i]? S := (rfl)
@[simp] theorem dC_eq (d : D) (env : Env) (S : Sto) : dC d env S = .ok (.d d) S := (rfl)
@[simp] theorem dOp_eq (o : Op2) (f g : DEf) (env : Env) (S : Sto) : dOp o f g env S = (f env S).bind fun x S1 => (g env S1).bind fun y S2 => o x y S2 := (rfl)
@[simp] theorem dUn_eq (o : Val → Sto → Out Val) (f : DEf) (env : Env) (S : Sto) : dUn o f env S = (f env S).bind fun x S1 => o x S1 := (rfl)
def toB (x : Val) (S : Sto) : Out Bool := match x with
  | .d (.bl b) => .ok b S
  | _ => .bad
@[simp] theorem toB_bl (b : Bool) (S : Sto) : toB (.d (.bl b)) S = .ok b S := (rfl)
@[simp] theorem dB_eq (f : DEf) (env : Env) (S : Sto) : dB f env S = (f env S).bind toB := (rfl)
def chain (o' : Op2) (y : Val) (h : Sto → Out Val) (z : Val) (S : Sto) : Out Val := match z with
  | .d (.bl true) => (h S).bind fun w S4 => o' y w S4
  | .d (.bl false) => .ok (.d (.bl false)) S
  | _ => .bad
@[simp] theorem chain_bl (o' : Op2) (y : Val) (h : Sto → Out Val) (b : Bool) (S : Sto) : chain o' y h (.d (.bl b)) S = if b = true then (h S).bind fun w S4 => o' y w S4 else .ok (.d (.bl false)) S := by cases b <;> rfl
@[simp] theorem dChain_eq (o o' : Op2) (f g h : DEf) (env : Env) (S : Sto) : dChain o o' f g h env S = (f env S).bind fun x S1 => (g env S1).bind fun y S2 => (o x y S2).bind (chain o' y (h env)) := (rfl)
@[simp] theorem dtAnd_eq (f g : DTf) (env : Env) (S : Sto) : dtAnd f g env S = (f env S).bind fun b S1 => if b = true then g env S1 else .ok false S1 := (rfl)
@[simp] theorem dtOr_eq (f g : DTf) (env : Env) (S : Sto) : dtOr f g env S = (f env S).bind fun b S1 => if b = true then .ok true S1 else g env S1 := (rfl)
@[simp] theorem dtNot_eq (f : DTf) (env : Env) (S : Sto) : dtNot f env S = (f env S).bind fun b S1 => .ok (!b) S1 := (rfl)
@[simp] theorem dAnd_eq (f g : DEf) (env : Env) (S : Sto) : dAnd f g env S = ((f env S).bind toB).bind fun b S1 => if b = true then g env S1 else .ok (.d (.bl false)) S1 := (rfl)
@[simp] theorem dOr_eq (f g : DEf) (env : Env) (S : Sto) : dOr f g env S = ((f env S).bind toB).bind fun b S1 => if b = true then .ok (.d (.bl true)) S1 else g env S1 := (rfl)
@[simp] theorem dNot_eq (f : DEf) (env : Env) (S : Sto) : dNot f env S = ((f env S).bind toB).bind fun b S1 => .ok (.d (.bl (!b))) S1 := (rfl)
@[simp] theorem dIf_eq (f : DTf) (F G : DEf) (env : Env) (S : Sto) : dIf f F G env S = (f env S).bind fun b S1 => if b = true then F env S1 else G env S1 := (rfl)
@[simp] theorem dNil_eq (env : Env) (S : Sto) : dNil env S = .ok [] S := (rfl)
@[simp] theorem dCons_eq (F : DEf) (As : DAf) (env : Env) (S : Sto) : dCons F As env S = (F env S).bind fun x S1 => (As env S1).bind fun xs S2 => .ok (x :: xs) S2 := (rfl)
@[simp] theorem dCall_eq (o : Opn) (As : DAf) (env : Env) (S : Sto) : dCall o As env S = (As env S).bind fun xs S1 => o xs S1 := (rfl)
@[simp] theorem dCallN_eq (n : Nat) (m : Opn) (As : DAf) (env : Env) (S : Sto) : dCallN n m As env S = (As env S).bind fun xs S1 => if xs.length = n then m xs S1 else .bad := (rfl)
@[simp] theorem dCallK_eq (n j l : Nat) (pr : List Nat) (m : Opn) (As Ks : DAf) (env : Env) (S : Sto) : dCallK n j l pr m As Ks env S = (As env S).bind fun xs S1 => (Ks env S1).bind fun ys S2 => if xs.length = j ∧ ys.length = l ∧ (permL pr (xs ++ ys)).length = n then m (permL pr (xs ++ ys)) S2 else .bad := (rfl)
def toO (x : Val) (S : Sto) : Out (Option Int) := match x with
  | .d (.int i) => .ok (some i) S
  | _ => .bad
@[simp] theorem toO_int (i : Int) (S : Sto) : toO (.d (.int i)) S = .ok (some i) S := (rfl)
@[simp] theorem dO0_eq (env : Env) (S : Sto) : dO0 env S = .ok none S := (rfl)
@[simp] theorem dO1_eq (f : DEf) (env : Env) (S : Sto) : dO1 f env S = (f env S).bind toO := (rfl)
@[simp] theorem dSl_eq (f : DEf) (lo hi : DOf) (env : Env) (S : Sto) : dSl f lo hi env S = (f env S).bind fun x S1 => (lo env S1).bind fun l S2 => (hi env S2).bind fun h S3 => oSl x l h S3 := (rfl)
@[simp] theorem dgName_eq (i : Nat) (x : Val) (env : Env) (S : Sto) : dgName i x env S = .ok (env.set i (some x)) S := (rfl)
@[simp] theorem dgNil_eq (env : Env) (S : Sto) : dgNil [] env S = .ok env S := (rfl)
@[simp] theorem dgCons_eq (g : DGf) (gs : DGsf) (x : D) (xs : List D) (env : Env) (S : Sto) : dgCons g gs (x :: xs) env S = (g (.d x) env S).bind fun env1 S1 => gs xs env1 S1 := (rfl)
@[simp] theorem dgTup_eq (n : Nat) (gs : DGsf) (ds : List D) (env : Env) (S : Sto) : dgTup n gs (.d (.tup ds)) env S = if ds.length = n then gs ds env S else .bad := (rfl)
@[simp] theorem dgSub_eq (f g : DEf) (x : Val) (env : Env) (S : Sto) : dgSub f g x env S = (f env S).bind fun o S1 => (g env S1).bind fun i S2 => (oSet o i x S2).bind fun _ S3 => .ok env S3 := (rfl)
def cSet (c : Option Cell) (n : Nat) (k : Int) (d : D) (S : Sto) : Out Unit := match c with
  | some (.lst ds) => (match ixN ds.length k with
    | some j => .ok () (S.set n (.lst (ds.set j d)))
    | none => .bad)
  | _ => .bad
@[simp] theorem oSet_eq (n : Nat) (k : Int) (d : D) (S : Sto) : oSet (.r n) (.d (.int k)) (.d d) S = cSet S[n]? n k d S := by
  unfold oSet cSet
  dsimp only
  all_goals (cases S[n]? with
  | none => rfl
  | some c => cases c <;> rfl)
def iSet (o : Option Nat) (n : Nat) (ds : List D) (d : D) (S : Sto) : Out Unit := match o with
  | some j => .ok () (S.set n (.lst (ds.set j d)))
  | none => .bad
@[simp] theorem iSet_some (j n : Nat) (ds : List D) (d : D) (S : Sto) : iSet (some j) n ds d S = .ok () (S.set n (.lst (ds.set j d))) := (rfl)
@[simp] theorem cSet_lst (ds : List D) (n : Nat) (k : Int) (d : D) (S : Sto) : cSet (some (.lst ds)) n k d S = iSet (ixN ds.length k) n ds d S := (rfl)
@[simp] theorem dNext_eq (env : Env) (S : Sto) : dNext env S = .ok (.nx env) S := (rfl)
def cont (g : DSf) (fl : Fl) (S : Sto) : Out Fl := match fl with
  | .nx env1 => g env1 S
  | fl => .ok fl S
@[simp] theorem cont_nx (g : DSf) (env : Env) (S : Sto) : cont g (.nx env) S = g env S := (rfl)
@[simp] theorem cont_ret (g : DSf) (x : Val) (S : Sto) : cont g (.ret x) S = .ok (.ret x) S := (rfl)
@[simp] theorem cont_brk (g : DSf) (env : Env) (S : Sto) : cont g (.brk env) S = .ok (.brk env) S := (rfl)
@[simp] theorem cont_cnt (g : DSf) (env : Env) (S : Sto) : cont g (.cnt env) S = .ok (.cnt env) S := (rfl)
@[simp] theorem dSeq_eq (f g : DSf) (env : Env) (S : Sto) : dSeq f g env S = (f env S).bind (cont g) := by
  unfold dSeq
  congr 1
@[simp] theorem dBrk_eq (env : Env) (S : Sto) : dBrk env S = .ok (.brk env) S := (rfl)
@[simp] theorem dCnt_eq (env : Env) (S : Sto) : dCnt env S = .ok (.cnt env) S := (rfl)
@[simp] theorem dRet_eq (F : DEf) (env : Env) (S : Sto) : dRet F env S = (F env S).bind fun x S1 => .ok (.ret x) S1 := (rfl)
@[simp] theorem dRetN_eq (env : Env) (S : Sto) : dRetN env S = .ok (.ret (.d .non)) S := (rfl)
@[simp] theorem dDrop_eq (F : DEf) (env : Env) (S : Sto) : dDrop F env S = (F env S).bind fun _ S1 => .ok (.nx env) S1 := (rfl)
@[simp] theorem dIfS_eq (c : DTf) (f g : DSf) (env : Env) (S : Sto) : dIfS c f g env S = (c env S).bind fun b S1 => if b = true then f env S1 else g env S1 := (rfl)
@[simp] theorem dAsg_eq (F : DEf) (g : DGf) (env : Env) (S : Sto) : dAsg F g env S = (F env S).bind fun x S1 => (g x env S1).bind fun env1 S2 => .ok (.nx env1) S2 := (rfl)
def par2 (i j : Nat) (env : Env) (xs : List Val) (S : Sto) : Out Fl := match xs with
  | [x, y] => .ok (.nx ((env.set i (some x)).set j (some y))) S
  | _ => .bad
@[simp] theorem par2_eq (i j : Nat) (env : Env) (x y : Val) (S : Sto) : par2 i j env [x, y] S = .ok (.nx ((env.set i (some x)).set j (some y))) S := (rfl)
@[simp] theorem dPar_eq (i j : Nat) (As : DAf) (env : Env) (S : Sto) : dPar i j As env S = (As env S).bind (par2 i j env) := (rfl)
def par3 (i j l : Nat) (env : Env) (xs : List Val) (S : Sto) : Out Fl := match xs with
  | [x, y, z] => .ok (.nx (((env.set i (some x)).set j (some y)).set l (some z))) S
  | _ => .bad
@[simp] theorem par3_eq (i j l : Nat) (env : Env) (x y z : Val) (S : Sto) : par3 i j l env [x, y, z] S = .ok (.nx (((env.set i (some x)).set j (some y)).set l (some z))) S := (rfl)
@[simp] theorem dPar3_eq (i j l : Nat) (As : DAf) (env : Env) (S : Sto) : dPar3 i j l As env S = (As env S).bind (par3 i j l env) := (rfl)
@[simp] theorem dYes_eq (env : Env) (S : Sto) : dYes env S = .ok true S := (rfl)
/-! operators -/
@[simp] theorem oSub_int (i j : Int) (S : Sto) : oSub (.d (.int i)) (.d (.int j)) S = .ok (.d (.int (i - j))) S := (rfl)
@[simp] theorem oLt_int (i j : Int) (S : Sto) : oLt (.d (.int i)) (.d (.int j)) S = .ok (.d (.bl (decide (i < j)))) S := (rfl)
@[simp] theorem oLe_int (i j : Int) (S : Sto) : oLe (.d (.int i)) (.d (.int j)) S = .ok (.d (.bl (decide (i ≤ j)))) S := (rfl)
@[simp] theorem oGt_int (i j : Int) (S : Sto) : oGt (.d (.int i)) (.d (.int j)) S = .ok (.d (.bl (decide (j < i)))) S := (rfl)
@[simp] theorem oGe_int (i j : Int) (S : Sto) : oGe (.d (.int i)) (.d (.int j)) S = .ok (.d (.bl (decide (j ≤ i)))) S := (rfl)
@[simp] theorem oAdd_int (i j : Int) (S : Sto) : oAdd (.d (.int i)) (.d (.int j)) S = .ok (.d (.int (i + j))) S := (rfl)
@[simp] theorem oAdd_tup (a b : List D) (S : Sto) : oAdd (.d (.tup a)) (.d (.tup b)) S = if a.length + b.length ≤ szL then .ok (.d (.tup (a ++ b))) S else .bad := (rfl)
@[simp] theorem oMul_int (i j : Int) (S : Sto) : oMul (.d (.int i)) (.d (.int j)) S = if cMul i j = true then .ok (.d (.int (i * j))) S else .bad := (rfl)
@[simp] theorem oMul_tup (a : List D) (k : Int) (S : Sto) : oMul (.d (.tup a)) (.d (.int k)) S = if a ≠ [] ∧ ((2 ≤ k ∧ k ≤ 1000 ∧ a.length ≤ 1000) ∨ k = 0 ∨ k = 1) then .ok (.d (.tup (List.replicate k.toNat a).flatten)) S else .bad := (rfl)
@[simp] theorem oDiv_int (i j : Int) (S : Sto) : oDiv (.d (.int i)) (.d (.int j)) S = if cDiv i j = true then .ok (.d (.int (i.fdiv j))) S else .bad := (rfl)
@[simp] theorem oMod_int (i j : Int) (S : Sto) : oMod (.d (.int i)) (.d (.int j)) S = if cMod i j = true then .ok (.d (.int (i.fmod j))) S else .bad := (rfl)
@[simp] theorem oPow_int (i j : Int) (S : Sto) : oPow (.d (.int i)) (.d (.int j)) S = if cPow i j = true then .ok (.d (.int (i ^ j.toNat))) S else .bad := (rfl)
@[simp] theorem oEqB_int (neg : Bool) (i j : Int) (S : Sto) : oEqB neg (.d (.int i)) (.d (.int j)) S = .ok (.d (.bl (xor neg (decide (i = j))))) S := (rfl)
@[simp] theorem oEqB_str (neg : Bool) (i j : Str) (S : Sto) : oEqB neg (.d (.str i)) (.d (.str j)) S = .ok (.d (.bl (xor neg (decide (i = j))))) S := (rfl)
@[simp] theorem oIsB_non (neg : Bool) (a : D) (S : Sto) : oIsB neg (.d a) (.d .non) S = .ok (.d (.bl (xor neg (isNon a)))) S := by cases a <;> rfl
@[simp] theorem oIsB_bl (neg a b : Bool) (S : Sto) : oIsB neg (.d (.bl a)) (.d (.bl b)) S = .ok (.d (.bl (xor neg (decide (a = b))))) S := (rfl)
@[simp] theorem oNeg_int (i : Int) (S : Sto) : oNeg (.d (.int i)) S = .ok (.d (.int (-i))) S := (rfl)
def optV (o : Option D) (S : Sto) : Out Val := match o with
  | some d => .ok (.d d) S
  | none => .bad
@[simp] theorem optV_some (d : D) (S : Sto) : optV (some d) S = .ok (.d d) S := (rfl)
@[simp] theorem oIx_tup (ds : List D) (i : Int) (S : Sto) : oIx (.d (.tup ds)) (.d (.int i)) S = optV (atI ds i) S := by
  unfold oIx optV; dsimp only; all_goals (cases atI ds i <;> rfl)
@[simp] theorem oIx_lst (ds : List D) (i : Int) (S : Sto) : oIx (.d (.lst ds)) (.d (.int i)) S = optV (atI ds i) S := by
  unfold oIx optV; dsimp only [seqL]; all_goals (cases atI ds i <;> rfl)
@[simp] theorem oIx_con (ds : List D) (i : Int) (S : Sto) : oIx (.d (.con ds)) (.d (.int i)) S = optV (atI ds i) S := by
  unfold oIx optV; dsimp only [seqL]; all_goals (cases atI ds i <;> rfl)
def cellIx (c : Option Cell) (i : Int) (S : Sto) : Out Val := match c with
  | some (.lst ds) => optV (atI ds i) S
  | _ => .bad
@[simp] theorem cellIx_lst (ds : List D) (i : Int) (S : Sto) : cellIx (some (.lst ds)) i S = optV (atI ds i) S := (rfl)
@[simp] theorem oIx_r (n : Nat) (i : Int) (S : Sto) : oIx (.r n) (.d (.int i)) S = cellIx S[n]? i S := by
  unfold oIx cellIx optV
  dsimp only [seqL]
  cases S[n]? with
  | none => rfl
  | some c =>
    cases c with
    | dead => rfl
    | lst ds => dsimp only; all_goals (cases atI ds i <;> rfl)
theorem atI_cast {α : Type} (xs : List α) (k : Nat) : atI xs (k : Int) = xs[k]? := by
  cases h : xs[k]? with
  | some v => exact atI_nat h
  | none =>
    have : xs.length ≤ k := List.getElem?_eq_none_iff.mp h
    unfold atI ixN
    rw [if_pos (by omega), if_neg (by omega)]
    rfl
@[simp] theorem atI_two {α : Type} (xs : List α) : atI xs 2 = xs[2]? := atI_cast xs 2
@[simp] theorem atI_three {α : Type} (xs : List α) : atI xs 3 = xs[3]? := atI_cast xs 3
@[simp] theorem atI_four {α : Type} (xs : List α) : atI xs 4 = xs[4]? := atI_cast xs 4
@[simp] theorem atI_zero {α : Type} (xs : List α) : atI xs 0 = xs[0]? := atI_cast xs 0
@[simp] theorem atI_one {α : Type} (xs : List α) : atI xs 1 = xs[1]? := atI_cast xs 1
@[simp] theorem o1_eq (o : Val → Sto → Out Val) (x : Val) (S : Sto) : o1 o [x] S = o x S := (rfl)
@[simp] theorem o2_eq (o : Op2) (x y : Val) (S : Sto) : o2 o [x, y] S = o x y S := (rfl)
@[simp] theorem bInt_int (i : Int) (S : Sto) : bInt (.d (.int i)) S = .ok (.d (.int i)) S := (rfl)
@[simp] theorem bAbs_int (i : Int) (S : Sto) : bAbs (.d (.int i)) S = .ok (.d (.int (if i < 0 then -i else i))) S := (rfl)
@[simp] theorem bMax2_int (i j : Int) (S : Sto) : bMax2 (.d (.int i)) (.d (.int j)) S = .ok (.d (.int (if j > i then j else i))) S := (rfl)
@[simp] theorem bMin2_int (i j : Int) (S : Sto) : bMin2 (.d (.int i)) (.d (.int j)) S = .ok (.d (.int (if j < i then j else i))) S := (rfl)
@[simp] theorem bGcd_int (i j : Int) (S : Sto) : bGcd (.d (.int i)) (.d (.int j)) S = .ok (.d (.int ((Nat.gcd i.natAbs j.natAbs : Nat) : Int))) S := (rfl)
@[simp] theorem bDivmod_int (i j : Int) (S : Sto) : bDivmod (.d (.int i)) (.d (.int j)) S = if 0 < j ∧ j < 1073741824 then .ok (.d (.tup [.int (i / j), .int (i % j)])) S else .bad := (rfl)
@[simp] theorem bLen_tup (ds : List D) (S : Sto) : bLen (.d (.tup ds)) S = .ok (.d (.int ds.length)) S := (rfl)
@[simp] theorem bLen_lst (ds : List D) (S : Sto) : bLen (.d (.lst ds)) S = .ok (.d (.int ds.length)) S := (rfl)
@[simp] theorem bLen_con (ds : List D) (S : Sto) : bLen (.d (.con ds)) S = .ok (.d (.int ds.length)) S := (rfl)
@[simp] theorem bTuple_tup (ds : List D) (S : Sto) : bTuple (.d (.tup ds)) S = .ok (.d (.tup ds)) S := (rfl)
@[simp] theorem bTuple_lst (ds : List D) (S : Sto) : bTuple (.d (.lst ds)) S = .ok (.d (.tup ds)) S := (rfl)
@[simp] theorem bList_tup (ds : List D) (S : Sto) : bList (.d (.tup ds)) S = .ok (.d (.lst ds)) S := (rfl)
@[simp] theorem oBack_tup (ds : List D) (S : Sto) : oBack (.d (.tup ds)) S = .ok (.d (.tup ds.reverse)) S := (rfl)
@[simp] theorem oSl_tup (ds : List D) (lo hi : Option Int) (S : Sto) : oSl (.d (.tup ds)) lo hi S = .ok (.d (.tup (cutL ds lo hi))) S := (rfl)
@[simp] theorem oSl_con (ds : List D) (lo hi : Option Int) (S : Sto) : oSl (.d (.con ds)) lo hi S = .ok (.d (.lst (cutL ds lo hi))) S := (rfl)
def cTuple (c : Option Cell) (S : Sto) : Out Val := match c with
  | some (.lst ds) => .ok (.d (.tup ds)) S
  | _ => .bad
@[simp] theorem cTuple_lst (ds : List D) (S : Sto) : cTuple (some (.lst ds)) S = .ok (.d (.tup ds)) S := (rfl)
@[simp] theorem bTuple_r (n : Nat) (S : Sto) : bTuple (.r n) S = cTuple S[n]? S := by
  unfold bTuple cTuple
  dsimp only [seqA, seqL]
  all_goals (cases S[n]? with
  | none => rfl
  | some c => cases c <;> rfl)
def cLen (c : Option Cell) (S : Sto) : Out Val := match c with
  | some (.lst ds) => .ok (.d (.int ds.length)) S
  | _ => .bad
@[simp] theorem cLen_lst (ds : List D) (S : Sto) : cLen (some (.lst ds)) S = .ok (.d (.int ds.length)) S := (rfl)
@[simp] theorem bLen_r (n : Nat) (S : Sto) : bLen (.r n) S = cLen S[n]? S := by
  unfold bLen cLen
  dsimp only [seqA, seqL]
  all_goals (cases S[n]? with
  | none => rfl
  | some c => cases c <;> rfl)
def cAppend (c : Option Cell) (n : Nat) (d : D) (S : Sto) : Out Val := match c with
  | some (.lst ds) => if ds.length < szL then .ok (.d .non) (S.set n (.lst (ds ++ [d]))) else .bad
  | _ => .bad
@[simp] theorem cAppend_lst (ds : List D) (n : Nat) (d : D) (S : Sto) : cAppend (some (.lst ds)) n d S = if ds.length < szL then .ok (.d .non) (S.set n (.lst (ds ++ [d]))) else .bad := (rfl)
@[simp] theorem mAppend_r (n : Nat) (d : D) (S : Sto) : mAppend (.r n) [.d d] S = cAppend S[n]? n d S := by
  unfold mAppend cAppend
  dsimp only
  all_goals (cases S[n]? with
  | none => rfl
  | some c => cases c <;> rfl)
def cMeth (o : Val → List Val → Sto → Out Val) (As : DAf) (env : Env) (x : Val) (S : Sto) (c : Option Cell) : Out Val := match c with
  | some (.lst _) => (As env S).bind fun xs S2 => o x xs S2
  | _ => .bad
@[simp] theorem cMeth_lst (o : Val → List Val → Sto → Out Val) (As : DAf) (env : Env) (x : Val) (S : Sto) (ds : List D) : cMeth o As env x S (some (.lst ds)) = (As env S).bind fun xs S2 => o x xs S2 := (rfl)
def meth (o : Val → List Val → Sto → Out Val) (As : DAf) (env : Env) (x : Val) (S : Sto) : Out Val := match seqL x S with
  | some _ => (As env S).bind fun xs S2 => o x xs S2
  | none => .bad
@[simp] theorem meth_r (o : Val → List Val → Sto → Out Val) (As : DAf) (env : Env) (n : Nat) (S : Sto) : meth o As env (.r n) S = cMeth o As env (.r n) S S[n]? := by
  unfold meth cMeth
  dsimp only [seqL]
  all_goals (cases S[n]? with
  | none => rfl
  | some c => cases c <;> rfl)
@[simp] theorem dMeth_eq (o : Val → List Val → Sto → Out Val) (f : DEf) (As : DAf) (env : Env) (S : Sto) : dMeth o f As env S = (f env S).bind fun x S1 => meth o As env x S1 := (rfl)
@[simp] theorem datas_nil : datas [] = some [] := (rfl)
@[simp] theorem datas_cons (x : D) (xs : List Val) : datas (.d x :: xs) = (datas xs).map (x :: ·) := (rfl)
def mkT (o : Option (List D)) (S : Sto) : Out Val := match o with
  | some ds => if ds.length ≤ szL then .ok (.d (.tup ds)) S else .bad
  | none => .bad
@[simp] theorem mkT_some (ds : List D) (S : Sto) : mkT (some ds) S = if ds.length ≤ szL then .ok (.d (.tup ds)) S else .bad := (rfl)
@[simp] theorem oTup_eq (xs : List Val) (S : Sto) : oTup xs S = mkT (datas xs) S := (rfl)
def mkC (o : Option (List D)) (S : Sto) : Out Val := match o with
  | some ds => if ds.length ≤ szL then .ok (.r S.length) (S ++ [.lst ds]) else .bad
  | none => .bad
@[simp] theorem mkC_some (ds : List D) (S : Sto) : mkC (some ds) S = if ds.length ≤ szL then .ok (.r S.length) (S ++ [.lst ds]) else .bad := (rfl)
@[simp] theorem oCell_eq (xs : List Val) (S : Sto) : oCell xs S = mkC (datas xs) S := (rfl)
def mkL (o : Option (List D)) (S : Sto) : Out Val := match o with
  | some ds => if ds.length ≤ szL then .ok (.d (.lst ds)) S else .bad
  | none => .bad
@[simp] theorem mkL_some (ds : List D) (S : Sto) : mkL (some ds) S = if ds.length ≤ szL then .ok (.d (.lst ds)) S else .bad := (rfl)
@[simp] theorem oLst_eq (xs : List Val) (S : Sto) : oLst xs S = mkL (datas xs) S := (rfl)
def cAdd (c : Option (List D)) (c' : Option (List D)) (S : Sto) : Out Val := match c, c' with
  | some a, some b => if a.length + b.length ≤ szL then .ok (.r S.length) (S ++ [.lst (a ++ b)]) else .bad
  | _, _ => .bad
@[simp] theorem cAdd_some (a b : List D) (S : Sto) : cAdd (some a) (some b) S = if a.length + b.length ≤ szL then .ok (.r S.length) (S ++ [.lst (a ++ b)]) else .bad := (rfl)
def cellL (c : Option Cell) : Option (List D) := match c with
  | some (.lst ds) => some ds
  | _ => none
@[simp] theorem cellL_lst (ds : List D) : cellL (some (.lst ds)) = some ds := (rfl)
@[simp] theorem trkL_r (n : Nat) (S : Sto) : trkL (.r n) S = cellL S[n]? := by
  unfold trkL cellL
  dsimp only
  all_goals (cases S[n]? with
  | none => rfl
  | some c => cases c <;> rfl)
@[simp] theorem trkL_lst (ds : List D) (S : Sto) : trkL (.d (.lst ds)) S = some ds := (rfl)
@[simp] theorem oAddC_eq (x y : Val) (S : Sto) : oAddC x y S = cAdd (trkL x S) (trkL y S) S := by
  unfold oAddC cAdd
  cases trkL x S <;> cases trkL y S <;> rfl
def lAdd (c : Option (List D)) (c' : Option (List D)) (S : Sto) : Out Val := match c, c' with
  | some a, some b => if a.length + b.length ≤ szL then .ok (.d (.lst (a ++ b))) S else .bad
  | _, _ => .bad
@[simp] theorem lAdd_some (a b : List D) (S : Sto) : lAdd (some a) (some b) S = if a.length + b.length ≤ szL then .ok (.d (.lst (a ++ b))) S else .bad := (rfl)
@[simp] theorem oAdd_r (n : Nat) (y : Val) (S : Sto) : oAdd (.r n) y S = lAdd (trkL (.r n) S) (trkL y S) S := by
  unfold oAdd lAdd
  dsimp only
  all_goals (cases trkL (.r n) S <;> cases trkL y S <;> rfl)
@[simp] theorem oAdd_lst (ds : List D) (y : Val) (S : Sto) : oAdd (.d (.lst ds)) y S = lAdd (some ds) (trkL y S) S := by
  unfold oAdd lAdd
  dsimp only [trkL_lst]
  all_goals (cases trkL y S <;> rfl)
@[simp] theorem oRepL_lst (ds : List D) (k : Int) (S : Sto) : oRepL (.d (.lst ds)) (.d (.int k)) S = if 0 ≤ k ∧ k ≤ 100000 ∧ ds.length ≤ 100 then .ok (.d (.lst (List.replicate k.toNat ds).flatten)) S else .bad := (rfl)
@[simp] theorem oRepC_lst (ds : List D) (k : Int) (S : Sto) : oRepC (.d (.lst ds)) (.d (.int k)) S = if 0 ≤ k ∧ k ≤ 100000 ∧ ds.length ≤ 100 then .ok (.r S.length) (S ++ [.lst (List.replicate k.toNat ds).flatten]) else .bad := (rfl)
def cExt (c : Option Cell) (n : Nat) (c' : Option (List D)) (S : Sto) : Out Val := match c, c' with
  | some (.lst ds), some es => if ds.length + es.length ≤ szL then .ok (.d .non) (S.set n (.lst (ds ++ es))) else .bad
  | _, _ => .bad
@[simp] theorem cExt_lst (ds es : List D) (n : Nat) (S : Sto) : cExt (some (.lst ds)) n (some es) S = if ds.length + es.length ≤ szL then .ok (.d .non) (S.set n (.lst (ds ++ es))) else .bad := (rfl)
@[simp] theorem mExtend_r (n : Nat) (y : Val) (S : Sto) : mExtend (.r n) [y] S = cExt S[n]? n (trkL y S) S := by
  unfold mExtend cExt
  dsimp only
  all_goals (cases S[n]? with
  | none => cases trkL y S <;> rfl
  | some c => cases c <;> cases trkL y S <;> rfl)
def isiV (o : Option Bool) (S : Sto) : Out Val := match o with
  | some b => .ok (.d (.bl b)) S
  | none => .bad
@[simp] theorem isiV_some (b : Bool) (S : Sto) : isiV (some b) S = .ok (.d (.bl b)) S := (rfl)
@[simp] theorem oIsi_d (t : Tn) (d : D) (S : Sto) : oIsi t (.d d) S = isiV (isi d t) S := by
  unfold oIsi isiV; dsimp only; all_goals (cases isi d t <;> rfl)
@[simp] theorem oFrz_d (d : D) (S : Sto) : oFrz (.d d) S = .ok (.d d) S := (rfl)
@[simp] theorem dFin_d (S : Sto) (d : D) (S' : Sto) : dFin S (.d d) S' = .ok (.d d) (S'.take S.length) := (rfl)
@[simp] theorem iRng1_eq (j : Int) (S : Sto) : iRng1 [.d (.int j)] S = if smallI j = true then .ok ⟨rngD 0 j.toNat, []⟩ S else .bad := (rfl)
@[simp] theorem diRng1_eq (As : DAf) (env : Env) (S : Sto) : diRng1 As env S = (As env S).bind fun xs S1 => iRng1 xs S1 := (rfl)
@[simp] theorem iSeq_tup (ds : List D) (S : Sto) : iSeq (.d (.tup ds)) S = .ok ⟨ds, []⟩ S := (rfl)
@[simp] theorem iSeq_lst (ds : List D) (S : Sto) : iSeq (.d (.lst ds)) S = .ok ⟨ds, []⟩ S := (rfl)
@[simp] theorem diSeq_eq (f : DEf) (env : Env) (S : Sto) : diSeq f env S = (f env S).bind fun x S1 => iSeq x S1 := (rfl)
@[simp] theorem dFor_eq (it : DIf) (g : DGf) (body : DSf) (env : Env) (S : Sto) : dFor it g body env S = (it env S).bind fun i S1 => dLoop g body i.wt i.ds env S1 := (rfl)
@[simp] theorem cMod_pos {i j : Int} : cMod i j = true ↔ j ≠ 0 := by simp [cMod]
@[simp] theorem ixN_lit {n : Nat} : ixN (n + 1) 0 = some 0 := by unfold ixN; rw [if_pos (by omega), if_pos (by omega)]; rfl
@[simp] theorem wtOk_nil' (S : Sto) : wtOk [] S ↔ True := ⟨fun _ => trivial, fun _ => wtOk_nil S⟩
theorem ok_fn {N : Nat} {body : DSf} {xs : List Val} {S : Sto} {Q : Val → Sto → Prop} (h : Ok (body (xs.map some ++ List.replicate (N - xs.length) none) S) fun fl S' => match fl with
    | .ret x => Ok (dFin S x S') Q
    | .nx _ => Q (.d .non) (S'.take S.length)
    | _ => False) : Ok (dFn N body xs S) Q := by
  obtain ⟨fl, S', e, q⟩ := h
  unfold dFn
  rw [e]
  cases fl with
  | nx env => exact ⟨_, _, rfl, q⟩
  | ret x => exact q
  | brk env => exact q.elim
  | cnt env => exact q.elim
/-- a loop, by what holds at each turn -/
theorem ok_loop {g : DGf} {body : DSf} {wt : List (Nat × List D)} {ds : List D} {env : Env} {S : Sto} {Q : Fl → Sto → Prop} (I : Nat → Env → Sto → Prop) (h0 : I 0 env S) (hw : ∀ i env S, I i env S → wtOk wt S)
    (hs : ∀ i d env S, ds[i]? = some d → I i env S → Ok (g (.d d) env S) fun env1 S1 => Ok (body env1 S1) fun fl S2 => match fl with
      | .nx e => I (i + 1) e S2
      | .cnt e => I (i + 1) e S2
      | .brk e => Q (.nx e) S2
      | .ret x => Q (.ret x) S2) (hd : ∀ env S, I ds.length env S → Q (.nx env) S) : Ok (dLoop g body wt ds env S) Q := by
  have key : ∀ (es : List D) (i : Nat) (env : Env) (S : Sto), ds.drop i = es → i + es.length = ds.length → I i env S → Ok (dLoop g body wt es env S) Q := by
    intro es
    induction es with
    | nil =>
      intro i env S e hl h
      unfold dLoop
      rw [if_pos (hw i env S h)]
      have : i = ds.length := by simpa using hl
      subst this
      exact ok_ok.mpr (hd env S h)
    | cons d es ih =>
      intro i env S e hl h
      unfold dLoop
      rw [if_pos (hw i env S h), ok_bind]
      have hi : i < ds.length := by simp at hl; omega
      have ed : ds[i]? = some d := by
        rw [List.drop_eq_getElem_cons hi] at e
        rw [List.getElem?_eq_getElem hi]
        exact congrArg some (List.cons.inj e).1
      have er : ds.drop (i + 1) = es := by
        rw [List.drop_eq_getElem_cons hi] at e
        exact (List.cons.inj e).2
      refine (hs i d env S ed h).mono fun env1 S1 h1 => ?_
      rw [ok_bind]
      refine h1.mono fun fl S2 h2 => ?_
      cases fl with
      | nx e' => exact ih (i + 1) e' S2 er (by simp at hl; omega) h2
      | cnt e' => exact ih (i + 1) e' S2 er (by simp at hl; omega) h2
      | brk e' => exact ok_ok.mpr h2
      | ret x => exact ok_ok.mpr h2
  exact key ds 0 env S (by simp) (by simp) h0
/-- a while, by what holds at each turn and a measure -/
theorem ok_while {c : DTf} {body : DSf} {env : Env} {S : Sto} {Q : Fl → Sto → Prop} (I : Nat → Env → Sto → Prop) (n : Nat) (h0 : I n env S)
    (hs : ∀ n env S, I n env S → Ok (c env S) fun b S1 => if b = true then Ok (body env S1) fun fl S2 => match fl with
      | .nx e => ∃ m, m < n ∧ I m e S2
      | .cnt e => ∃ m, m < n ∧ I m e S2
      | .brk e => Q (.nx e) S2
      | .ret x => Q (.ret x) S2
      else Q (.nx env) S1) : Ok (dWhile c body env S) Q := by
  have key : ∀ (N n : Nat), n ≤ N → ∀ env S, I n env S → Ok (dWhileN c body (N + 1) env S) Q := by
    intro N
    induction N with
    | zero =>
      intro n hn env S h
      unfold dWhileN
      rw [ok_bind]
      refine (hs n env S h).mono fun b S1 h1 => ?_
      cases b with
      | false => exact ok_ok.mpr (by simpa using h1)
      | true =>
        simp only [if_true] at h1 ⊢
        rw [ok_bind]
        refine h1.mono fun fl S2 h2 => ?_
        cases fl with
        | nx e => obtain ⟨m, hm, _⟩ := h2; omega
        | cnt e => obtain ⟨m, hm, _⟩ := h2; omega
        | brk e => exact ok_ok.mpr h2
        | ret x => exact ok_ok.mpr h2
    | succ N ih =>
      intro n hn env S h
      unfold dWhileN
      rw [ok_bind]
      refine (hs n env S h).mono fun b S1 h1 => ?_
      cases b with
      | false => exact ok_ok.mpr (by simpa using h1)
      | true =>
        simp only [if_true] at h1 ⊢
        rw [ok_bind]
        refine h1.mono fun fl S2 h2 => ?_
        cases fl with
        | nx e => obtain ⟨m, hm, hI⟩ := h2; exact ih m (by omega) e S2 hI
        | cnt e => obtain ⟨m, hm, hI⟩ := h2; exact ih m (by omega) e S2 hI
        | brk e => exact ok_ok.mpr h2
        | ret x => exact ok_ok.mpr h2
  have k := key n n (Nat.le_refl _) env S h0
  have ne : dWhileN c body (n + 1) env S ≠ .bad := fun z => by
    obtain ⟨_, _, e, _⟩ := k
    rw [z] at e; cases e
  rw [dWhile_of ne]
  exact k
/-- a comprehension whose items leave the store as it was: f tells the items -/
theorem ok_lc {it : DIf} {g : DGf} {te : DEf} {vs : List Nat} {env : Env} {S : Sto} {ds : List D} {f : D → D} {Q : Val → Sto → Prop} (hi : it env S = .ok ⟨ds, []⟩ S) (hl : ds.length ≤ szL)
    (hf : ∀ d ∈ ds, ∀ c, Ok (g (.d d) (wipeE env vs) (S ++ [c])) fun env1 S1 => Ok (te env1 S1) fun z S2 => z = .d (f d) ∧ S2 = S ++ [c]) (q : Q (.d (.lst (ds.map f))) S) : Ok (dLc it g dYes te vs env S) Q := by
  have key : ∀ (es acc : List D), (∀ d ∈ es, d ∈ ds) → acc.length + es.length ≤ szL → lcLoop g dYes te [] (wipeE env vs) S.length es acc (S ++ [.lst acc]) = .ok (acc ++ es.map f) (S ++ [.lst (acc ++ es.map f)]) := by
    intro es
    induction es with
    | nil =>
      intro acc _ _
      unfold lcLoop
      rw [if_pos ⟨wtOk_nil _, by simp⟩]
      simp
    | cons d es ih =>
      intro acc hm hz
      unfold lcLoop
      rw [if_pos (wtOk_nil _)]
      obtain ⟨env1, S1, e1, z, S2, e2, rfl, rfl⟩ := hf d (hm d List.mem_cons_self) (.lst acc)
      rw [e1]
      simp only [Out.bind_ok, dYes, if_true, e2]
      rw [if_pos ⟨by simp at hz; omega, by simp⟩]
      have e3 : (S ++ [Cell.lst acc]).set S.length (.lst (acc ++ [f d])) = S ++ [.lst (acc ++ [f d])] := by simp
      rw [e3, ih (acc ++ [f d]) (fun x hx => hm x (List.mem_cons_of_mem _ hx)) (by simp at hz ⊢; omega)]
      simp
  unfold dLc
  rw [hi]
  simp only [Out.bind_ok]
  rw [key ds [] (fun _ h => h) (by simpa using hl)]
  simpa using q
/-- all(..) likewise -/
theorem ok_allG {it : DIf} {g : DGf} {te : DEf} {vs : List Nat} {env : Env} {S : Sto} {ds : List D} {f : D → Bool} {Q : Val → Sto → Prop} (hi : it env S = .ok ⟨ds, []⟩ S)
    (hf : ∀ d ∈ ds, Ok (g (.d d) (wipeE env vs) S) fun env1 S1 => Ok (te env1 S1) fun z S2 => z = .d (.bl (f d)) ∧ S2 = S) (q : Q (.d (.bl (ds.all f))) S) : Ok (dAllG it g te vs env S) Q := by
  have key : ∀ (es : List D), (∀ d ∈ es, d ∈ ds) → allLoop g te [] (wipeE env vs) es S = .ok (.d (.bl (es.all f))) S := by
    intro es
    induction es with
    | nil => intro _; unfold allLoop; rw [if_pos (wtOk_nil _)]; rfl
    | cons d es ih =>
      intro hm
      unfold allLoop
      rw [if_pos (wtOk_nil _)]
      obtain ⟨env1, S1, e1, z, S2, e2, rfl, rfl⟩ := hf d (hm d List.mem_cons_self)
      rw [e1]
      simp only [Out.bind_ok, e2]
      cases hb : f d with
      | true => simp only [List.all_cons, hb, Bool.true_and]; exact ih fun x hx => hm x (List.mem_cons_of_mem _ hx)
      | false => simp [hb]
  unfold dAllG
  rw [hi]
  simp only [Out.bind_ok]
  rw [key ds fun _ h => h]
  exact ok_ok.mpr q
end Dn
set_option Elab.async false
set_option linter.all false
set_option maxRecDepth 100000
set_option maxHeartbeats 1000000
/-! ### data without objects, ints below 2^b, tuples and lists not longer than l -/
namespace Dn
open PySem PySem.Spec PyProof.Rows L2
mutual
def gD (b l : Nat) : D → Bool
  | .non => true
  | .bl _ => true
  | .int i => decide (i.natAbs < 2 ^ b)
  | .str _ => true
  | .tup ds => decide (ds.length ≤ l) && gDs b l ds
  | .lst ds => decide (ds.length ≤ l) && gDs b l ds
  | .con _ => false
  | .dic => true
  | .obj _ _ => false
def gDs (b l : Nat) : List D → Bool
  | [] => true
  | d :: ds => gD b l d && gDs b l ds
end
theorem gDs_all {b l : Nat} : ∀ {ds : List D}, gDs b l ds = true ↔ ∀ d ∈ ds, gD b l d = true
  | [] => by simp [gDs]
  | d :: ds => by simp [gDs, gDs_all (ds := ds)]
mutual
theorem gD_mono {b l b' l' : Nat} (hb : b ≤ b') (hl : l ≤ l') : ∀ d : D, gD b l d = true → gD b' l' d = true
  | .non, h => rfl
  | .bl _, h => rfl
  | .int i, h => by
    simp only [gD, decide_eq_true_eq] at h ⊢
    exact Nat.lt_of_lt_of_le h (Nat.pow_le_pow_right (by decide) hb)
  | .str _, h => rfl
  | .tup ds, h => by
    simp only [gD, Bool.and_eq_true, decide_eq_true_eq] at h ⊢
    exact ⟨Nat.le_trans h.1 hl, gDs_mono hb hl ds h.2⟩
  | .lst ds, h => by
    simp only [gD, Bool.and_eq_true, decide_eq_true_eq] at h ⊢
    exact ⟨Nat.le_trans h.1 hl, gDs_mono hb hl ds h.2⟩
  | .con _, h => by simp [gD] at h
  | .dic, h => rfl
  | .obj _ _, h => by simp [gD] at h
theorem gDs_mono {b l b' l' : Nat} (hb : b ≤ b') (hl : l ≤ l') : ∀ ds : List D, gDs b l ds = true → gDs b' l' ds = true
  | [], h => rfl
  | d :: ds, h => by
    simp only [gDs, Bool.and_eq_true] at h ⊢
    exact ⟨gD_mono hb hl d h.1, gDs_mono hb hl ds h.2⟩
end
theorem ok_eq {α : Type} {r : Out α} {a : α} {S : Sto} (h : Ok r fun x S' => x = a ∧ S' = S) : r = .ok a S := by
  obtain ⟨x, S', e, rfl, rfl⟩ := h; exact e
theorem eq_ok {α : Type} {r : Out α} {a : α} {S : Sto} {Q : α → Sto → Prop} (h : r = .ok a S) (q : Q a S) : Ok r Q := ⟨a, S, h, q⟩
/-! what a fraction, a row are -/
def wholeB : D → Bool
  | .int _ => true
  | _ => false
def fromB (d : D) (lo hi : Int) : Bool := match d with
  | .int i => decide (lo ≤ i) && decide (i ≤ hi)
  | _ => false
def tupB (d : D) (lo hi : Int) : Bool := match d with
  | .tup ds => decide (lo ≤ ds.length) && decide (ds.length ≤ hi)
  | _ => false
def fracB : D → Bool
  | .tup [.int a, .int b] => decide (0 < b) && decide (Nat.gcd a.natAbs b.natAbs = 1)
  | _ => false
def rowB (n : Int) : D → Bool
  | .tup ds => decide ((ds.length : Int) = n) && ds.all fracB
  | _ => false
def wishB (n : Int) : D → Bool
  | .tup [r, f] => rowB n r && fracB f
  | _ => false
def lotB (most : Int) : D → Bool
  | .tup [.int n, .tup ws] => decide (1 ≤ n) && decide (n ≤ 12) && decide ((ws.length : Int) ≤ most) && ws.all (wishB n)
  | _ => false
@[simp] theorem isi_int_tup (x : List D) : isi (.tup x) .int = some false := rfl
/-- a pair or not -/
theorem pair_cases (ds : List D) : (∃ x y, ds = [x, y]) ∨ ds.length ≠ 2 := by
  match ds with
  | [] => exact .inr (by simp)
  | [x] => exact .inr (by simp)
  | [x, y] => exact .inl ⟨x, y, rfl⟩
  | x :: y :: z :: r => exact .inr (by simp)
end Dn
set_option Elab.async false
set_option linter.all false
set_option maxRecDepth 100000
set_option maxHeartbeats 4000000
/-! ### shifts to the left -/
namespace Dn
open PySem PySem.Spec PyProof.Rows L2 GxR Gx
section
variable {W : Wd} {E : XK} {X : Cx} {pos : Pos}
def oShl : Op2 := oI cPow fun i j => .int (i * 2 ^ j.toNat)
theorem dop_shl : DOp W E (rI CPow fun i j => .int (i * 2 ^ j.toNat)) oShl := dop_I (fun _ _ h => by simpa [cPow, CPow, and_assoc] using h) fun _ _ _ _ => by simp [RelD]
theorem de_shl {a b : Expr} {f g : DEf} (ha : DE W E X a f) (hb : DE W E X b g) : DE W E X (.BinOp a .LShift b pos) (dOp oShl f g) := de_op L2.op_shl dop_shl ha hb
def bDivmodW : Op2 := fun x y S => match x, y with
  | .d (.int i), .d (.int j) => if 0 < j ∧ j.natAbs.log2 < 9000 then .ok (.d (.tup [.int (i / j), .int (i % j)])) S else .bad
  | _, _ => .bad
theorem dc_divmodW : DCall W E (fun xs H Q => ∃ i j, xs = [.int i, .int j] ∧ CDivP i j ∧ ∀ p, H p = none → Q (.ref p) (upd H p (.tup [.int (i / j), .int (i % j)]))) (o2 bDivmodW) := dcall2 fun x y S H μ v w Q s rx ry p => by
  unfold bDivmodW at p
  split at p
  · rename_i i j
    split at p
    · rename_i c
      refine ⟨i, j, by rw [int_rel rx, int_rel ry], ⟨c.1, PyProof.noPylong_of_log2 c.2⟩, fun b hb => ?_⟩
      obtain ⟨k, r⟩ := post_tup (vs := [.int (i / j), .int (i % j)]) p s hb (by simp [RelDs, RelD])
      exact k _ r
    · exact p.elim
  · exact p.elim
end
@[simp] theorem bDivmodW_int (i j : Int) (S : Sto) : bDivmodW (.d (.int i)) (.d (.int j)) S = if 0 < j ∧ j.natAbs.log2 < 9000 then .ok (.d (.tup [.int (i / j), .int (i % j)])) S else .bad := (rfl)
@[simp] theorem oShl_int (i j : Int) (S : Sto) : oShl (.d (.int i)) (.d (.int j)) S = if cPow i j = true then .ok (.d (.int (i * 2 ^ j.toNat))) S else .bad := (rfl)
end Dn
set_option Elab.async false
set_option linter.all false
set_option maxRecDepth 100000
set_option maxHeartbeats 4000000
/-! ### zip over two sequences, each a list or a tuple -/
namespace Zm
open PySem PySem.Spec PyProof.Rows L2 RZ
/-- true: a tuple, false: a list -/
def At (t : Bool) (h : Heap) (j l : Addr) (k : Nat) : Prop := match t with
  | true => h.IsTupleIter j l k
  | false => h.IsListIter j l k
def Sq (t : Bool) (h : Heap) (l : Addr) (xs : Array Value) : Prop := match t with
  | true => h.IsTuple l xs
  | false => h.IsList l xs
section
variable {t u : Bool} {h h' : Heap} {j l c : Addr} {k : Nat} {xs : Array Value}
theorem At.ext (a : At t h j l k) (e : Heap.ExtBut c h h') (n : j ≠ c) : At t h' j l k := by
  cases t with
  | true => exact Heap.IsTupleIter.extBut a e n
  | false => exact Heap.IsListIter.extBut a e n
theorem Sq.ext (a : Sq t h l xs) (e : Heap.ExtBut c h h') (n : l ≠ c) : Sq t h' l xs := by
  cases t with
  | true => exact Heap.IsTuple.extBut a e n
  | false => exact Heap.IsList.extBut a e n
theorem At.same (a : At t h j l k) (e : ∀ o, h.get? j = some o → h'.get? j = some o) : At t h' j l k := by
  cases t with
  | true => exact Heap.IsTupleIter.at a e
  | false => exact Heap.IsListIter.at a e
theorem At.ob (a : At t h j l k) : ∃ o, h.get? j = some o ∧ ∀ v, o.data ≠ .cell v := by
  cases t with
  | true =>
    obtain ⟨o, e, _, d⟩ := a
    exact ⟨o, e, fun v q => by rw [d] at q; cases q⟩
  | false =>
    obtain ⟨o, e, _, d⟩ := a
    exact ⟨o, e, fun v q => by rw [d] at q; cases q⟩
end
section
variable {pg : Program} {w : World} {A : Around} {E : Value → Shared → Prop} {s : Shared} {t u : Bool}
theorem step {j l : Addr} {k : Nat} {xs : Array Value} {x : Value} {Q : Value → Shared → Prop} (a : At t s.heap j l k) (q : Sq t s.heap l xs) (e : xs[k]? = some x)
    (go : ∀ g, At t g j l (k + 1) → Heap.SameBut j s.heap g → Q x { s with heap := g }) : wpAny (model pg w) A (Builtin.SmallTypes.nextOf (.ref j)) Q E s := by
  cases t with
  | true => exact nextOf_tuple_item a q e go
  | false => exact wpAny_nextOf_list_item a q e go
theorem over {j l : Addr} {k : Nat} {xs : Array Value} {Q : Value → Shared → Prop} (hh : A.handled = none) (a : At t s.heap j l k) (q : Sq t s.heap l xs) (e : xs[k]? = none)
    (go : ∀ g f, Heap.ExtBut j s.heap g → (∃ o, g.get? f = some o ∧ o.cls = .type "StopIteration") → E (.ref f) { s with heap := g }) : wpAny (model pg w) A (Builtin.SmallTypes.nextOf (.ref j)) Q E s := by
  cases t with
  | true => exact nextOf_tuple_end hh a q e go
  | false => exact wpAny_nextOf_list_end hh a q e go
/-- what is kept by a turn: all but the zip, its pair and both iterators -/
abbrev Kept (h g : Heap) (Z O i j : Addr) : Prop := ∀ c o, c ≠ Z → c ≠ O → c ≠ i → c ≠ j → h.get? c = some o → g.get? c = some o
variable {Z I O i j a b : Addr} {k m : Nat} {xs ys : Array Value} {va vb x y : Value}
theorem turn {Q : Value → Shared → Prop} (D : ZipApart Z I O i j a b) (hz : IsZip s.heap Z I O .none) (hI : IsPair s.heap I (.ref i) (.ref j)) (hO : IsPair s.heap O va vb) (p1 : At t s.heap i a k) (p2 : At u s.heap j b m)
    (q1 : Sq t s.heap a xs) (q2 : Sq u s.heap b ys) (e1 : xs[k]? = some x) (e2 : ys[m]? = some y)
    (go : ∀ g, IsZip g Z I O (rawInt s.heap.objs.size) ∧ IsPair g O x y ∧ At t g i a (k + 1) ∧ At u g j b (m + 1) ∧ IsPair g s.heap.objs.size x y → Kept s.heap g Z O i j → Q (.ref s.heap.objs.size) { s with heap := g }) :
    wpAny (model pg w) A (Builtin.«zip.__next__» ⟨[.ref Z], []⟩) (fun f s' => ∃ v, f = .done (.ret v) ∧ Q v s') E s := by
  show wpAny _ _ (field (.ref Z) 2 >>= _) _ _ _; refine wpAny_bind (wpAny_field hz rfl (x := .bool false) rfl ?_)
  show wpAny _ _ (field (.ref Z) 3 >>= _) _ _ _; refine wpAny_bind (wpAny_field hz rfl (x := .ref I) rfl (wpAny_bind (wpAny_seqItems hI rfl ?_)))
  show wpAny _ _ (Builtin.SmallTypes.ownedTupleIsFree (.ref Z) >>= _) _ _ _; refine wpAny_bind ?_; unfold Builtin.SmallTypes.ownedTupleIsFree
  refine wpAny_bind (wpAny_field hz rfl (x := .none) rfl (wpAny_pure ?_)); simp only [if_true]
  refine wpAny_bind (wpAny_rule (wpAny_bind (wpAny_field hz rfl (x := .ref O) rfl (wpAny_bind (wpAny_setField_rec hz (by simp) fun g1 z1 k1 => ?_)))))
  replace z1 : IsZip g1 Z I O .ellipsis := z1
  refine wpAny_bind ?_; simp only [List.zipIdx_cons, List.zipIdx_nil, List.forIn_cons, List.forIn_nil]; refine wpAny_bind (wpAny_bind (wpAny_onRaise ?_))
  show wpAny _ _ (Builtin.SmallTypes.nextOf (.ref i) >>= _) _ _ _; refine wpAny_bind (step (p1.ext k1.extBut D.i1z) (q1.ext k1.extBut D.l1z) e1 fun g2 r1 k2 => wpAny_pure ?_)
  have o2 : IsPair g2 O va vb := k2.extBut _ _ D.TOi1 (k1.extBut _ _ D.TOz hO)
  refine wpAny_bind (wpAny_seqItems o2 rfl (wpAny_bind (wpAny_updateSeq_pair o2 fun g3 o3 k3 => ?_))); replace o3 : IsPair g3 O x vb := o3
  refine wpAny_bind (wpAny_letGo (wpAny_pure (wpAny_bind (wpAny_bind (wpAny_onRaise ?_)))))
  show wpAny _ _ (Builtin.SmallTypes.nextOf (.ref j) >>= _) _ _ _
  refine wpAny_bind (step (((p2.ext k1.extBut D.i2z).ext k2.extBut D.i12.symm).ext k3.extBut D.TOi2.symm) (((q2.ext k1.extBut D.l2z).ext k2.extBut D.l2i1).ext k3.extBut D.l2TO) e2 fun g4 r2 k4 => wpAny_pure ?_)
  have o4 : IsPair g4 O x vb := k4.extBut _ _ D.TOi2 o3
  refine wpAny_bind (wpAny_seqItems o4 rfl (wpAny_bind (wpAny_updateSeq_pair o4 fun g5 o5 k5 => ?_))); replace o5 : IsPair g5 O x y := o5
  refine wpAny_bind (wpAny_letGo (wpAny_pure (wpAny_pure (wpAny_bind (wpAny_seqItems o5 rfl (wpAny_bind (wpAny_newTuple ?_)))))))
  have sz : g5.objs.size = s.heap.objs.size := by rw [k5.1, k4.1, k3.1, k2.1, k1.1]
  have z5 : IsZip g5 Z I O .ellipsis := k5.extBut _ _ D.TOz.symm (k4.extBut _ _ D.i2z.symm (k3.extBut _ _ D.TOz.symm (k2.extBut _ _ D.i1z.symm z1)))
  have kp : Kept s.heap g5 Z O i j := fun c o n1 n2 n3 n4 e => k5.extBut _ _ n2 (k4.extBut _ _ n4 (k3.extBut _ _ n2 (k2.extBut _ _ n3 (k1.extBut _ _ n1 e))))
  have f1 : At t g5 i a (k + 1) := ((r1.ext k3.extBut D.TOi1.symm).ext k4.extBut D.i12).ext k5.extBut D.TOi1.symm
  have f2 : At u g5 j b (m + 1) := r2.ext k5.extBut D.TOi2.symm
  show wpAny _ _ (Builtin.SmallTypes.ownedTupleHandOut (.ref Z) (.ref g5.objs.size) >>= _) _ _ _
  refine wpAny_bind ?_; unfold Builtin.SmallTypes.ownedTupleHandOut
  have z6 : IsZip (g5.push { cls := .type "tuple", data := .seq #[x, y] }) Z I O .ellipsis := Heap.get?_push_of_some _ z5
  refine wpAny_bind (wpAny_setField_rec z6 (by simp) fun g7 z7 k7 => ?_); replace z7 : IsZip g7 Z I O (rawInt g5.objs.size) := z7
  refine wpAny_setField_rec z7 (by simp) fun g8 z8 k8 => ?_; replace z8 : IsZip g8 Z I O (rawInt g5.objs.size) := z8
  have up : ∀ c o, c ≠ Z → g5.get? c = some o → g8.get? c = some o := fun c o n e => k8.extBut _ _ n (k7.extBut _ _ n (Heap.get?_push_of_some _ e))
  have nz : g5.objs.size ≠ Z := Nat.ne_of_gt (Heap.lt_size z5)
  have o8 : IsPair g8 g5.objs.size x y := k8.extBut _ _ nz (k7.extBut _ _ nz (Heap.get?_push_size _ rfl))
  rw [sz] at z8 o8
  refine wpAny_pure ⟨_, rfl, ?_⟩; show Q (.ref g5.objs.size) _; rw [sz]
  exact go g8 ⟨z8, up _ _ D.TOz o5, f1.same fun o e => up _ o D.i1z e, f2.same fun o e => up _ o D.i2z e, o8⟩ fun c o n1 n2 n3 n4 e => up c o n1 (kp c o n1 n2 n3 n4 e)
theorem last {Q : Fin → Shared → Prop} (hh : A.handled = none) (D : ZipApart Z I O i j a b) (hz : IsZip s.heap Z I O .none) (hI : IsPair s.heap I (.ref i) (.ref j)) (hO : IsPair s.heap O va vb) (p1 : At t s.heap i a k) (p2 : At u s.heap j b m)
    (q1 : Sq t s.heap a xs) (q2 : Sq u s.heap b ys) (no : xs[k]? = none ∨ ys[m]? = none) (go : ∀ g f, Kept s.heap g Z O i j → (∃ o, g.get? f = some o ∧ o.cls = .type "StopIteration") → E (.ref f) { s with heap := g }) :
    wpAny (model pg w) A (Builtin.«zip.__next__» ⟨[.ref Z], []⟩) Q E s := by
  show wpAny _ _ (field (.ref Z) 2 >>= _) _ _ _; refine wpAny_bind (wpAny_field hz rfl (x := .bool false) rfl ?_)
  show wpAny _ _ (field (.ref Z) 3 >>= _) _ _ _; refine wpAny_bind (wpAny_field hz rfl (x := .ref I) rfl (wpAny_bind (wpAny_seqItems hI rfl ?_)))
  show wpAny _ _ (Builtin.SmallTypes.ownedTupleIsFree (.ref Z) >>= _) _ _ _; refine wpAny_bind ?_; unfold Builtin.SmallTypes.ownedTupleIsFree
  refine wpAny_bind (wpAny_field hz rfl (x := .none) rfl (wpAny_pure ?_)); simp only [if_true]
  refine wpAny_bind (wpAny_rule (wpAny_bind (wpAny_field hz rfl (x := .ref O) rfl (wpAny_bind (wpAny_setField_rec hz (by simp) fun g1 z1 k1 => ?_)))))
  replace z1 : IsZip g1 Z I O .ellipsis := z1
  refine wpAny_bind ?_; simp only [List.zipIdx_cons, List.zipIdx_nil, List.forIn_cons, List.forIn_nil]; refine wpAny_bind (wpAny_bind (wpAny_onRaise ?_))
  show wpAny _ _ (Builtin.SmallTypes.nextOf (.ref i) >>= _) _ _ _
  by_cases e1 : xs[k]? = none
  · refine wpAny_bind (over hh (p1.ext k1.extBut D.i1z) (q1.ext k1.extBut D.l1z) e1 fun g2 f k2 ⟨of, hf, cf⟩ => ?_)
    have z2 : IsZip g2 Z I O .ellipsis := k2 _ _ D.i1z.symm z1
    have fz : f ≠ Z := fun q => by subst q; rw [z2] at hf; cases hf; simp at cf
    exact wpAny_setField_rec z2 (by simp) fun g3 _ k3 => go g3 f (fun c o n1 _ n3 _ q => k3.extBut _ _ n1 (k2 _ _ n3 (k1.extBut _ _ n1 q))) ⟨of, k3.extBut _ _ fz hf, cf⟩
  · obtain ⟨x, ex⟩ := Option.ne_none_iff_exists'.mp e1
    have e2 : ys[m]? = none := no.elim (fun q => absurd q e1) id
    refine wpAny_bind (step (p1.ext k1.extBut D.i1z) (q1.ext k1.extBut D.l1z) ex fun g2 r1 k2 => wpAny_pure ?_)
    have o2 : IsPair g2 O va vb := k2.extBut _ _ D.TOi1 (k1.extBut _ _ D.TOz hO)
    refine wpAny_bind (wpAny_seqItems o2 rfl (wpAny_bind (wpAny_updateSeq_pair o2 fun g3 o3 k3 => wpAny_bind (wpAny_letGo (wpAny_pure (wpAny_bind (wpAny_bind (wpAny_onRaise ?_))))))))
    show wpAny _ _ (Builtin.SmallTypes.nextOf (.ref j) >>= _) _ _ _
    refine wpAny_bind (over hh (((p2.ext k1.extBut D.i2z).ext k2.extBut D.i12.symm).ext k3.extBut D.TOi2.symm) (((q2.ext k1.extBut D.l2z).ext k2.extBut D.l2i1).ext k3.extBut D.l2TO) e2 fun g4 f k4 ⟨of, hf, cf⟩ => ?_)
    have z4 : IsZip g4 Z I O .ellipsis := k4 _ _ D.i2z.symm (k3.extBut _ _ D.TOz.symm (k2.extBut _ _ D.i1z.symm z1))
    have fz : f ≠ Z := fun q => by subst q; rw [z4] at hf; cases hf; simp at cf
    exact wpAny_setField_rec z4 (by simp) fun g5 _ k5 => go g5 f (fun c o n1 n2 n3 n4 q => k5.extBut _ _ n1 (k4 _ _ n4 (k3.extBut _ _ n2 (k2.extBut _ _ n3 (k1.extBut _ _ n1 q))))) ⟨of, k5.extBut _ _ fz hf, cf⟩
end
/-! ### zip(a, b) -/
def nm (t : Bool) : String := match t with
  | true => "tuple_iterator"
  | false => "list_iterator"
abbrev itO (t : Bool) (l : Addr) : Obj := { cls := .type (nm t), data := .fields #[.ref l, .int 0 0] }
theorem iter_seq {pg : Program} {w : World} {A : Around} {E : Value → Shared → Prop} {s : Shared} {t : Bool} {l : Addr} {xs : Array Value} {Q : Value → Shared → Prop} (q : Sq t s.heap l xs) (go : Q (.ref s.heap.objs.size) { s with heap := s.heap.push (itO t l) }) :
    wpAny (model pg w) A (pyIter (.ref l)) Q E s := by
  cases t with
  | true => exact wpAny_pyIter_tuple q go
  | false => exact wpAny_pyIter_list q go
theorem Sq.push {t : Bool} {h : Heap} {l : Addr} {xs : Array Value} (q : Sq t h l xs) (o : Obj) : Sq t (h.push o) l xs := by
  cases t with
  | true => exact Heap.IsTuple.push q o
  | false => exact Heap.IsList.push q o
abbrev g1 (h : Heap) (t : Bool) (a : Addr) : Heap := h.push (itO t a)
abbrev g2 (h : Heap) (t u : Bool) (a b : Addr) : Heap := (g1 h t a).push (itO u b)
abbrev g3 (h : Heap) (t u : Bool) (a b : Addr) : Heap := (g2 h t u a b).push { cls := .type "tuple", data := .seq #[.ref h.objs.size, .ref (g1 h t a).objs.size] }
abbrev g4 (h : Heap) (t u : Bool) (a b : Addr) : Heap := (g3 h t u a b).push { cls := .type "tuple", data := .seq #[.none, .none] }
abbrev g5 (h : Heap) (t u : Bool) (a b : Addr) : Heap := (g4 h t u a b).push { cls := .type "zip", data := .fields #[.none, .bool false, .bool false, .ref (g2 h t u a b).objs.size, .ref (g3 h t u a b).objs.size] }
theorem made (t u : Bool) (a b : Addr) (xs ys : Array Value) : Meets (Builtin.«zip.__new__» ⟨[.type "zip", .ref a, .ref b], []⟩) (fun _ R s => Sq t s.heap a xs ∧ Sq u s.heap b ys ∧ R (.ok (.ret (.ref (g4 s.heap t u a b).objs.size))) { s with heap := g5 s.heap t u a b }) :=
  .of_wp fun pg w A R s h => by
    obtain ⟨hp, g, d, tk, os⟩ := s; obtain ⟨h1, h2, h⟩ := h
    have sub := sub_zip
    have s1 : Sq t (Shared.heap ⟨hp, g, d, tk, os⟩) a xs := h1
    have s2 : Sq u (Shared.heap ⟨hp.push (itO t a), g, d, tk, os⟩) b ys := h2.push _
    wp_walk using iter_seq s1, iter_seq s2
    exact ⟨_, rfl, h⟩
theorem zip_new {pg : Program} {w : World} {A : Around} {E : Value → Shared → Prop} {s : Shared} {t u : Bool} {a b : Addr} {xs ys : Array Value} {Q : Value → Shared → Prop} (q1 : Sq t s.heap a xs) (q2 : Sq u s.heap b ys)
    (go : ∀ g N, N = s.heap.objs.size → IsZip g (N + 4) (N + 2) (N + 3) .none → IsPair g (N + 2) (.ref N) (.ref (N + 1)) → IsPair g (N + 3) .none .none → At t g N a 0 → At u g (N + 1) b 0 → (∀ c o, s.heap.get? c = some o → g.get? c = some o) → Q (.ref (N + 4)) { s with heap := g }) :
    wpAny (model pg w) A (call (.type "zip") [.ref a, .ref b]) Q E s := by
  refine callType_new F.called_zip (by decide) (F.typeCall_zip_2 _ _) (F.newCall_zip_2 _ _) (fun z => F.args_object_init_3 z _ _) F.entry_zip_new (made t u a b xs ys) ⟨q1, q2, ?_⟩
  have n1 : (g1 s.heap t a).objs.size = s.heap.objs.size + 1 := Heap.size_push ..
  have n2 : (g2 s.heap t u a b).objs.size = s.heap.objs.size + 2 := by rw [Heap.size_push, n1]
  have n3 : (g3 s.heap t u a b).objs.size = s.heap.objs.size + 3 := by rw [Heap.size_push, n2]
  have n4 : (g4 s.heap t u a b).objs.size = s.heap.objs.size + 4 := by rw [Heap.size_push, n3]
  have o5 : (g5 s.heap t u a b).get? (g4 s.heap t u a b).objs.size = some _ := Heap.get?_push_size _ rfl
  have o4 : (g5 s.heap t u a b).get? (g3 s.heap t u a b).objs.size = some _ := Heap.get?_push_of_some _ (Heap.get?_push_size _ rfl)
  have o3 : (g5 s.heap t u a b).get? (g2 s.heap t u a b).objs.size = some _ := Heap.get?_push_of_some _ (Heap.get?_push_of_some _ (Heap.get?_push_size _ rfl))
  have o2 : (g5 s.heap t u a b).get? (g1 s.heap t a).objs.size = some (itO u b) := Heap.get?_push_of_some _ (Heap.get?_push_of_some _ (Heap.get?_push_of_some _ (Heap.get?_push_size _ rfl)))
  have o1 : (g5 s.heap t u a b).get? s.heap.objs.size = some (itO t a) := Heap.get?_push_of_some _ (Heap.get?_push_of_some _ (Heap.get?_push_of_some _ (Heap.get?_push_of_some _ (Heap.get?_push_size _ rfl))))
  show _ ∧ _
  rw [n2, n3, n4] at o5; rw [n1, n2] at o3; rw [n3] at o4; rw [n1] at o2; rw [n4]
  have at_ : ∀ (t : Bool) (h : Heap) (j l : Addr), h.get? j = some (itO t l) → At t h j l 0 := fun t h j l e => by
    cases t <;> exact ⟨_, e, rfl, rfl⟩
  exact ⟨⟨_, o5, rfl⟩, go _ _ rfl o5 o3 o4 (at_ _ _ _ _ o1) (at_ _ _ _ _ o2) fun c o x => Heap.get?_push_of_some _ (Heap.get?_push_of_some _ (Heap.get?_push_of_some _ (Heap.get?_push_of_some _ (Heap.get?_push_of_some _ x))))⟩
/-! ### in the hand layer -/
def SqA (t : Bool) (K : PySem.W.Frag) (H : Hp) (a : Addr) (xs : List V) : Prop := match t with
  | true => SqT K H a xs
  | false => SqL K H a xs
def ItM (t u : Bool) (K : PySem.W.Frag) (a b : Addr) : It where
  go := fun i H => ∃ (xs ys : List V) (x y : V), SqA t K H a xs ∧ SqA u K H b ys ∧ xs[i]? = some x ∧ ys[i]? = some y
  yld := fun i H v H' => ∃ T x y, v = .ref T ∧ H T = none ∧ H' = upd H T (.tup [x, y]) ∧ (∀ xs, SqA t K H a xs → xs[i]? = some x) ∧ ∀ ys, SqA u K H b ys → ys[i]? = some y
  stop := fun i H => ∃ xs ys : List V, SqA t K H a xs ∧ SqA u K H b ys ∧ (xs.length ≤ i ∨ ys.length ≤ i)
section
variable {X : Cx} {pins : List (Addr × Obj)} {σ : L2.St} {H : Hp} {s : Shared} {a : Addr} {xs ys : List V} {t : Bool}
theorem seqI (I : Inv X pins σ H s) (h : SqA t X.K H a xs) : ∃ its : List Value, Vals xs its ∧ Sq t s.heap a its.toArray ∧ a < s.heap.objs.size := by
  cases t with
  | true =>
    obtain ⟨its, r, p, _⟩ := I.tuple h
    obtain ⟨o, e, _⟩ := id p
    exact ⟨its, r, p, Heap.lt_size e⟩
  | false =>
    obtain ⟨its, r, p, _⟩ := I.list h
    exact ⟨its, r, p.isList, p.lt⟩
theorem seq_inj (I : Inv X pins σ H s) (h : SqA t X.K H a xs) (h' : SqA t X.K H a ys) : xs = ys := by
  cases t with
  | true => exact I.tuple_inj h h'
  | false => exact I.list_inj h h'
end
theorem turnM {P : Program} {w : World} {K : PySem.W.Frag} {elts : List Expr} {kk : Nat} {tpos : Pos} {t u : Bool} {a b Z I O i j : Addr} (D : ZipApart Z I O i j a b) :
    Turn P w K (.Tuple elts kk tpos) (ItM t u K a b) [Z, I, O, i, j] Z (fun n h => IsZip h Z I O .none ∧ IsPair h I (.ref i) (.ref j) ∧ (∃ x y, IsPair h O x y) ∧ At t h i a n ∧ At u h j b n) where
  mem := List.mem_cons_self
  obj := fun n h ⟨hz, hI, ⟨x, y, hO⟩, p1, p2⟩ c hc => by
    simp only [List.mem_cons, List.not_mem_nil, or_false] at hc
    rcases hc with rfl | rfl | rfl | rfl | rfl
    · exact ⟨_, hz, fun _ z => nomatch z⟩
    · exact ⟨_, hI, fun _ z => nomatch z⟩
    · exact ⟨_, hO, fun _ z => nomatch z⟩
    · exact p1.ob
    · exact p2.ob
  keep := fun n h h' ⟨hz, hI, ⟨x, y, hO⟩, p1, p2⟩ k => ⟨k Z (by simp) _ hz, k I (by simp) _ hI, ⟨x, y, k O (by simp) _ hO⟩, p1.same (k i (by simp)), p2.same (k j (by simp))⟩
  item := by
    intro X hP hw hK hc n pins s σ H E Iv hf ⟨hz, hI, ⟨x0, y0, hO⟩, p1, p2⟩ ⟨xs, ys, x, y, qx, qy, ex, ey⟩
    subst hP hw hK
    obtain ⟨us, rx, sx, _⟩ := seqI Iv qx
    obtain ⟨vs, ry, sy, _⟩ := seqI Iv qy
    obtain ⟨v1, ev1, rv1⟩ := rx.get ex
    obtain ⟨v2, ev2, rv2⟩ := ry.get ey
    have hT : s.TypeIs (.ref Z) "zip" := ⟨_, hz, rfl⟩
    have zl : Z < s.heap.objs.size := Heap.lt_size hz
    unfold pyNext
    refine wpAny_bind (wpAny_attempt (wpAny_callSpecial?_slot (name := Str.ofString "__next__") hT F.slot_zip_next (wpAny_call_entry F.slot_zip_next hT F.entry_zip_next
      (turn D hz hI hO p1 p2 sx sy (x := v1) (y := v2) (by simpa using ev1) (by simpa using ev2) fun g ⟨gz, gO, g1, g2, gT⟩ kp => wpAny_pure ?_) (F.args_zip_next_1 _))))
    refine ⟨_, rfl, wpAny_letOwnedTupleGo_zip (s := { s with heap := g }) gz fun g' gz' sb => ?_⟩
    have kz : ∀ c o, c ≠ Z → g.get? c = some o → g'.get? c = some o := fun c o q e => (sb.2 c q).trans e
    have nx : s.heap.objs.size ≠ Z := Nat.ne_of_gt zl
    have new : ObjOk X.prog X.w (upd H s.heap.objs.size (.tup [x, y])) g' s.heap.objs.size (.tup [x, y]) := ⟨by show 2 ≤ sizeLine; decide, [v1, v2], .cons rv1 (.cons rv2 .nil), ⟨_, kz _ _ nx gT, rfl, _, rfl⟩⟩
    have outs : ∀ c o, c ∉ [Z, I, O, i, j] → s.heap.get? c = some o → g'.get? c = some o := fun c o q e => by
      simp only [List.mem_cons, List.not_mem_nil, or_false, not_or] at q
      exact kz c o q.1 (kp c o q.1 q.2.2.1 q.2.2.2.1 q.2.2.2.2 e)
    have I1 : Inv X pins σ (upd H s.heap.objs.size (.tup [x, y])) { s with heap := g' } := Iv.turnedNew (t' := s.toks) (ch := [Z, I, O, i, j]) (fun c o q e => outs c o q e) hf (Nat.le_refl _) new
    refine ⟨.ref s.heap.objs.size, _, I1, rfl, ⟨_, x, y, rfl, Iv.hok.fresh (Nat.le_refl _), rfl, fun l hl => by rw [seq_inj Iv hl qx]; exact ex, fun l hl => by rw [seq_inj Iv hl qy]; exact ey⟩, ?_, fun c hc => ?_⟩
    · exact ⟨gz', kz _ _ D.TIz (kp _ _ D.TIz D.TITO D.TIi1 D.TIi2 hI), ⟨v1, v2, kz _ _ D.TOz gO⟩, g1.same fun o e => kz _ o D.i1z e, g2.same fun o e => kz _ o D.i2z e⟩
    · have lt : c < s.heap.objs.size := by
        simp only [List.mem_cons, List.not_mem_nil, or_false] at hc
        rcases hc with rfl | rfl | rfl | rfl | rfl
        · exact zl
        · exact Heap.lt_size hI
        · exact Heap.lt_size hO
        · exact (let ⟨_, e, _⟩ := p1.ob; Heap.lt_size e)
        · exact (let ⟨_, e, _⟩ := p2.ob; Heap.lt_size e)
      rw [upd_ne (Nat.ne_of_lt lt)]; exact (hf c hc).1
  done := by
    intro X hP hw hK hc n pins s σ H E Iv hf ⟨hz, hI, ⟨x0, y0, hO⟩, p1, p2⟩ ⟨xs, ys, qx, qy, no⟩
    subst hP hw hK
    obtain ⟨us, rx, sx, _⟩ := seqI Iv qx
    obtain ⟨vs, ry, sy, _⟩ := seqI Iv qy
    have l1 := rx.length; have l2 := ry.length
    have hT : s.TypeIs (.ref Z) "zip" := ⟨_, hz, rfl⟩
    unfold pyNext
    refine wpAny_bind (wpAny_attempt (wpAny_callSpecial?_slot (name := Str.ofString "__next__") hT F.slot_zip_next (wpAny_call_entry F.slot_zip_next hT F.entry_zip_next
      (last (Iv.ok.hd hc) D hz hI hO p1 p2 sx sy (no.imp (fun q => by simp; omega) fun q => by simp; omega) fun g f kp ⟨o, ho, cl⟩ => ?_) (F.args_zip_next_1 _))))
    refine wpAny_bind (wpAny_isInstance (T := "StopIteration") (b := true) ⟨o, ho, cl⟩ isSubtype_stop (wpAny_pure ⟨rfl, Iv.turnedL (t' := s.toks) (ch := [Z, I, O, i, j]) (fun c o q e => ?_) hf⟩))
    simp only [List.mem_cons, List.not_mem_nil, or_false, not_or] at q
    exact kp c o q.1 q.2.2.1 q.2.2.2.1 q.2.2.2.2 e
  self := fun A n s Q E st h => wpAny_pyIter_zip st.1 h
def iMix (K : PySem.W.Frag) (ta : TA) : TI := fun σ H R => ta σ H fun vs H1 => ∃ t u a b xs ys, vs = [.ref a, .ref b] ∧ SqA t K H1 a xs ∧ SqA u K H1 b ys ∧ R (ItM t u K a b) H1
theorem pi_mix {X : Cx} {e e2 : Expr} {ta : TA} {p pos tpos : Pos} {elts : List Expr} {kk : Nat} (hg : Gl X "zip") (hm : X.mg "zip" = none) (ha : PA X [e, e2] ta)
    (hs : starEach [e, e2] X.env = (false, eval e X.env) :: starEach [e2] X.env := by rfl) (hl : (backTo pos (starEach [e2] X.env)).any (·.1) = false := by rfl) : PI X (.Tuple elts kk tpos) (.Call (.Name "zip" p) [e, e2] [] pos) (iMix X.K ta) := by
  refine ⟨fun pins s σ H R Iv h => Call_ (ld_blt Iv hg hm PyProof.Rows.boot_zip (PyProof.Rows.callWith_type1 (thn (ha.run pos pins s σ H _ Iv h) fun us s1 ⟨vs, H1, I1, r1, q1⟩ => ?_) hs hl))⟩
  obtain ⟨t, u, a, b, xs, ys, rfl, qx, qy, q⟩ := q1
  cases r1 with
  | cons r rr =>
    cases rr with
    | cons r' rr =>
      cases rr; cases r; cases r'
      obtain ⟨_, _, sx, la⟩ := seqI I1 qx
      obtain ⟨_, _, sy, lb⟩ := seqI I1 qy
      refine zip_new sx sy fun g N eN gz gI gO g1 g2 kp => wpAny_pyIter_zip gz ?_
      have fr : ∀ c, c ∈ [N + 4, N + 2, N + 3, N, N + 1] → FpOk X pins H1 c := fun c hc => by
        have le : s1.heap.objs.size ≤ c := by
          simp only [List.mem_cons, List.not_mem_nil, or_false] at hc
          rw [← eN]
          rcases hc with rfl | rfl | rfl | rfl | rfl <;> first | exact Nat.le_add_right _ _ | exact Nat.le_refl _
        exact I1.fpOk le (I1.hok.fresh le)
      exact ⟨N + 4, [N + 4, N + 2, N + 3, N, N + 1], _, _, H1, rfl, I1.kept (t' := s1.toks) kp, turnM (by rw [eN]; exact PySem.W.ktu_apart s1.heap.objs.size a b la lb), ⟨gz, gI, ⟨_, _, gO⟩, g1, g2⟩, fr, q⟩
end Zm
/-! ### as functions of data -/
namespace Dn
open PySem PySem.Spec PyProof.Rows L2 GxR Gx Zm
def seqK (x : Val) (S : Sto) : Option (Bool × List D) := match seqT x with
  | some ds => some (true, ds)
  | none => match seqL x S with
    | some ds => some (false, ds)
    | none => none
def iMx (xs : List Val) (S : Sto) : Out Itm := match xs with
  | [x, y] => (match seqK x S, seqK y S with
    | some ds, some es => .ok ⟨(ds.2.zip es.2).map fun p => .tup [p.1, p.2], wtV x S ++ wtV y S⟩ S
    | _, _ => .bad)
  | _ => .bad
def diMx (As : DAf) : DIf := fun env S => (As env S).bind fun xs S1 => iMx xs S1
section
variable {W : Wd} {E : XK} {X : Cx} {H : Hp} {μ : Mu} {S : Sto} {tg : Expr} {pos : Pos}
theorem staysK {x : Val} {ds : Bool × List D} {v : V} (s : RelS W H μ S) (h : RelV' W H μ x v) (e : seqK x S = some ds) : ∃ a, v = .ref a ∧ ∀ H' μ' S', Le H μ H' μ' → RelS W H' μ' S' → wtOk (wtV x S) S' → ∃ vs, SqA ds.1 W.K H' a vs ∧ RelDs W H' μ' ds.2 vs := by
  unfold seqK at e
  split at e
  · rename_i es e1
    cases e
    obtain ⟨a, rfl, q⟩ := staysT s h e1
    exact ⟨a, rfl, fun H' μ' S' l _ _ => q H' μ' l⟩
  · split at e
    · rename_i es e1
      cases e
      exact stays s h e1
    · cases e
theorem di_mx {a b : Expr} {As : DAf} {p tpos : Pos} {elts : List Expr} {kk : Nat} (hK : X.K = W.K) (hg : Gl X "zip") (hm : X.mg "zip" = none) (ha : DA W E X [a, b] As)
    (hs : starEach [a, b] X.env = (false, eval a X.env) :: starEach [b] X.env := by rfl) (hl : (backTo pos (starEach [b] X.env)).any (·.1) = false := by rfl) : DI W E X (.Tuple elts kk tpos) (.Call (.Name "zip" p) [a, b] [] pos) (diMx As) :=
  (pi_mix hg hm ha hs hl).imp fun σ H R ⟨env, S, μ, hE, hS, hp⟩ => ⟨env, S, μ, hE, hS, hp.bind.imp fun xs S1 H1 μ1 l1 s1 p1 vs rvs => by
    unfold iMx at p1
    rw [hK]
    split at p1
    · rename_i x y
      obtain ⟨v, w, rfl, rv, rw'⟩ := rel_two rvs
      split at p1
      · rename_i ds es e1 e2
        obtain ⟨a, rfl, h1⟩ := staysK s1 rv e1
        obtain ⟨b, rfl, h2⟩ := staysK s1 rw' e2
        obtain ⟨us, q1, _⟩ := h1 H1 μ1 S1 .refl s1 wtV_ok
        obtain ⟨ws, q2, _⟩ := h2 H1 μ1 S1 .refl s1 wtV_ok
        refine ⟨ds.1, es.1, a, b, us, ws, rfl, q1, q2, p1.at_ s1 _ (pairs_ok rfl (fun i H' μ' S' l s w hi => ?_) (fun H' μ' S' l s w => ?_) fun i H' μ' S' v H2 l s w hi yy => ?_)⟩
        · rw [wtOk_app] at w
          obtain ⟨us, q1, r1⟩ := h1 H' μ' S' l s w.1
          obtain ⟨ws, q2, r2⟩ := h2 H' μ' S' l s w.2
          obtain ⟨u, e3, _⟩ := r1.get (List.getElem?_eq_getElem (Nat.lt_of_lt_of_le hi (Nat.min_le_left _ _)))
          obtain ⟨w, e4, _⟩ := r2.get (List.getElem?_eq_getElem (Nat.lt_of_lt_of_le hi (Nat.min_le_right _ _)))
          exact ⟨us, ws, u, w, q1, q2, e3, e4⟩
        · rw [wtOk_app] at w
          obtain ⟨us, q1, r1⟩ := h1 H' μ' S' l s w.1
          obtain ⟨ws, q2, r2⟩ := h2 H' μ' S' l s w.2
          exact ⟨us, ws, q1, q2, by rw [← r1.length, ← r2.length]; omega⟩
        · rw [wtOk_app] at w
          obtain ⟨us, q1, r1⟩ := h1 H' μ' S' l s w.1
          obtain ⟨ws, q2, r2⟩ := h2 H' μ' S' l s w.2
          have hd := List.getElem?_eq_getElem (Nat.lt_of_lt_of_le hi (Nat.min_le_left _ _))
          have he := List.getElem?_eq_getElem (Nat.lt_of_lt_of_le hi (Nat.min_le_right _ _))
          obtain ⟨u, e3, r3⟩ := r1.get hd
          obtain ⟨w, e4, r4⟩ := r2.get he
          obtain ⟨T, x, y, rfl, hT, rfl, f1, f2⟩ := yy
          have g1 := f1 us q1
          have g2 := f2 ws q2
          rw [e3] at g1; cases g1
          rw [e4] at g2; cases g2
          exact ⟨T, _, _, _, _, rfl, hT, rfl, hd, he, r3, r4⟩
      · exact p1.elim
    · exact p1.elim⟩
end
end Dn
set_option Elab.async false
set_option linter.all false
set_option maxRecDepth 100000
set_option maxHeartbeats 4000000
/-! ### a pair put together and taken apart: a new list may be in it -/
namespace Dn
open PySem PySem.Spec PyProof.Rows L2 GxR Gx
section
variable {W : Wd} {E : XK} {X : Cx} {pos : Pos}
theorem ds_pair {i j : Nat} {x y : Str} {a b : Expr} {As : DAf} {px py pt : Pos} {kt k2 pt2} (hK : X.K = W.K) (hc : X.calm = true) (hN : X.N.Nodup) (hi : X.N[i]? = some x) (hj : X.N[j]? = some y) (ha : DA W E X [a, b] As)
    (hx : Loc X.env.scope x := by first | exact Or.inl rfl | exact Or.inr rfl) (hy : Loc X.env.scope y := by first | exact Or.inl rfl | exact Or.inr rfl)
    (hfx : X.fn x = true ∨ X.env.scope.names.lookup x = some .local := by first | exact .inl rfl | exact .inr rfl) (hfy : X.fn y = true ∨ X.env.scope.names.lookup y = some .local := by first | exact .inl rfl | exact .inr rfl)
    (hs : swapsWithSole [.Tuple [.Name x px, .Name y py] kt pt] (.Tuple [a, b] k2 pt2) pos.line X.env = pure false := by rfl) (hw : swappedStores [.Tuple [.Name x px, .Name y py] kt pt] (.Tuple [a, b] k2 pt2) X.env = pure none := by rfl)
    (h1 : (assignEach [.Tuple [.Name x px, .Name y py] kt pt] X.env).map (·.2) = [assign (.Tuple [.Name x px, .Name y py] kt pt) X.env] := by rfl)
    (hs1 : (assignEach [.Name x px, .Name y py] X.env).map (·.2) = assign (.Name x px) X.env :: (assignEach [.Name y py] X.env).map (·.2) := by rfl) (hs2 : (assignEach [.Name y py] X.env).map (·.2) = assign (.Name y py) X.env :: (assignEach [] X.env).map (·.2) := by rfl)
    (hn : (assignEach [.Name x px, .Name y py] X.env).length = 2 := by rfl) (hst : (assignEach [.Name x px, .Name y py] X.env).findIdx? (·.1) = none := by rfl) :
    DS W E X (.Assign [.Tuple [.Name x px, .Name y py] kt pt] (.Tuple [a, b] k2 pt2) pos) (dPar i j As) :=
  (ps_asg (pe_tup ha) (pg_tup hc (pgs_cons (pg_name hN hi hx hfx) (pgs_cons (pg_name hN hj hy hfy) pgs_nil hs2) hs1) hn hst) hs hw h1).imp fun D σ H ⟨env, S, μ, hE, hS, hp⟩ =>
  ⟨env, S, μ, hE, hS, hp.bind.imp fun xs S1 H1 μ1 l1 s1 p1 vs rvs => by
    split at p1
    · obtain ⟨v, w, rfl, rv, rw'⟩ := rel_two rvs
      refine ⟨by show 2 ≤ sizeLine; decide, fun c hc0 => ⟨c, [v, w], rfl, .inl (.inl upd_same), rfl, v, [w], rfl, w, [], rfl, rfl, ?_⟩⟩
      have e1 := (hE.mono l1 hS.is).set (i := i) rv
      have e2 := e1.set (i := j) rw'
      exact p1 _ _ (Le.new hc0) (s1.new hc0) _ (e2.mono (Le.new hc0) s1.is)
    · exact p1.elim⟩
end
end Dn
set_option Elab.async false
set_option linter.all false
set_option maxRecDepth 100000
set_option maxHeartbeats 4000000
/-! ### zip over 4 tuples -/
namespace Zt4
open PySem PySem.Spec PyProof.Rows L2 RZ
abbrev Tp (h : Heap) (T : Addr) (vs : Array Value) : Prop := h.get? T = some { cls := .type "tuple", data := .seq vs }
structure Ap (Z I O i1 i2 i3 i4 l1 l2 l3 l4 : Addr) : Prop where
  Z_I : Z ≠ I
  Z_O : Z ≠ O
  Z_i1 : Z ≠ i1
  Z_i2 : Z ≠ i2
  Z_i3 : Z ≠ i3
  Z_i4 : Z ≠ i4
  I_O : I ≠ O
  I_i1 : I ≠ i1
  I_i2 : I ≠ i2
  I_i3 : I ≠ i3
  I_i4 : I ≠ i4
  O_i1 : O ≠ i1
  O_i2 : O ≠ i2
  O_i3 : O ≠ i3
  O_i4 : O ≠ i4
  i1_i2 : i1 ≠ i2
  i1_i3 : i1 ≠ i3
  i1_i4 : i1 ≠ i4
  i2_i3 : i2 ≠ i3
  i2_i4 : i2 ≠ i4
  i3_i4 : i3 ≠ i4
  l1_Z : l1 ≠ Z
  l1_O : l1 ≠ O
  l1_i1 : l1 ≠ i1
  l1_i2 : l1 ≠ i2
  l1_i3 : l1 ≠ i3
  l1_i4 : l1 ≠ i4
  l2_Z : l2 ≠ Z
  l2_O : l2 ≠ O
  l2_i1 : l2 ≠ i1
  l2_i2 : l2 ≠ i2
  l2_i3 : l2 ≠ i3
  l2_i4 : l2 ≠ i4
  l3_Z : l3 ≠ Z
  l3_O : l3 ≠ O
  l3_i1 : l3 ≠ i1
  l3_i2 : l3 ≠ i2
  l3_i3 : l3 ≠ i3
  l3_i4 : l3 ≠ i4
  l4_Z : l4 ≠ Z
  l4_O : l4 ≠ O
  l4_i1 : l4 ≠ i1
  l4_i2 : l4 ≠ i2
  l4_i3 : l4 ≠ i3
  l4_i4 : l4 ≠ i4
section
variable {pg : Program} {w : World} {A : Around} {E : Value → Shared → Prop} {s : Shared}
variable {Z I O i1 i2 i3 i4 l1 l2 l3 l4 : Addr} {k : Nat} {xs1 xs2 xs3 xs4 : Array Value} {x1 x2 x3 x4 v1 v2 v3 v4 : Value}
theorem upd_tp {T : Addr} {a1 a2 a3 a4 x : Value} {m : Nat} {Q : Unit → Shared → Prop} (hT : Tp s.heap T #[a1, a2, a3, a4])
    (h : ∀ h', Tp h' T ((#[a1, a2, a3, a4] : Array Value).setIfInBounds m x) → Heap.SameBut T s.heap h' → Q () { s with heap := h' }) : wpAny (model pg w) A (updateSeq T (·.setIfInBounds m x)) Q E s := by
  refine wpAny_updateSeq hT rfl (h _ ?_ (Heap.SameBut.update ..))
  show Heap.get? _ _ = _
  rw [Heap.get?_update_self _ hT rfl]
  simp [Obj.mapSeq]
abbrev Kept (h g : Heap) (Z O i1 i2 i3 i4 : Addr) : Prop := ∀ c o, c ≠ Z → c ≠ O → c ≠ i1 → c ≠ i2 → c ≠ i3 → c ≠ i4 → h.get? c = some o → g.get? c = some o
theorem turn {Q : Value → Shared → Prop} (D : Ap Z I O i1 i2 i3 i4 l1 l2 l3 l4) (hz : IsZip s.heap Z I O .none) (hI : Tp s.heap I #[.ref i1, .ref i2, .ref i3, .ref i4]) (hO : Tp s.heap O #[v1, v2, v3, v4]) (p1 : s.heap.IsTupleIter i1 l1 k) (p2 : s.heap.IsTupleIter i2 l2 k) (p3 : s.heap.IsTupleIter i3 l3 k) (p4 : s.heap.IsTupleIter i4 l4 k)
    (q1 : s.heap.IsTuple l1 xs1) (q2 : s.heap.IsTuple l2 xs2) (q3 : s.heap.IsTuple l3 xs3) (q4 : s.heap.IsTuple l4 xs4)
    (e1 : xs1[k]? = some x1) (e2 : xs2[k]? = some x2) (e3 : xs3[k]? = some x3) (e4 : xs4[k]? = some x4)
    (go : ∀ g, IsZip g Z I O (rawInt s.heap.objs.size) ∧ Tp g O #[x1, x2, x3, x4] ∧ g.IsTupleIter i1 l1 (k + 1) ∧ g.IsTupleIter i2 l2 (k + 1) ∧ g.IsTupleIter i3 l3 (k + 1) ∧ g.IsTupleIter i4 l4 (k + 1) ∧ Tp g s.heap.objs.size #[x1, x2, x3, x4] → Kept s.heap g Z O i1 i2 i3 i4 → Q (.ref s.heap.objs.size) { s with heap := g }) :
    wpAny (model pg w) A (Builtin.«zip.__next__» ⟨[.ref Z], []⟩) (fun f s' => ∃ v, f = .done (.ret v) ∧ Q v s') E s := by
  show wpAny _ _ (field (.ref Z) 2 >>= _) _ _ _; refine wpAny_bind (wpAny_field hz rfl (x := .bool false) rfl ?_)
  show wpAny _ _ (field (.ref Z) 3 >>= _) _ _ _; refine wpAny_bind (wpAny_field hz rfl (x := .ref I) rfl (wpAny_bind (wpAny_seqItems hI rfl ?_)))
  show wpAny _ _ (Builtin.SmallTypes.ownedTupleIsFree (.ref Z) >>= _) _ _ _; refine wpAny_bind ?_; unfold Builtin.SmallTypes.ownedTupleIsFree
  refine wpAny_bind (wpAny_field hz rfl (x := .none) rfl (wpAny_pure ?_)); simp only [if_true]
  refine wpAny_bind (wpAny_rule (wpAny_bind (wpAny_field hz rfl (x := .ref O) rfl (wpAny_bind (wpAny_setField_rec hz (by simp) fun g1 z1 k1 => ?_)))))
  replace z1 : IsZip g1 Z I O .ellipsis := z1
  replace hO := k1.extBut _ _ D.Z_O.symm hO
  replace p1 := p1.extBut k1.extBut D.Z_i1.symm
  replace q1 := q1.extBut k1.extBut D.l1_Z
  replace p2 := p2.extBut k1.extBut D.Z_i2.symm
  replace q2 := q2.extBut k1.extBut D.l2_Z
  replace p3 := p3.extBut k1.extBut D.Z_i3.symm
  replace q3 := q3.extBut k1.extBut D.l3_Z
  replace p4 := p4.extBut k1.extBut D.Z_i4.symm
  replace q4 := q4.extBut k1.extBut D.l4_Z
  refine wpAny_bind ?_; simp only [List.zipIdx_cons, List.zipIdx_nil, List.forIn_cons, List.forIn_nil]; refine wpAny_bind (wpAny_bind (wpAny_onRaise ?_))
  show wpAny _ _ (Builtin.SmallTypes.nextOf (.ref i1) >>= _) _ _ _
  refine wpAny_bind (nextOf_tuple_item p1 q1 e1 fun g2 r1 k2 => wpAny_pure ?_)
  replace hO := k2.extBut _ _ D.O_i1 hO
  replace q1 := q1.extBut k2.extBut D.l1_i1
  replace p2 := p2.extBut k2.extBut D.i1_i2.symm
  replace q2 := q2.extBut k2.extBut D.l2_i1
  replace p3 := p3.extBut k2.extBut D.i1_i3.symm
  replace q3 := q3.extBut k2.extBut D.l3_i1
  replace p4 := p4.extBut k2.extBut D.i1_i4.symm
  replace q4 := q4.extBut k2.extBut D.l4_i1
  replace z1 := k2.extBut _ _ D.Z_i1 z1
  refine wpAny_bind (wpAny_seqItems hO rfl (wpAny_bind (upd_tp hO fun g3 o1 k3 => ?_)))
  replace o1 : Tp g3 O #[x1, v2, v3, v4] := o1
  replace q1 := q1.extBut k3.extBut D.l1_O
  replace p2 := p2.extBut k3.extBut D.O_i2.symm
  replace q2 := q2.extBut k3.extBut D.l2_O
  replace p3 := p3.extBut k3.extBut D.O_i3.symm
  replace q3 := q3.extBut k3.extBut D.l3_O
  replace p4 := p4.extBut k3.extBut D.O_i4.symm
  replace q4 := q4.extBut k3.extBut D.l4_O
  replace z1 := k3.extBut _ _ D.Z_O z1
  replace r1 := r1.extBut k3.extBut D.O_i1.symm
  clear hO; have hO := o1
  refine wpAny_bind (wpAny_letGo (wpAny_pure (wpAny_bind (wpAny_bind (wpAny_onRaise ?_)))))
  show wpAny _ _ (Builtin.SmallTypes.nextOf (.ref i2) >>= _) _ _ _
  refine wpAny_bind (nextOf_tuple_item p2 q2 e2 fun g4 r2 k4 => wpAny_pure ?_)
  replace hO := k4.extBut _ _ D.O_i2 hO
  replace q1 := q1.extBut k4.extBut D.l1_i2
  replace q2 := q2.extBut k4.extBut D.l2_i2
  replace p3 := p3.extBut k4.extBut D.i2_i3.symm
  replace q3 := q3.extBut k4.extBut D.l3_i2
  replace p4 := p4.extBut k4.extBut D.i2_i4.symm
  replace q4 := q4.extBut k4.extBut D.l4_i2
  replace z1 := k4.extBut _ _ D.Z_i2 z1
  replace r1 := r1.extBut k4.extBut D.i1_i2
  refine wpAny_bind (wpAny_seqItems hO rfl (wpAny_bind (upd_tp hO fun g5 o2 k5 => ?_)))
  replace o2 : Tp g5 O #[x1, x2, v3, v4] := o2
  replace q1 := q1.extBut k5.extBut D.l1_O
  replace q2 := q2.extBut k5.extBut D.l2_O
  replace p3 := p3.extBut k5.extBut D.O_i3.symm
  replace q3 := q3.extBut k5.extBut D.l3_O
  replace p4 := p4.extBut k5.extBut D.O_i4.symm
  replace q4 := q4.extBut k5.extBut D.l4_O
  replace z1 := k5.extBut _ _ D.Z_O z1
  replace r1 := r1.extBut k5.extBut D.O_i1.symm
  replace r2 := r2.extBut k5.extBut D.O_i2.symm
  clear hO; have hO := o2
  refine wpAny_bind (wpAny_letGo (wpAny_pure (wpAny_bind (wpAny_bind (wpAny_onRaise ?_)))))
  show wpAny _ _ (Builtin.SmallTypes.nextOf (.ref i3) >>= _) _ _ _
  refine wpAny_bind (nextOf_tuple_item p3 q3 e3 fun g6 r3 k6 => wpAny_pure ?_)
  replace hO := k6.extBut _ _ D.O_i3 hO
  replace q1 := q1.extBut k6.extBut D.l1_i3
  replace q2 := q2.extBut k6.extBut D.l2_i3
  replace q3 := q3.extBut k6.extBut D.l3_i3
  replace p4 := p4.extBut k6.extBut D.i3_i4.symm
  replace q4 := q4.extBut k6.extBut D.l4_i3
  replace z1 := k6.extBut _ _ D.Z_i3 z1
  replace r1 := r1.extBut k6.extBut D.i1_i3
  replace r2 := r2.extBut k6.extBut D.i2_i3
  refine wpAny_bind (wpAny_seqItems hO rfl (wpAny_bind (upd_tp hO fun g7 o3 k7 => ?_)))
  replace o3 : Tp g7 O #[x1, x2, x3, v4] := o3
  replace q1 := q1.extBut k7.extBut D.l1_O
  replace q2 := q2.extBut k7.extBut D.l2_O
  replace q3 := q3.extBut k7.extBut D.l3_O
  replace p4 := p4.extBut k7.extBut D.O_i4.symm
  replace q4 := q4.extBut k7.extBut D.l4_O
  replace z1 := k7.extBut _ _ D.Z_O z1
  replace r1 := r1.extBut k7.extBut D.O_i1.symm
  replace r2 := r2.extBut k7.extBut D.O_i2.symm
  replace r3 := r3.extBut k7.extBut D.O_i3.symm
  clear hO; have hO := o3
  refine wpAny_bind (wpAny_letGo (wpAny_pure (wpAny_bind (wpAny_bind (wpAny_onRaise ?_)))))
  show wpAny _ _ (Builtin.SmallTypes.nextOf (.ref i4) >>= _) _ _ _
  refine wpAny_bind (nextOf_tuple_item p4 q4 e4 fun g8 r4 k8 => wpAny_pure ?_)
  replace hO := k8.extBut _ _ D.O_i4 hO
  replace q1 := q1.extBut k8.extBut D.l1_i4
  replace q2 := q2.extBut k8.extBut D.l2_i4
  replace q3 := q3.extBut k8.extBut D.l3_i4
  replace q4 := q4.extBut k8.extBut D.l4_i4
  replace z1 := k8.extBut _ _ D.Z_i4 z1
  replace r1 := r1.extBut k8.extBut D.i1_i4
  replace r2 := r2.extBut k8.extBut D.i2_i4
  replace r3 := r3.extBut k8.extBut D.i3_i4
  refine wpAny_bind (wpAny_seqItems hO rfl (wpAny_bind (upd_tp hO fun g9 o4 k9 => ?_)))
  replace o4 : Tp g9 O #[x1, x2, x3, x4] := o4
  replace q1 := q1.extBut k9.extBut D.l1_O
  replace q2 := q2.extBut k9.extBut D.l2_O
  replace q3 := q3.extBut k9.extBut D.l3_O
  replace q4 := q4.extBut k9.extBut D.l4_O
  replace z1 := k9.extBut _ _ D.Z_O z1
  replace r1 := r1.extBut k9.extBut D.O_i1.symm
  replace r2 := r2.extBut k9.extBut D.O_i2.symm
  replace r3 := r3.extBut k9.extBut D.O_i3.symm
  replace r4 := r4.extBut k9.extBut D.O_i4.symm
  clear hO; have hO := o4
  refine wpAny_bind (wpAny_letGo (wpAny_pure (wpAny_pure (wpAny_bind (wpAny_seqItems hO rfl (wpAny_bind (wpAny_newTuple ?_)))))))
  have sz : g9.objs.size = s.heap.objs.size := by rw [k9.1, k8.1, k7.1, k6.1, k5.1, k4.1, k3.1, k2.1, k1.1]
  have kp : Kept s.heap g9 Z O i1 i2 i3 i4 := fun c o nZ nO n1 n2 n3 n4 e => (k9.extBut _ _ nO (k8.extBut _ _ n4 (k7.extBut _ _ nO (k6.extBut _ _ n3 (k5.extBut _ _ nO (k4.extBut _ _ n2 (k3.extBut _ _ nO (k2.extBut _ _ n1 (k1.extBut _ _ nZ e)))))))))
  show wpAny _ _ (Builtin.SmallTypes.ownedTupleHandOut (.ref Z) (.ref g9.objs.size) >>= _) _ _ _
  refine wpAny_bind ?_; unfold Builtin.SmallTypes.ownedTupleHandOut
  have z6 : IsZip (g9.push { cls := .type "tuple", data := .seq #[x1, x2, x3, x4] }) Z I O .ellipsis := Heap.get?_push_of_some _ z1
  refine wpAny_bind (wpAny_setField_rec z6 (by simp) fun ga za ka => ?_); replace za : IsZip ga Z I O (rawInt g9.objs.size) := za
  refine wpAny_setField_rec za (by simp) fun gb zb kb => ?_; replace zb : IsZip gb Z I O (rawInt g9.objs.size) := zb
  have up : ∀ c o, c ≠ Z → g9.get? c = some o → gb.get? c = some o := fun c o n e => kb.extBut _ _ n (ka.extBut _ _ n (Heap.get?_push_of_some _ e))
  have nz : g9.objs.size ≠ Z := Nat.ne_of_gt (Heap.lt_size z1)
  have ob : Tp gb g9.objs.size #[x1, x2, x3, x4] := kb.extBut _ _ nz (ka.extBut _ _ nz (Heap.get?_push_size _ rfl))
  rw [sz] at zb ob
  refine wpAny_pure ⟨_, rfl, ?_⟩; show Q (.ref g9.objs.size) _; rw [sz]
  exact go gb ⟨zb, up _ _ D.Z_O.symm hO, Heap.IsTupleIter.at r1 (fun o e => up _ o D.Z_i1.symm e), Heap.IsTupleIter.at r2 (fun o e => up _ o D.Z_i2.symm e), Heap.IsTupleIter.at r3 (fun o e => up _ o D.Z_i3.symm e), Heap.IsTupleIter.at r4 (fun o e => up _ o D.Z_i4.symm e), ob⟩ fun c o nZ nO n1 n2 n3 n4 e => up c o nZ (kp c o nZ nO n1 n2 n3 n4 e)
theorem last {Q : Fin → Shared → Prop} (hh : A.handled = none) (D : Ap Z I O i1 i2 i3 i4 l1 l2 l3 l4) (hz : IsZip s.heap Z I O .none) (hI : Tp s.heap I #[.ref i1, .ref i2, .ref i3, .ref i4]) (hO : Tp s.heap O #[v1, v2, v3, v4]) (p1 : s.heap.IsTupleIter i1 l1 k) (p2 : s.heap.IsTupleIter i2 l2 k) (p3 : s.heap.IsTupleIter i3 l3 k) (p4 : s.heap.IsTupleIter i4 l4 k)
    (q1 : s.heap.IsTuple l1 xs1) (q2 : s.heap.IsTuple l2 xs2) (q3 : s.heap.IsTuple l3 xs3) (q4 : s.heap.IsTuple l4 xs4)
    (no : xs1[k]? = none ∨ xs2[k]? = none ∨ xs3[k]? = none ∨ xs4[k]? = none) (go : ∀ g f, Kept s.heap g Z O i1 i2 i3 i4 → (∃ o, g.get? f = some o ∧ o.cls = .type "StopIteration") → E (.ref f) { s with heap := g }) :
    wpAny (model pg w) A (Builtin.«zip.__next__» ⟨[.ref Z], []⟩) Q E s := by
  show wpAny _ _ (field (.ref Z) 2 >>= _) _ _ _; refine wpAny_bind (wpAny_field hz rfl (x := .bool false) rfl ?_)
  show wpAny _ _ (field (.ref Z) 3 >>= _) _ _ _; refine wpAny_bind (wpAny_field hz rfl (x := .ref I) rfl (wpAny_bind (wpAny_seqItems hI rfl ?_)))
  show wpAny _ _ (Builtin.SmallTypes.ownedTupleIsFree (.ref Z) >>= _) _ _ _; refine wpAny_bind ?_; unfold Builtin.SmallTypes.ownedTupleIsFree
  refine wpAny_bind (wpAny_field hz rfl (x := .none) rfl (wpAny_pure ?_)); simp only [if_true]
  refine wpAny_bind (wpAny_rule (wpAny_bind (wpAny_field hz rfl (x := .ref O) rfl (wpAny_bind (wpAny_setField_rec hz (by simp) fun g1 z1 k1 => ?_)))))
  replace z1 : IsZip g1 Z I O .ellipsis := z1
  replace hO := k1.extBut _ _ D.Z_O.symm hO
  replace p1 := p1.extBut k1.extBut D.Z_i1.symm
  replace q1 := q1.extBut k1.extBut D.l1_Z
  replace p2 := p2.extBut k1.extBut D.Z_i2.symm
  replace q2 := q2.extBut k1.extBut D.l2_Z
  replace p3 := p3.extBut k1.extBut D.Z_i3.symm
  replace q3 := q3.extBut k1.extBut D.l3_Z
  replace p4 := p4.extBut k1.extBut D.Z_i4.symm
  replace q4 := q4.extBut k1.extBut D.l4_Z
  refine wpAny_bind ?_; simp only [List.zipIdx_cons, List.zipIdx_nil, List.forIn_cons, List.forIn_nil]; refine wpAny_bind (wpAny_bind (wpAny_onRaise ?_))
  show wpAny _ _ (Builtin.SmallTypes.nextOf (.ref i1) >>= _) _ _ _
  by_cases c1 : xs1[k]? = none
  · refine wpAny_bind (nextOf_tuple_end hh p1 q1 c1 fun ge f ke ⟨of, hf, cf⟩ => ?_)
    have ze : IsZip ge Z I O .ellipsis := ke _ _ D.Z_i1 z1
    have fz : f ≠ Z := fun q => by subst q; rw [ze] at hf; cases hf; simp at cf
    exact wpAny_setField_rec ze (by simp) fun gf _ kf => go gf f (fun c o nZ nO n1 n2 n3 n4 q => kf.extBut _ _ nZ (ke _ _ n1 (k1.extBut _ _ nZ q))) ⟨of, kf.extBut _ _ fz hf, cf⟩
  obtain ⟨y1, e1⟩ := Option.ne_none_iff_exists'.mp c1
  refine wpAny_bind (nextOf_tuple_item p1 q1 e1 fun g2 r1 k2 => wpAny_pure ?_)
  replace hO := k2.extBut _ _ D.O_i1 hO
  replace q1 := q1.extBut k2.extBut D.l1_i1
  replace p2 := p2.extBut k2.extBut D.i1_i2.symm
  replace q2 := q2.extBut k2.extBut D.l2_i1
  replace p3 := p3.extBut k2.extBut D.i1_i3.symm
  replace q3 := q3.extBut k2.extBut D.l3_i1
  replace p4 := p4.extBut k2.extBut D.i1_i4.symm
  replace q4 := q4.extBut k2.extBut D.l4_i1
  replace z1 := k2.extBut _ _ D.Z_i1 z1
  refine wpAny_bind (wpAny_seqItems hO rfl (wpAny_bind (upd_tp hO fun g3 o1 k3 => wpAny_bind (wpAny_letGo (wpAny_pure (wpAny_bind (wpAny_bind (wpAny_onRaise ?_))))))))
  replace o1 : Tp g3 O #[y1, v2, v3, v4] := o1
  replace q1 := q1.extBut k3.extBut D.l1_O
  replace p2 := p2.extBut k3.extBut D.O_i2.symm
  replace q2 := q2.extBut k3.extBut D.l2_O
  replace p3 := p3.extBut k3.extBut D.O_i3.symm
  replace q3 := q3.extBut k3.extBut D.l3_O
  replace p4 := p4.extBut k3.extBut D.O_i4.symm
  replace q4 := q4.extBut k3.extBut D.l4_O
  replace z1 := k3.extBut _ _ D.Z_O z1
  clear hO; have hO := o1
  show wpAny _ _ (Builtin.SmallTypes.nextOf (.ref i2) >>= _) _ _ _
  by_cases c2 : xs2[k]? = none
  · refine wpAny_bind (nextOf_tuple_end hh p2 q2 c2 fun ge f ke ⟨of, hf, cf⟩ => ?_)
    have ze : IsZip ge Z I O .ellipsis := ke _ _ D.Z_i2 z1
    have fz : f ≠ Z := fun q => by subst q; rw [ze] at hf; cases hf; simp at cf
    exact wpAny_setField_rec ze (by simp) fun gf _ kf => go gf f (fun c o nZ nO n1 n2 n3 n4 q => kf.extBut _ _ nZ (ke _ _ n2 (k3.extBut _ _ nO (k2.extBut _ _ n1 (k1.extBut _ _ nZ q))))) ⟨of, kf.extBut _ _ fz hf, cf⟩
  obtain ⟨y2, e2⟩ := Option.ne_none_iff_exists'.mp c2
  refine wpAny_bind (nextOf_tuple_item p2 q2 e2 fun g4 r2 k4 => wpAny_pure ?_)
  replace hO := k4.extBut _ _ D.O_i2 hO
  replace q1 := q1.extBut k4.extBut D.l1_i2
  replace q2 := q2.extBut k4.extBut D.l2_i2
  replace p3 := p3.extBut k4.extBut D.i2_i3.symm
  replace q3 := q3.extBut k4.extBut D.l3_i2
  replace p4 := p4.extBut k4.extBut D.i2_i4.symm
  replace q4 := q4.extBut k4.extBut D.l4_i2
  replace z1 := k4.extBut _ _ D.Z_i2 z1
  refine wpAny_bind (wpAny_seqItems hO rfl (wpAny_bind (upd_tp hO fun g5 o2 k5 => wpAny_bind (wpAny_letGo (wpAny_pure (wpAny_bind (wpAny_bind (wpAny_onRaise ?_))))))))
  replace o2 : Tp g5 O #[y1, y2, v3, v4] := o2
  replace q1 := q1.extBut k5.extBut D.l1_O
  replace q2 := q2.extBut k5.extBut D.l2_O
  replace p3 := p3.extBut k5.extBut D.O_i3.symm
  replace q3 := q3.extBut k5.extBut D.l3_O
  replace p4 := p4.extBut k5.extBut D.O_i4.symm
  replace q4 := q4.extBut k5.extBut D.l4_O
  replace z1 := k5.extBut _ _ D.Z_O z1
  clear hO; have hO := o2
  show wpAny _ _ (Builtin.SmallTypes.nextOf (.ref i3) >>= _) _ _ _
  by_cases c3 : xs3[k]? = none
  · refine wpAny_bind (nextOf_tuple_end hh p3 q3 c3 fun ge f ke ⟨of, hf, cf⟩ => ?_)
    have ze : IsZip ge Z I O .ellipsis := ke _ _ D.Z_i3 z1
    have fz : f ≠ Z := fun q => by subst q; rw [ze] at hf; cases hf; simp at cf
    exact wpAny_setField_rec ze (by simp) fun gf _ kf => go gf f (fun c o nZ nO n1 n2 n3 n4 q => kf.extBut _ _ nZ (ke _ _ n3 (k5.extBut _ _ nO (k4.extBut _ _ n2 (k3.extBut _ _ nO (k2.extBut _ _ n1 (k1.extBut _ _ nZ q))))))) ⟨of, kf.extBut _ _ fz hf, cf⟩
  obtain ⟨y3, e3⟩ := Option.ne_none_iff_exists'.mp c3
  refine wpAny_bind (nextOf_tuple_item p3 q3 e3 fun g6 r3 k6 => wpAny_pure ?_)
  replace hO := k6.extBut _ _ D.O_i3 hO
  replace q1 := q1.extBut k6.extBut D.l1_i3
  replace q2 := q2.extBut k6.extBut D.l2_i3
  replace q3 := q3.extBut k6.extBut D.l3_i3
  replace p4 := p4.extBut k6.extBut D.i3_i4.symm
  replace q4 := q4.extBut k6.extBut D.l4_i3
  replace z1 := k6.extBut _ _ D.Z_i3 z1
  refine wpAny_bind (wpAny_seqItems hO rfl (wpAny_bind (upd_tp hO fun g7 o3 k7 => wpAny_bind (wpAny_letGo (wpAny_pure (wpAny_bind (wpAny_bind (wpAny_onRaise ?_))))))))
  replace o3 : Tp g7 O #[y1, y2, y3, v4] := o3
  replace q1 := q1.extBut k7.extBut D.l1_O
  replace q2 := q2.extBut k7.extBut D.l2_O
  replace q3 := q3.extBut k7.extBut D.l3_O
  replace p4 := p4.extBut k7.extBut D.O_i4.symm
  replace q4 := q4.extBut k7.extBut D.l4_O
  replace z1 := k7.extBut _ _ D.Z_O z1
  clear hO; have hO := o3
  show wpAny _ _ (Builtin.SmallTypes.nextOf (.ref i4) >>= _) _ _ _
  have c4 : xs4[k]? = none := by
    rcases no with no | no | no | no
    · exact absurd no c1
    · exact absurd no c2
    · exact absurd no c3
    · exact no
  refine wpAny_bind (nextOf_tuple_end hh p4 q4 c4 fun ge f ke ⟨of, hf, cf⟩ => ?_)
  have ze : IsZip ge Z I O .ellipsis := ke _ _ D.Z_i4 z1
  have fz : f ≠ Z := fun q => by subst q; rw [ze] at hf; cases hf; simp at cf
  exact wpAny_setField_rec ze (by simp) fun gf _ kf => go gf f (fun c o nZ nO n1 n2 n3 n4 q => kf.extBut _ _ nZ (ke _ _ n4 (k7.extBut _ _ nO (k6.extBut _ _ n3 (k5.extBut _ _ nO (k4.extBut _ _ n2 (k3.extBut _ _ nO (k2.extBut _ _ n1 (k1.extBut _ _ nZ q))))))))) ⟨of, kf.extBut _ _ fz hf, cf⟩
end
abbrev itO (l : Addr) : Obj := { cls := .type "tuple_iterator", data := .fields #[.ref l, .int 0 0] }
abbrev g1 (h : Heap) (l1 : Addr) : Heap := h.push (itO l1)
abbrev g2 (h : Heap) (l1 l2 : Addr) : Heap := (g1 h l1).push (itO l2)
abbrev g3 (h : Heap) (l1 l2 l3 : Addr) : Heap := (g2 h l1 l2).push (itO l3)
abbrev g4 (h : Heap) (l1 l2 l3 l4 : Addr) : Heap := (g3 h l1 l2 l3).push (itO l4)
abbrev gT (h : Heap) (l1 l2 l3 l4 : Addr) : Heap := (g4 h l1 l2 l3 l4).push { cls := .type "tuple", data := .seq #[.ref h.objs.size, .ref (g1 h l1).objs.size, .ref (g2 h l1 l2).objs.size, .ref (g3 h l1 l2 l3).objs.size] }
abbrev gO (h : Heap) (l1 l2 l3 l4 : Addr) : Heap := (gT h l1 l2 l3 l4).push { cls := .type "tuple", data := .seq #[.none, .none, .none, .none] }
abbrev gZ (h : Heap) (l1 l2 l3 l4 : Addr) : Heap := (gO h l1 l2 l3 l4).push { cls := .type "zip", data := .fields #[.none, .bool false, .bool false, .ref (g4 h l1 l2 l3 l4).objs.size, .ref (gT h l1 l2 l3 l4).objs.size] }
theorem typeCall (a1 a2 a3 a4 : Value) : checkTypeCall "zip" ⟨[a1, a2, a3, a4], []⟩ = pure () := by kernel_rfl
theorem newCall (a1 a2 a3 a4 : Value) : checkBuiltinCall "zip.__new__" ⟨[.type "zip", a1, a2, a3, a4], []⟩ = pure () := by kernel_rfl
theorem args_init (obj a1 a2 a3 a4 : Value) : argsOk "object.__init__" ⟨[obj, a1, a2, a3, a4], []⟩ := by unfold argsOk; kernel_rfl
theorem made (l1 l2 l3 l4 : Addr) (xs1 xs2 xs3 xs4 : Array Value) : Meets (Builtin.«zip.__new__» ⟨[.type "zip", .ref l1, .ref l2, .ref l3, .ref l4], []⟩) (fun _ R s => s.heap.IsTuple l1 xs1 ∧ s.heap.IsTuple l2 xs2 ∧ s.heap.IsTuple l3 xs3 ∧ s.heap.IsTuple l4 xs4 ∧ R (.ok (.ret (.ref (gO s.heap l1 l2 l3 l4).objs.size))) { s with heap := gZ s.heap l1 l2 l3 l4 }) :=
  .of_wp fun pg w A R s h => by
    obtain ⟨hp, g, d, tk, os⟩ := s; obtain ⟨h1, h2, h3, h4, h⟩ := h
    have sub := sub_zip
    have s1 : (Shared.heap ⟨hp, g, d, tk, os⟩).IsTuple l1 xs1 := h1
    have s2 : (Shared.heap ⟨(g1 hp l1), g, d, tk, os⟩).IsTuple l2 xs2 := (h2).push _
    have s3 : (Shared.heap ⟨(g2 hp l1 l2), g, d, tk, os⟩).IsTuple l3 xs3 := ((h3).push _).push _
    have s4 : (Shared.heap ⟨(g3 hp l1 l2 l3), g, d, tk, os⟩).IsTuple l4 xs4 := (((h4).push _).push _).push _
    wp_walk using wpAny_pyIter_tuple s1, wpAny_pyIter_tuple s2, wpAny_pyIter_tuple s3, wpAny_pyIter_tuple s4
    exact ⟨_, rfl, h⟩
theorem zip_new {pg : Program} {w : World} {A : Around} {E : Value → Shared → Prop} {s : Shared} {l1 l2 l3 l4 : Addr} {xs1 xs2 xs3 xs4 : Array Value} {Q : Value → Shared → Prop} (q1 : s.heap.IsTuple l1 xs1) (q2 : s.heap.IsTuple l2 xs2) (q3 : s.heap.IsTuple l3 xs3) (q4 : s.heap.IsTuple l4 xs4)
    (go : ∀ g N, N = s.heap.objs.size → IsZip g (N + 6) (N + 4) (N + 5) .none → Tp g (N + 4) #[.ref N, .ref (N + 1), .ref (N + 2), .ref (N + 3)] → Tp g (N + 5) #[.none, .none, .none, .none] → g.IsTupleIter (N) l1 0 → g.IsTupleIter (N + 1) l2 0 → g.IsTupleIter (N + 2) l3 0 → g.IsTupleIter (N + 3) l4 0 → (∀ c o, s.heap.get? c = some o → g.get? c = some o) → Q (.ref (N + 6)) { s with heap := g }) :
    wpAny (model pg w) A (call (.type "zip") [.ref l1, .ref l2, .ref l3, .ref l4]) Q E s := by
  refine callType_new F.called_zip (by decide) (typeCall _ _ _ _) (newCall _ _ _ _) (fun z => args_init z _ _ _ _) F.entry_zip_new (made l1 l2 l3 l4 xs1 xs2 xs3 xs4) ⟨q1, q2, q3, q4, ?_⟩
  have n1 : (g1 s.heap l1).objs.size = s.heap.objs.size + 1 := Heap.size_push ..
  have n2 : (g2 s.heap l1 l2).objs.size = s.heap.objs.size + 2 := by rw [Heap.size_push, n1]
  have n3 : (g3 s.heap l1 l2 l3).objs.size = s.heap.objs.size + 3 := by rw [Heap.size_push, n2]
  have n4 : (g4 s.heap l1 l2 l3 l4).objs.size = s.heap.objs.size + 4 := by rw [Heap.size_push, n3]
  have nT : (gT s.heap l1 l2 l3 l4).objs.size = s.heap.objs.size + 5 := by rw [Heap.size_push, n4]
  have nO : (gO s.heap l1 l2 l3 l4).objs.size = s.heap.objs.size + 6 := by rw [Heap.size_push, nT]
  have oZ : (gZ s.heap l1 l2 l3 l4).get? (gO s.heap l1 l2 l3 l4).objs.size = some _ := Heap.get?_push_size _ rfl
  have oO : (gZ s.heap l1 l2 l3 l4).get? (gT s.heap l1 l2 l3 l4).objs.size = some _ := Heap.get?_push_of_some _ (Heap.get?_push_size _ rfl)
  have oT : (gZ s.heap l1 l2 l3 l4).get? (g4 s.heap l1 l2 l3 l4).objs.size = some _ := Heap.get?_push_of_some _ (Heap.get?_push_of_some _ (Heap.get?_push_size _ rfl))
  have o1 : (gZ s.heap l1 l2 l3 l4).get? s.heap.objs.size = some (itO l1) := Heap.get?_push_of_some _ (Heap.get?_push_of_some _ (Heap.get?_push_of_some _ (Heap.get?_push_of_some _ (Heap.get?_push_of_some _ (Heap.get?_push_of_some _ (Heap.get?_push_size _ rfl))))))
  have o2 : (gZ s.heap l1 l2 l3 l4).get? (g1 s.heap l1).objs.size = some (itO l2) := Heap.get?_push_of_some _ (Heap.get?_push_of_some _ (Heap.get?_push_of_some _ (Heap.get?_push_of_some _ (Heap.get?_push_of_some _ (Heap.get?_push_size _ rfl)))))
  have o3 : (gZ s.heap l1 l2 l3 l4).get? (g2 s.heap l1 l2).objs.size = some (itO l3) := Heap.get?_push_of_some _ (Heap.get?_push_of_some _ (Heap.get?_push_of_some _ (Heap.get?_push_of_some _ (Heap.get?_push_size _ rfl))))
  have o4 : (gZ s.heap l1 l2 l3 l4).get? (g3 s.heap l1 l2 l3).objs.size = some (itO l4) := Heap.get?_push_of_some _ (Heap.get?_push_of_some _ (Heap.get?_push_of_some _ (Heap.get?_push_size _ rfl)))
  show _ ∧ _
  rw [nO, nT, n4] at oZ
  rw [nT] at oO
  rw [n4, n3, n2, n1] at oT
  rw [n1] at o2
  rw [n2] at o3
  rw [n3] at o4
  rw [nO]
  exact ⟨⟨_, oZ, rfl⟩, go _ _ rfl oZ oT oO ⟨_, o1, rfl, rfl⟩ ⟨_, o2, rfl, rfl⟩ ⟨_, o3, rfl, rfl⟩ ⟨_, o4, rfl, rfl⟩ fun c o x => Heap.get?_push_of_some _ (Heap.get?_push_of_some _ (Heap.get?_push_of_some _ (Heap.get?_push_of_some _ (Heap.get?_push_of_some _ (Heap.get?_push_of_some _ (Heap.get?_push_of_some _ (x)))))))⟩
theorem ap_of (N l1 l2 l3 l4 : Nat) (h1 : l1 < N) (h2 : l2 < N) (h3 : l3 < N) (h4 : l4 < N) : Ap (N + 6) (N + 4) (N + 5) (N) (N + 1) (N + 2) (N + 3) l1 l2 l3 l4 := by
  constructor <;> (refine PySem.W.neN ?_; omega)
/-! ### in the hand layer -/
def ItM (K : PySem.W.Frag) (a1 a2 a3 a4 : Addr) : It where
  go := fun i H => ∃ (ys1 ys2 ys3 ys4 : List V) (y1 y2 y3 y4 : V), SqT K H a1 ys1 ∧ SqT K H a2 ys2 ∧ SqT K H a3 ys3 ∧ SqT K H a4 ys4 ∧ ys1[i]? = some y1 ∧ ys2[i]? = some y2 ∧ ys3[i]? = some y3 ∧ ys4[i]? = some y4
  yld := fun i H v H' => ∃ T y1 y2 y3 y4, v = .ref T ∧ H T = none ∧ H' = upd H T (.tup [y1, y2, y3, y4]) ∧ (∀ xs, SqT K H a1 xs → xs[i]? = some y1) ∧ (∀ xs, SqT K H a2 xs → xs[i]? = some y2) ∧ (∀ xs, SqT K H a3 xs → xs[i]? = some y3) ∧ (∀ xs, SqT K H a4 xs → xs[i]? = some y4)
  stop := fun i H => ∃ ys1 ys2 ys3 ys4 : List V, SqT K H a1 ys1 ∧ SqT K H a2 ys2 ∧ SqT K H a3 ys3 ∧ SqT K H a4 ys4 ∧ (ys1.length ≤ i ∨ ys2.length ≤ i ∨ ys3.length ≤ i ∨ ys4.length ≤ i)
section
variable {X : Cx} {pins : List (Addr × Obj)} {σ : L2.St} {H : Hp} {s : Shared} {a : Addr} {xs : List V}
theorem seqI (I : Inv X pins σ H s) (h : SqT X.K H a xs) : ∃ its : List Value, Vals xs its ∧ s.heap.IsTuple a its.toArray ∧ a < s.heap.objs.size := by
  obtain ⟨its, r, p, _⟩ := I.tuple h
  obtain ⟨o, e, _⟩ := id p
  exact ⟨its, r, p, Heap.lt_size e⟩
theorem it_ob {h : Heap} {j l : Addr} {k : Nat} (a : h.IsTupleIter j l k) : ∃ o, h.get? j = some o ∧ ∀ v, o.data ≠ .cell v := by
  obtain ⟨o, e, _, d⟩ := a
  exact ⟨o, e, fun v q => by rw [d] at q; cases q⟩
end
theorem turnM {P : Program} {w : World} {K : PySem.W.Frag} {elts : List Expr} {kk : Nat} {tpos : Pos} {a1 a2 a3 a4 Z I O i1 i2 i3 i4 : Addr} (D : Ap Z I O i1 i2 i3 i4 a1 a2 a3 a4) :
    Turn P w K (.Tuple elts kk tpos) (ItM K a1 a2 a3 a4) [Z, I, O, i1, i2, i3, i4] Z (fun n h => IsZip h Z I O .none ∧ Tp h I #[.ref i1, .ref i2, .ref i3, .ref i4] ∧ (∃ x1 x2 x3 x4, Tp h O #[x1, x2, x3, x4]) ∧ h.IsTupleIter i1 a1 n ∧ h.IsTupleIter i2 a2 n ∧ h.IsTupleIter i3 a3 n ∧ h.IsTupleIter i4 a4 n) where
  mem := List.mem_cons_self
  obj := fun n h ⟨hz, hI, ⟨v1, v2, v3, v4, hO⟩, p1, p2, p3, p4⟩ c hc => by
    simp only [List.mem_cons, List.not_mem_nil, or_false] at hc
    rcases hc with rfl | rfl | rfl | rfl | rfl | rfl | rfl
    · exact ⟨_, hz, fun _ z => nomatch z⟩
    · exact ⟨_, hI, fun _ z => nomatch z⟩
    · exact ⟨_, hO, fun _ z => nomatch z⟩
    · exact it_ob p1
    · exact it_ob p2
    · exact it_ob p3
    · exact it_ob p4
  keep := fun n h h' ⟨hz, hI, ⟨v1, v2, v3, v4, hO⟩, p1, p2, p3, p4⟩ k => ⟨k Z (by simp) _ hz, k I (by simp) _ hI, ⟨v1, v2, v3, v4, k O (by simp) _ hO⟩, Heap.IsTupleIter.at p1 (k i1 (by simp)), Heap.IsTupleIter.at p2 (k i2 (by simp)), Heap.IsTupleIter.at p3 (k i3 (by simp)), Heap.IsTupleIter.at p4 (k i4 (by simp))⟩
  item := by
    intro X hP hw hK hc n pins s σ H E Iv hf ⟨hz, hI, ⟨v1, v2, v3, v4, hO⟩, p1, p2, p3, p4⟩ ⟨ys1, ys2, ys3, ys4, y1, y2, y3, y4, qx1, qx2, qx3, qx4, ex1, ex2, ex3, ex4⟩
    subst hP hw hK
    obtain ⟨us1, rx1, sx1, _⟩ := seqI Iv qx1
    obtain ⟨us2, rx2, sx2, _⟩ := seqI Iv qx2
    obtain ⟨us3, rx3, sx3, _⟩ := seqI Iv qx3
    obtain ⟨us4, rx4, sx4, _⟩ := seqI Iv qx4
    obtain ⟨w1, ew1, rw1⟩ := rx1.get ex1
    obtain ⟨w2, ew2, rw2⟩ := rx2.get ex2
    obtain ⟨w3, ew3, rw3⟩ := rx3.get ex3
    obtain ⟨w4, ew4, rw4⟩ := rx4.get ex4
    have hT : s.TypeIs (.ref Z) "zip" := ⟨_, hz, rfl⟩
    have zl : Z < s.heap.objs.size := Heap.lt_size hz
    unfold pyNext
    refine wpAny_bind (wpAny_attempt (wpAny_callSpecial?_slot (name := Str.ofString "__next__") hT F.slot_zip_next (wpAny_call_entry F.slot_zip_next hT F.entry_zip_next
      (turn D hz hI hO p1 p2 p3 p4 sx1 sx2 sx3 sx4 (x1 := w1) (x2 := w2) (x3 := w3) (x4 := w4) (by simpa using ew1) (by simpa using ew2) (by simpa using ew3) (by simpa using ew4) fun g ⟨gz, gO, gi1, gi2, gi3, gi4, gT⟩ kp => wpAny_pure ?_) (F.args_zip_next_1 _))))
    refine ⟨_, rfl, wpAny_letOwnedTupleGo_zip (s := { s with heap := g }) gz fun g' gz' sb => ?_⟩
    have kz : ∀ c o, c ≠ Z → g.get? c = some o → g'.get? c = some o := fun c o q e => (sb.2 c q).trans e
    have nx : s.heap.objs.size ≠ Z := Nat.ne_of_gt zl
    have new : ObjOk X.prog X.w (upd H s.heap.objs.size (.tup [y1, y2, y3, y4])) g' s.heap.objs.size (.tup [y1, y2, y3, y4]) := ⟨by show 4 ≤ sizeLine; decide, [w1, w2, w3, w4], .cons rw1 (.cons rw2 (.cons rw3 (.cons rw4 (.nil)))), ⟨_, kz _ _ nx gT, rfl, _, rfl⟩⟩
    have outs : ∀ c o, c ∉ [Z, I, O, i1, i2, i3, i4] → s.heap.get? c = some o → g'.get? c = some o := fun c o q e => by
      simp only [List.mem_cons, List.not_mem_nil, or_false, not_or] at q
      obtain ⟨nZ, nI, nO, n1, n2, n3, n4⟩ := q
      exact kz c o nZ (kp c o nZ nO n1 n2 n3 n4 e)
    have I1 : Inv X pins σ (upd H s.heap.objs.size (.tup [y1, y2, y3, y4])) { s with heap := g' } := Iv.turnedNew (t' := s.toks) (ch := [Z, I, O, i1, i2, i3, i4]) (fun c o q e => outs c o q e) hf (Nat.le_refl _) new
    refine ⟨.ref s.heap.objs.size, _, I1, rfl, ⟨_, y1, y2, y3, y4, rfl, Iv.hok.fresh (Nat.le_refl _), rfl, fun l hl => by rw [Iv.tuple_inj hl qx1]; exact ex1, fun l hl => by rw [Iv.tuple_inj hl qx2]; exact ex2, fun l hl => by rw [Iv.tuple_inj hl qx3]; exact ex3, fun l hl => by rw [Iv.tuple_inj hl qx4]; exact ex4⟩, ?_, fun c hc => ?_⟩
    · exact ⟨gz', kz _ _ D.Z_I.symm (kp _ _ D.Z_I.symm D.I_O D.I_i1 D.I_i2 D.I_i3 D.I_i4 hI), ⟨w1, w2, w3, w4, kz _ _ D.Z_O.symm gO⟩, Heap.IsTupleIter.at gi1 (fun o e => kz _ o D.Z_i1.symm e), Heap.IsTupleIter.at gi2 (fun o e => kz _ o D.Z_i2.symm e), Heap.IsTupleIter.at gi3 (fun o e => kz _ o D.Z_i3.symm e), Heap.IsTupleIter.at gi4 (fun o e => kz _ o D.Z_i4.symm e)⟩
    · have lt : c < s.heap.objs.size := by
        simp only [List.mem_cons, List.not_mem_nil, or_false] at hc
        rcases hc with rfl | rfl | rfl | rfl | rfl | rfl | rfl
        · exact zl
        · exact Heap.lt_size hI
        · exact Heap.lt_size hO
        · exact (let ⟨_, e, _⟩ := it_ob p1; Heap.lt_size e)
        · exact (let ⟨_, e, _⟩ := it_ob p2; Heap.lt_size e)
        · exact (let ⟨_, e, _⟩ := it_ob p3; Heap.lt_size e)
        · exact (let ⟨_, e, _⟩ := it_ob p4; Heap.lt_size e)
      rw [upd_ne (Nat.ne_of_lt lt)]; exact (hf c hc).1
  done := by
    intro X hP hw hK hc n pins s σ H E Iv hf ⟨hz, hI, ⟨v1, v2, v3, v4, hO⟩, p1, p2, p3, p4⟩ ⟨ys1, ys2, ys3, ys4, qx1, qx2, qx3, qx4, no⟩
    subst hP hw hK
    obtain ⟨us1, rx1, sx1, _⟩ := seqI Iv qx1
    have len1 := rx1.length
    obtain ⟨us2, rx2, sx2, _⟩ := seqI Iv qx2
    have len2 := rx2.length
    obtain ⟨us3, rx3, sx3, _⟩ := seqI Iv qx3
    have len3 := rx3.length
    obtain ⟨us4, rx4, sx4, _⟩ := seqI Iv qx4
    have len4 := rx4.length
    have hT : s.TypeIs (.ref Z) "zip" := ⟨_, hz, rfl⟩
    have no' : us1.toArray[n]? = none ∨ us2.toArray[n]? = none ∨ us3.toArray[n]? = none ∨ us4.toArray[n]? = none := by
      simp
      omega
    unfold pyNext
    refine wpAny_bind (wpAny_attempt (wpAny_callSpecial?_slot (name := Str.ofString "__next__") hT F.slot_zip_next (wpAny_call_entry F.slot_zip_next hT F.entry_zip_next
      (last (Iv.ok.hd hc) D hz hI hO p1 p2 p3 p4 sx1 sx2 sx3 sx4 no' fun g f kp ⟨o, ho, cl⟩ => ?_) (F.args_zip_next_1 _))))
    refine wpAny_bind (wpAny_isInstance (T := "StopIteration") (b := true) ⟨o, ho, cl⟩ isSubtype_stop (wpAny_pure ⟨rfl, Iv.turnedL (t' := s.toks) (ch := [Z, I, O, i1, i2, i3, i4]) (fun c o q e => ?_) hf⟩))
    simp only [List.mem_cons, List.not_mem_nil, or_false, not_or] at q
    obtain ⟨nZ, nI, nO, n1, n2, n3, n4⟩ := q
    exact kp c o nZ nO n1 n2 n3 n4 e
  self := fun A n s Q E st h => wpAny_pyIter_zip st.1 h
def iMix (K : PySem.W.Frag) (ta : TA) : TI := fun σ H R => ta σ H fun vs H1 => ∃ a1 a2 a3 a4 ys1 ys2 ys3 ys4, vs = [.ref a1, .ref a2, .ref a3, .ref a4] ∧ SqT K H1 a1 ys1 ∧ SqT K H1 a2 ys2 ∧ SqT K H1 a3 ys3 ∧ SqT K H1 a4 ys4 ∧ R (ItM K a1 a2 a3 a4) H1
theorem pi_mix {X : Cx} {e1 e2 e3 e4 : Expr} {ta : TA} {p pos tpos : Pos} {elts : List Expr} {kk : Nat} (hg : Gl X "zip") (hm : X.mg "zip" = none) (ha : PA X [e1, e2, e3, e4] ta)
    (hs : starEach [e1, e2, e3, e4] X.env = (false, eval e1 X.env) :: starEach [e2, e3, e4] X.env := by rfl) (hl : (backTo pos (starEach [e2, e3, e4] X.env)).any (·.1) = false := by rfl) : PI X (.Tuple elts kk tpos) (.Call (.Name "zip" p) [e1, e2, e3, e4] [] pos) (iMix X.K ta) := by
  refine ⟨fun pins s σ H R Iv h => Call_ (ld_blt Iv hg hm PyProof.Rows.boot_zip (PyProof.Rows.callWith_type1 (thn (ha.run pos pins s σ H _ Iv h) fun us s1 ⟨vs, H1, I1, r1, q1⟩ => ?_) hs hl))⟩
  obtain ⟨a1, a2, a3, a4, ys1, ys2, ys3, ys4, rfl, qx1, qx2, qx3, qx4, q⟩ := q1
  cases r1 with
  | cons t1 rr1 =>
    cases rr1 with
    | cons t2 rr2 =>
      cases rr2 with
      | cons t3 rr3 =>
        cases rr3 with
        | cons t4 rr4 =>
          cases rr4; cases t1; cases t2; cases t3; cases t4
          obtain ⟨_, _, sx1, la1⟩ := seqI I1 qx1
          obtain ⟨_, _, sx2, la2⟩ := seqI I1 qx2
          obtain ⟨_, _, sx3, la3⟩ := seqI I1 qx3
          obtain ⟨_, _, sx4, la4⟩ := seqI I1 qx4
          refine zip_new sx1 sx2 sx3 sx4 fun g N eN gz gI gO gi1 gi2 gi3 gi4 kp => wpAny_pyIter_zip gz ?_
          have fr : ∀ c, c ∈ [N + 6, N + 4, N + 5, N, N + 1, N + 2, N + 3] → FpOk X pins H1 c := fun c hc => by
            have le : s1.heap.objs.size ≤ c := by
              simp only [List.mem_cons, List.not_mem_nil, or_false] at hc
              rw [← eN]
              rcases hc with rfl | rfl | rfl | rfl | rfl | rfl | rfl <;> first | exact Nat.le_add_right _ _ | exact Nat.le_refl _
            exact I1.fpOk le (I1.hok.fresh le)
          have apart : Ap (N + 6) (N + 4) (N + 5) (N) (N + 1) (N + 2) (N + 3) a1 a2 a3 a4 := by
            rw [eN]
            exact ap_of s1.heap.objs.size a1 a2 a3 a4 la1 la2 la3 la4
          exact ⟨N + 6, [N + 6, N + 4, N + 5, N, N + 1, N + 2, N + 3], _, _, H1, rfl, I1.kept (t' := s1.toks) kp, turnM apart, ⟨gz, gI, ⟨_, _, _, _, gO⟩, gi1, gi2, gi3, gi4⟩, fr, q⟩
end Zt4
/-! ### as functions of data -/
namespace Dn
open PySem PySem.Spec PyProof.Rows L2 GxR Gx Zt4
def zipT4 : List D → List D → List D → List D → List D
  | d1 :: ds1, d2 :: ds2, d3 :: ds3, d4 :: ds4 => .tup [d1, d2, d3, d4] :: zipT4 ds1 ds2 ds3 ds4
  | _, _, _, _ => []
theorem zipT4_at : ∀ {ds1 ds2 ds3 ds4 : List D} {i : Nat} {d1 d2 d3 d4 : D}, ds1[i]? = some d1 → ds2[i]? = some d2 → ds3[i]? = some d3 → ds4[i]? = some d4 → (zipT4 ds1 ds2 ds3 ds4)[i]? = some (.tup [d1, d2, d3, d4])
  | _ :: _, _ :: _, _ :: _, _ :: _, 0, _, _, _, _, h1, h2, h3, h4 => by
    simp at h1 h2 h3 h4
    subst h1 h2 h3 h4
    simp [zipT4]
  | _ :: _, _ :: _, _ :: _, _ :: _, i + 1, _, _, _, _, h1, h2, h3, h4 => by
    simp at h1 h2 h3 h4
    simpa [zipT4] using zipT4_at h1 h2 h3 h4
  | [], _, _, _, i, _, _, _, _, h1, h2, h3, h4 => by simp at h1
  | _ :: _, [], _, _, i, _, _, _, _, h1, h2, h3, h4 => by simp at h2
  | _ :: _, _ :: _, [], _, i, _, _, _, _, h1, h2, h3, h4 => by simp at h3
  | _ :: _, _ :: _, _ :: _, [], i, _, _, _, _, h1, h2, h3, h4 => by simp at h4
theorem zipT4_len : ∀ {ds1 ds2 ds3 ds4 : List D}, (zipT4 ds1 ds2 ds3 ds4).length = min (min (min (ds1.length) ds2.length) ds3.length) ds4.length
  | _ :: _, _ :: _, _ :: _, _ :: _ => by
    simp only [zipT4, List.length_cons, zipT4_len]
    omega
  | [], _, _, _ => by simp [zipT4]
  | _ :: _, [], _, _ => by simp [zipT4]
  | _ :: _, _ :: _, [], _ => by simp [zipT4]
  | _ :: _, _ :: _, _ :: _, [] => by simp [zipT4]
theorem tups4_ok {W : Wd} {H : Hp} {μ : Mu} {J : It} {ds1 ds2 ds3 ds4 : List D} {n : Nat} {wt : List (Nat × List D)} (hn : n = min (min (min (ds1.length) ds2.length) ds3.length) ds4.length)
    (hgo : ∀ i H' μ' S', Le H μ H' μ' → RelS W H' μ' S' → wtOk wt S' → i < n → J.go i H') (hst : ∀ H' μ' S', Le H μ H' μ' → RelS W H' μ' S' → wtOk wt S' → J.stop n H')
    (hy : ∀ i H' μ' S' v H2, Le H μ H' μ' → RelS W H' μ' S' → wtOk wt S' → i < n → J.yld i H' v H2 → ∃ T x1 x2 x3 x4 d1 d2 d3 d4, v = .ref T ∧ H' T = none ∧ H2 = upd H' T (.tup [x1, x2, x3, x4]) ∧ ds1[i]? = some d1 ∧ ds2[i]? = some d2 ∧ ds3[i]? = some d3 ∧ ds4[i]? = some d4 ∧ RelD W H' μ' d1 x1 ∧ RelD W H' μ' d2 x2 ∧ RelD W H' μ' d3 x3 ∧ RelD W H' μ' d4 x4) :
    ItOk W J ⟨zipT4 ds1 ds2 ds3 ds4, wt⟩ H μ where
  go := fun i H' μ' S' l s w hi => hgo i H' μ' S' l s w (by simpa [hn, zipT4_len] using hi)
  stop := fun H' μ' S' l s w => by
    have e : (zipT4 ds1 ds2 ds3 ds4).length = n := by rw [zipT4_len, hn]
    rw [e]
    exact hst H' μ' S' l s w
  yld := fun i H' μ' S' x' H2 l s w hi yy => by
    obtain ⟨T, x1, x2, x3, x4, d1, d2, d3, d4, rfl, hT, rfl, e1, e2, e3, e4, r1, r2, r3, r4⟩ := hy i H' μ' S' x' H2 l s w (by simpa [hn, zipT4_len] using hi) yy
    refine ⟨.tup [d1, d2, d3, d4], zipT4_at e1 e2 e3 e4, ?_, Le.new hT, s.new hT⟩
    simp only [RelD]
    refine ⟨T, [x1, x2, x3, x4], rfl, .inl (.inl upd_same), RelDs.mono (Le.new hT) s.is [d1, d2, d3, d4] [x1, x2, x3, x4] ?_⟩
    simp only [RelDs]
    exact ⟨x1, [x2, x3, x4], rfl, r1, ⟨x2, [x3, x4], rfl, r2, ⟨x3, [x4], rfl, r3, ⟨x4, [], rfl, r4, rfl⟩⟩⟩⟩
def iT4 (xs : List Val) (S : Sto) : Out Itm := match xs with
  | [z1, z2, z3, z4] => (match seqT z1, seqT z2, seqT z3, seqT z4 with
    | some ds1, some ds2, some ds3, some ds4 => .ok ⟨zipT4 ds1 ds2 ds3 ds4, []⟩ S
    | _, _, _, _ => .bad)
  | _ => .bad
def diT4 (As : DAf) : DIf := fun env S => (As env S).bind fun xs S1 => iT4 xs S1
theorem di_t4 {W : Wd} {E : XK} {X : Cx} {e1 e2 e3 e4 : Expr} {As : DAf} {p pos tpos : Pos} {elts : List Expr} {kk : Nat} (hK : X.K = W.K) (hg : Gl X "zip") (hm : X.mg "zip" = none) (ha : DA W E X [e1, e2, e3, e4] As)
    (hs : starEach [e1, e2, e3, e4] X.env = (false, eval e1 X.env) :: starEach [e2, e3, e4] X.env := by rfl) (hl : (backTo pos (starEach [e2, e3, e4] X.env)).any (·.1) = false := by rfl) : DI W E X (.Tuple elts kk tpos) (.Call (.Name "zip" p) [e1, e2, e3, e4] [] pos) (diT4 As) :=
  (Zt4.pi_mix hg hm ha hs hl).imp fun σ H R ⟨env, S, μ, hE, hS, hp⟩ => ⟨env, S, μ, hE, hS, hp.bind.imp fun xs S1 H1 μ1 l1 s1 p1 vs rvs => by
    unfold iT4 at p1
    rw [hK]
    split at p1
    · rename_i z1 z2 z3 z4
      simp only [RelVs] at rvs
      obtain ⟨v1, u1, hu1, rv1, ⟨v2, u2, hu2, rv2, ⟨v3, u3, hu3, rv3, ⟨v4, u4, hu4, rv4, hnil⟩⟩⟩⟩ := rvs
      subst hnil hu4 hu3 hu2 hu1
      split at p1
      · rename_i ds1 ds2 ds3 ds4 c1 c2 c3 c4
        obtain ⟨a1, hv1, h1⟩ := staysT s1 rv1 c1
        subst hv1
        obtain ⟨us1, q1, _⟩ := h1 H1 μ1 .refl
        obtain ⟨a2, hv2, h2⟩ := staysT s1 rv2 c2
        subst hv2
        obtain ⟨us2, q2, _⟩ := h2 H1 μ1 .refl
        obtain ⟨a3, hv3, h3⟩ := staysT s1 rv3 c3
        subst hv3
        obtain ⟨us3, q3, _⟩ := h3 H1 μ1 .refl
        obtain ⟨a4, hv4, h4⟩ := staysT s1 rv4 c4
        subst hv4
        obtain ⟨us4, q4, _⟩ := h4 H1 μ1 .refl
        refine ⟨a1, a2, a3, a4, us1, us2, us3, us4, rfl, q1, q2, q3, q4, p1.at_ s1 _ (tups4_ok rfl (fun i H' μ' S' l s w hi => ?_) (fun H' μ' S' l s w => ?_) fun i H' μ' S' v H2 l s w hi yy => ?_)⟩
        · obtain ⟨vs1, p1, r1⟩ := h1 H' μ' l
          obtain ⟨vs2, p2, r2⟩ := h2 H' μ' l
          obtain ⟨vs3, p3, r3⟩ := h3 H' μ' l
          obtain ⟨vs4, p4, r4⟩ := h4 H' μ' l
          obtain ⟨y1, f1, _⟩ := r1.get (List.getElem?_eq_getElem (show i < ds1.length by omega))
          obtain ⟨y2, f2, _⟩ := r2.get (List.getElem?_eq_getElem (show i < ds2.length by omega))
          obtain ⟨y3, f3, _⟩ := r3.get (List.getElem?_eq_getElem (show i < ds3.length by omega))
          obtain ⟨y4, f4, _⟩ := r4.get (List.getElem?_eq_getElem (show i < ds4.length by omega))
          exact ⟨vs1, vs2, vs3, vs4, y1, y2, y3, y4, p1, p2, p3, p4, f1, f2, f3, f4⟩
        · obtain ⟨vs1, p1, r1⟩ := h1 H' μ' l
          obtain ⟨vs2, p2, r2⟩ := h2 H' μ' l
          obtain ⟨vs3, p3, r3⟩ := h3 H' μ' l
          obtain ⟨vs4, p4, r4⟩ := h4 H' μ' l
          exact ⟨vs1, vs2, vs3, vs4, p1, p2, p3, p4, by rw [← r1.length, ← r2.length, ← r3.length, ← r4.length]; omega⟩
        · obtain ⟨vs1, p1, r1⟩ := h1 H' μ' l
          obtain ⟨vs2, p2, r2⟩ := h2 H' μ' l
          obtain ⟨vs3, p3, r3⟩ := h3 H' μ' l
          obtain ⟨vs4, p4, r4⟩ := h4 H' μ' l
          have hd1 := List.getElem?_eq_getElem (show i < ds1.length by omega)
          obtain ⟨y1, f1, t1⟩ := r1.get hd1
          have hd2 := List.getElem?_eq_getElem (show i < ds2.length by omega)
          obtain ⟨y2, f2, t2⟩ := r2.get hd2
          have hd3 := List.getElem?_eq_getElem (show i < ds3.length by omega)
          obtain ⟨y3, f3, t3⟩ := r3.get hd3
          have hd4 := List.getElem?_eq_getElem (show i < ds4.length by omega)
          obtain ⟨y4, f4, t4⟩ := r4.get hd4
          obtain ⟨T, w1, w2, w3, w4, rfl, hT, rfl, k1, k2, k3, k4⟩ := yy
          have g1 := k1 vs1 p1
          rw [f1] at g1; cases g1
          have g2 := k2 vs2 p2
          rw [f2] at g2; cases g2
          have g3 := k3 vs3 p3
          rw [f3] at g3; cases g3
          have g4 := k4 vs4 p4
          rw [f4] at g4; cases g4
          exact ⟨T, _, _, _, _, _, _, _, _, rfl, hT, rfl, hd1, hd2, hd3, hd4, t1, t2, t3, t4⟩
      · exact p1.elim
    · exact p1.elim⟩
end Dn
set_option Elab.async false
set_option linter.all false
set_option maxRecDepth 100000
set_option maxHeartbeats 0
namespace Law
open PySem PySem.Spec PyProof.Rows L2 GxR Gx Dn
def top (i : Nat) : Stmt := PySem.Challenge.pw_safehelms_k58_plants_moved_and_read_by_o.main.body.getD i (.Pass ⟨0, 0, 0, 0⟩)
def tf : List He.Defn := [("is_drive", none), ("is_row_of", none), ("is_mode", none), ("is_right_plant", none), ("is_safe_at", none)]
abbrev WK (K : PySem.W.Frag) : Wd := ⟨K, tf.map fun p => (He.cT K p).2, fun _ => 0⟩
abbrev s__law_draw : Stmt := top 40
abbrev s__law_pick : Stmt := top 41
abbrev s__law_low : Stmt := top 43
abbrev s__law_plus : Stmt := top 44
abbrev s__law_pairs : Stmt := top 50
abbrev s__law_drive : Stmt := top 53
abbrev s__law_fraction : Stmt := top 48
abbrev s__law_mode : Stmt := top 51
abbrev s__law_unit : Stmt := top 49
abbrev s__law_sensor : Stmt := top 52
abbrev s__law_plant : Stmt := top 54
abbrev s__law_any_plant : Stmt := top 55
abbrev s__law_row_of : Stmt := top 58
abbrev s__law_times : Stmt := top 45
abbrev s__law_dot : Stmt := top 47
abbrev s__law_moved : Stmt := top 57
abbrev s__law_same : Stmt := top 42
abbrev s_is_whole : Stmt := top 7
abbrev s_is_whole_from : Stmt := top 8
abbrev s_is_tuple_of : Stmt := top 10
abbrev s_is_drive : Stmt := top 26
abbrev s_is_fraction : Stmt := top 11
abbrev s_is_row_of : Stmt := top 17
abbrev s_is_mode : Stmt := top 23
abbrev s_is_up_to : Stmt := top 14
abbrev s_is_span : Stmt := top 24
abbrev s_fraction : Stmt := top 12
abbrev s_total : Stmt := top 13
abbrev s_is_sensor : Stmt := top 25
abbrev s_is_wish : Stmt := top 20
abbrev s_is_right_plant : Stmt := top 22
abbrev s_check_plant : Stmt := top 36
abbrev s_check_row : Stmt := top 18
abbrev s_product_of : Stmt := top 15
abbrev s_moved_on : Stmt := top 31
abbrev s_is_index : Stmt := top 9
abbrev s_moved : Stmt := top 30
abbrev s__law_up_to : Stmt := top 46
abbrev s_check_plant_row : Stmt := top 37
abbrev s_is_safe_at : Stmt := top 29
abbrev s_is_safe_row : Stmt := top 28
abbrev s_readings_at : Stmt := top 33
abbrev s_readings_of : Stmt := top 32
abbrev s__law_readings : Stmt := top 56
abbrev s_driven_by : Stmt := top 35
abbrev s_within_drive : Stmt := top 34
abbrev s__law_right : Stmt := top 59
abbrev s__law_well : Stmt := top 39
abbrev s_law : Stmt := top 60
/-- what the head tells -/
structure Gf (K : PySem.W.Frag) (mg : Str → Option Value) (base : Heap) : Prop where
  b_abs : mg "abs" = none
  b_all : mg "all" = none
  b_bool : mg "bool" = none
  b_divmod : mg "divmod" = none
  b_enumerate : mg "enumerate" = none
  b_int : mg "int" = none
  b_isinstance : mg "isinstance" = none
  b_len : mg "len" = none
  b_max : mg "max" = none
  b_min : mg "min" = none
  b_range : mg "range" = none
  b_str : mg "str" = none
  b_tuple : mg "tuple" = none
  b_zip : mg "zip" = none
  gcd : mg "gcd" = some (.builtin "math.gcd")
  t_is_drive : TabB base mg (He.codeOf K ("is_drive", none)) (He.tabOf K (He.codeOf K ("is_drive", none)))
  t_is_row_of : TabB base mg (He.codeOf K ("is_row_of", none)) (He.tabOf K (He.codeOf K ("is_row_of", none)))
  t_is_mode : TabB base mg (He.codeOf K ("is_mode", none)) (He.tabOf K (He.codeOf K ("is_mode", none)))
  t_is_right_plant : TabB base mg (He.codeOf K ("is_right_plant", none)) (He.tabOf K (He.codeOf K ("is_right_plant", none)))
  t_is_safe_at : TabB base mg (He.codeOf K ("is_safe_at", none)) (He.tabOf K (He.codeOf K ("is_safe_at", none)))
  f__law_draw : ∃ fd, FunD K "_law_draw" "_law_draw" (defArgs s__law_draw) (defBody s__law_draw) (defScope s__law_draw) [] [] (He.fAd K ("_law_draw", none)) fd
  f__law_pick : ∃ fd, FunD K "_law_pick" "_law_pick" (defArgs s__law_pick) (defBody s__law_pick) (defScope s__law_pick) [] [] (He.fAd K ("_law_pick", none)) fd
  f__law_low : ∃ fd, FunD K "_law_low" "_law_low" (defArgs s__law_low) (defBody s__law_low) (defScope s__law_low) [] [] (He.fAd K ("_law_low", none)) fd
  f__law_plus : ∃ fd, FunD K "_law_plus" "_law_plus" (defArgs s__law_plus) (defBody s__law_plus) (defScope s__law_plus) [] [] (He.fAd K ("_law_plus", none)) fd
  f__law_pairs : ∃ fd, FunD K "_law_pairs" "_law_pairs" (defArgs s__law_pairs) (defBody s__law_pairs) (defScope s__law_pairs) [] [] (He.fAd K ("_law_pairs", none)) fd
  f__law_drive : ∃ fd, FunD K "_law_drive" "_law_drive" (defArgs s__law_drive) (defBody s__law_drive) (defScope s__law_drive) [] [] (He.fAd K ("_law_drive", none)) fd
  f__law_fraction : ∃ fd, FunD K "_law_fraction" "_law_fraction" (defArgs s__law_fraction) (defBody s__law_fraction) (defScope s__law_fraction) [] [] (He.fAd K ("_law_fraction", none)) fd
  f__law_mode : ∃ fd, FunD K "_law_mode" "_law_mode" (defArgs s__law_mode) (defBody s__law_mode) (defScope s__law_mode) [] [] (He.fAd K ("_law_mode", none)) fd
  f__law_unit : ∃ fd, FunD K "_law_unit" "_law_unit" (defArgs s__law_unit) (defBody s__law_unit) (defScope s__law_unit) [] [] (He.fAd K ("_law_unit", none)) fd
  f__law_sensor : ∃ fd, FunD K "_law_sensor" "_law_sensor" (defArgs s__law_sensor) (defBody s__law_sensor) (defScope s__law_sensor) [] [] (He.fAd K ("_law_sensor", none)) fd
  f__law_plant : ∃ fd, FunD K "_law_plant" "_law_plant" (defArgs s__law_plant) (defBody s__law_plant) (defScope s__law_plant) [] [] (He.fAd K ("_law_plant", none)) fd
  f__law_any_plant : ∃ fd, FunD K "_law_any_plant" "_law_any_plant" (defArgs s__law_any_plant) (defBody s__law_any_plant) (defScope s__law_any_plant) [] [] (He.fAd K ("_law_any_plant", none)) fd
  f__law_row_of : ∃ fd, FunD K "_law_row_of" "_law_row_of" (defArgs s__law_row_of) (defBody s__law_row_of) (defScope s__law_row_of) [] [] (He.fAd K ("_law_row_of", none)) fd
  f__law_times : ∃ fd, FunD K "_law_times" "_law_times" (defArgs s__law_times) (defBody s__law_times) (defScope s__law_times) [] [] (He.fAd K ("_law_times", none)) fd
  f__law_dot : ∃ fd, FunD K "_law_dot" "_law_dot" (defArgs s__law_dot) (defBody s__law_dot) (defScope s__law_dot) [] [] (He.fAd K ("_law_dot", none)) fd
  f__law_moved : ∃ fd, FunD K "_law_moved" "_law_moved" (defArgs s__law_moved) (defBody s__law_moved) (defScope s__law_moved) [] [] (He.fAd K ("_law_moved", none)) fd
  f__law_same : ∃ fd, FunD K "_law_same" "_law_same" (defArgs s__law_same) (defBody s__law_same) (defScope s__law_same) [] [] (He.fAd K ("_law_same", none)) fd
  f_is_whole : ∃ fd, FunD K "is_whole" "is_whole" (defArgs s_is_whole) (defBody s_is_whole) (defScope s_is_whole) [] [] (He.fAd K ("is_whole", none)) fd
  f_is_whole_from : ∃ fd, FunD K "is_whole_from" "is_whole_from" (defArgs s_is_whole_from) (defBody s_is_whole_from) (defScope s_is_whole_from) [] [] (He.fAd K ("is_whole_from", none)) fd
  f_is_tuple_of : ∃ fd, FunD K "is_tuple_of" "is_tuple_of" (defArgs s_is_tuple_of) (defBody s_is_tuple_of) (defScope s_is_tuple_of) [] [] (He.fAd K ("is_tuple_of", none)) fd
  f_is_drive : ∃ fd, FunD K "is_drive" "is_drive" (defArgs s_is_drive) (defBody s_is_drive) (defScope s_is_drive) [] [] (He.fAd K ("is_drive", none)) fd
  f_is_fraction : ∃ fd, FunD K "is_fraction" "is_fraction" (defArgs s_is_fraction) (defBody s_is_fraction) (defScope s_is_fraction) [] [] (He.fAd K ("is_fraction", none)) fd
  f_is_row_of : ∃ fd, FunD K "is_row_of" "is_row_of" (defArgs s_is_row_of) (defBody s_is_row_of) (defScope s_is_row_of) [] [] (He.fAd K ("is_row_of", none)) fd
  f_is_mode : ∃ fd, FunD K "is_mode" "is_mode" (defArgs s_is_mode) (defBody s_is_mode) (defScope s_is_mode) [] [] (He.fAd K ("is_mode", none)) fd
  f_is_up_to : ∃ fd, FunD K "is_up_to" "is_up_to" (defArgs s_is_up_to) (defBody s_is_up_to) (defScope s_is_up_to) [] [] (He.fAd K ("is_up_to", none)) fd
  f_is_span : ∃ fd, FunD K "is_span" "is_span" (defArgs s_is_span) (defBody s_is_span) (defScope s_is_span) [] [] (He.fAd K ("is_span", none)) fd
  f_fraction : ∃ fd, FunD K "fraction" "fraction" (defArgs s_fraction) (defBody s_fraction) (defScope s_fraction) [] [] (He.fAd K ("fraction", none)) fd
  f_total : ∃ fd, FunD K "total" "total" (defArgs s_total) (defBody s_total) (defScope s_total) [] [] (He.fAd K ("total", none)) fd
  f_is_sensor : ∃ fd, FunD K "is_sensor" "is_sensor" (defArgs s_is_sensor) (defBody s_is_sensor) (defScope s_is_sensor) [] [] (He.fAd K ("is_sensor", none)) fd
  f_is_wish : ∃ fd, FunD K "is_wish" "is_wish" (defArgs s_is_wish) (defBody s_is_wish) (defScope s_is_wish) [] [] (He.fAd K ("is_wish", none)) fd
  f_is_right_plant : ∃ fd, FunD K "is_right_plant" "is_right_plant" (defArgs s_is_right_plant) (defBody s_is_right_plant) (defScope s_is_right_plant) [] [] (He.fAd K ("is_right_plant", none)) fd
  f_check_plant : ∃ fd, FunD K "check_plant" "check_plant" (defArgs s_check_plant) (defBody s_check_plant) (defScope s_check_plant) [] [] (He.fAd K ("check_plant", none)) fd
  f_check_row : ∃ fd, FunD K "check_row" "check_row" (defArgs s_check_row) (defBody s_check_row) (defScope s_check_row) [] [] (He.fAd K ("check_row", none)) fd
  f_product_of : ∃ fd, FunD K "product_of" "product_of" (defArgs s_product_of) (defBody s_product_of) (defScope s_product_of) [] [] (He.fAd K ("product_of", none)) fd
  f_moved_on : ∃ fd, FunD K "moved_on" "moved_on" (defArgs s_moved_on) (defBody s_moved_on) (defScope s_moved_on) [] [] (He.fAd K ("moved_on", none)) fd
  f_is_index : ∃ fd, FunD K "is_index" "is_index" (defArgs s_is_index) (defBody s_is_index) (defScope s_is_index) [] [] (He.fAd K ("is_index", none)) fd
  f_moved : ∃ fd, FunD K "moved" "moved" (defArgs s_moved) (defBody s_moved) (defScope s_moved) [] [] (He.fAd K ("moved", none)) fd
  f__law_up_to : ∃ fd, FunD K "_law_up_to" "_law_up_to" (defArgs s__law_up_to) (defBody s__law_up_to) (defScope s__law_up_to) [] [] (He.fAd K ("_law_up_to", none)) fd
  f_check_plant_row : ∃ fd, FunD K "check_plant_row" "check_plant_row" (defArgs s_check_plant_row) (defBody s_check_plant_row) (defScope s_check_plant_row) [] [] (He.fAd K ("check_plant_row", none)) fd
  f_is_safe_at : ∃ fd, FunD K "is_safe_at" "is_safe_at" (defArgs s_is_safe_at) (defBody s_is_safe_at) (defScope s_is_safe_at) [] [] (He.fAd K ("is_safe_at", none)) fd
  f_is_safe_row : ∃ fd, FunD K "is_safe_row" "is_safe_row" (defArgs s_is_safe_row) (defBody s_is_safe_row) (defScope s_is_safe_row) [] [] (He.fAd K ("is_safe_row", none)) fd
  f_readings_at : ∃ fd, FunD K "readings_at" "readings_at" (defArgs s_readings_at) (defBody s_readings_at) (defScope s_readings_at) [] [] (He.fAd K ("readings_at", none)) fd
  f_readings_of : ∃ fd, FunD K "readings_of" "readings_of" (defArgs s_readings_of) (defBody s_readings_of) (defScope s_readings_of) [] [] (He.fAd K ("readings_of", none)) fd
  f__law_readings : ∃ fd, FunD K "_law_readings" "_law_readings" (defArgs s__law_readings) (defBody s__law_readings) (defScope s__law_readings) [] [] (He.fAd K ("_law_readings", none)) fd
  f_driven_by : ∃ fd, FunD K "driven_by" "driven_by" (defArgs s_driven_by) (defBody s_driven_by) (defScope s_driven_by) [] [] (He.fAd K ("driven_by", none)) fd
  f_within_drive : ∃ fd, FunD K "within_drive" "within_drive" (defArgs s_within_drive) (defBody s_within_drive) (defScope s_within_drive) [] [] (He.fAd K ("within_drive", none)) fd
  f__law_right : ∃ fd, FunD K "_law_right" "_law_right" (defArgs s__law_right) (defBody s__law_right) (defScope s__law_right) [] [] (He.fAd K ("_law_right", none)) fd
  f__law_well : ∃ fd, FunD K "_law_well" "_law_well" (defArgs s__law_well) (defBody s__law_well) (defScope s__law_well) [] [] (He.fAd K ("_law_well", none)) fd
  f_law : ∃ fd, FunD K "law" "law" (defArgs s_law) (defBody s_law) (defScope s_law) [] [] (He.fAd K ("law", none)) fd
  g__law_draw : mg "_law_draw" = some (.ref (He.fAd K ("_law_draw", none)))
  g__law_pick : mg "_law_pick" = some (.ref (He.fAd K ("_law_pick", none)))
  g__law_low : mg "_law_low" = some (.ref (He.fAd K ("_law_low", none)))
  g__law_plus : mg "_law_plus" = some (.ref (He.fAd K ("_law_plus", none)))
  g__law_pairs : mg "_law_pairs" = some (.ref (He.fAd K ("_law_pairs", none)))
  g__law_drive : mg "_law_drive" = some (.ref (He.fAd K ("_law_drive", none)))
  g__law_fraction : mg "_law_fraction" = some (.ref (He.fAd K ("_law_fraction", none)))
  g__law_mode : mg "_law_mode" = some (.ref (He.fAd K ("_law_mode", none)))
  g__law_unit : mg "_law_unit" = some (.ref (He.fAd K ("_law_unit", none)))
  g__law_sensor : mg "_law_sensor" = some (.ref (He.fAd K ("_law_sensor", none)))
  g__law_plant : mg "_law_plant" = some (.ref (He.fAd K ("_law_plant", none)))
  g__law_any_plant : mg "_law_any_plant" = some (.ref (He.fAd K ("_law_any_plant", none)))
  g__law_row_of : mg "_law_row_of" = some (.ref (He.fAd K ("_law_row_of", none)))
  g__law_times : mg "_law_times" = some (.ref (He.fAd K ("_law_times", none)))
  g__law_dot : mg "_law_dot" = some (.ref (He.fAd K ("_law_dot", none)))
  g__law_moved : mg "_law_moved" = some (.ref (He.fAd K ("_law_moved", none)))
  g__law_same : mg "_law_same" = some (.ref (He.fAd K ("_law_same", none)))
  g_is_whole : mg "is_whole" = some (.ref (He.fAd K ("is_whole", none)))
  g_is_whole_from : mg "is_whole_from" = some (.ref (He.fAd K ("is_whole_from", none)))
  g_is_tuple_of : mg "is_tuple_of" = some (.ref (He.fAd K ("is_tuple_of", none)))
  g_is_drive : mg "is_drive" = some (.ref (He.fAd K ("is_drive", none)))
  g_is_fraction : mg "is_fraction" = some (.ref (He.fAd K ("is_fraction", none)))
  g_is_row_of : mg "is_row_of" = some (.ref (He.fAd K ("is_row_of", none)))
  g_is_mode : mg "is_mode" = some (.ref (He.fAd K ("is_mode", none)))
  g_is_up_to : mg "is_up_to" = some (.ref (He.fAd K ("is_up_to", none)))
  g_is_span : mg "is_span" = some (.ref (He.fAd K ("is_span", none)))
  g_fraction : mg "fraction" = some (.ref (He.fAd K ("fraction", none)))
  g_total : mg "total" = some (.ref (He.fAd K ("total", none)))
  g_is_sensor : mg "is_sensor" = some (.ref (He.fAd K ("is_sensor", none)))
  g_is_wish : mg "is_wish" = some (.ref (He.fAd K ("is_wish", none)))
  g_is_right_plant : mg "is_right_plant" = some (.ref (He.fAd K ("is_right_plant", none)))
  g_check_plant : mg "check_plant" = some (.ref (He.fAd K ("check_plant", none)))
  g_check_row : mg "check_row" = some (.ref (He.fAd K ("check_row", none)))
  g_product_of : mg "product_of" = some (.ref (He.fAd K ("product_of", none)))
  g_moved_on : mg "moved_on" = some (.ref (He.fAd K ("moved_on", none)))
  g_is_index : mg "is_index" = some (.ref (He.fAd K ("is_index", none)))
  g_moved : mg "moved" = some (.ref (He.fAd K ("moved", none)))
  g__law_up_to : mg "_law_up_to" = some (.ref (He.fAd K ("_law_up_to", none)))
  g_check_plant_row : mg "check_plant_row" = some (.ref (He.fAd K ("check_plant_row", none)))
  g_is_safe_at : mg "is_safe_at" = some (.ref (He.fAd K ("is_safe_at", none)))
  g_is_safe_row : mg "is_safe_row" = some (.ref (He.fAd K ("is_safe_row", none)))
  g_readings_at : mg "readings_at" = some (.ref (He.fAd K ("readings_at", none)))
  g_readings_of : mg "readings_of" = some (.ref (He.fAd K ("readings_of", none)))
  g__law_readings : mg "_law_readings" = some (.ref (He.fAd K ("_law_readings", none)))
  g_driven_by : mg "driven_by" = some (.ref (He.fAd K ("driven_by", none)))
  g_within_drive : mg "within_drive" = some (.ref (He.fAd K ("within_drive", none)))
  g__law_right : mg "_law_right" = some (.ref (He.fAd K ("_law_right", none)))
  g__law_well : mg "_law_well" = some (.ref (He.fAd K ("_law_well", none)))
  g_law : mg "law" = some (.ref (He.fAd K ("law", none)))
noncomputable def b__law_draw : DSf := (dSeq (dIfS (dB (dOp oGt (dOp oIx (dVar 0) (dC (.int 0))) (dC (.int 0))))
  (dSeq (dAsg (dCall (o2 bDivmod) (dCons (dOp oIx (dVar 0) (dC (.int 0))) (dCons (dVar 1) dNil))) (dgTup 2 (dgCons (dgSub (dVar 0) (dC (.int 0))) (dgCons (dgName 3) dgNil))))
  (dRet (dVar 3))) dNext)
  (dSeq (dAsg (dOp oAdd (dOp oIx (dVar 0) (dC (.int 2))) (dC (.int 1))) (dgSub (dVar 0) (dC (.int 2))))
  (dSeq (dAsg (dOp oMod (dCall (o1 bInt) (dCons (dOp oAdd (dOp oIx (dVar 0) (dC (.int 1))) (dOp oMul (dC (.int 50021)) (dOp oIx (dVar 0) (dC (.int 2))))) dNil)) (dC (.int 2147483497))) (dgName 2))
  (dSeq (dAsg (dOp oMod (dCall (o1 bInt) (dCons (dOp oAdd (dOp oMul (dVar 2) (dOp oAdd (dOp oMod (dCall (o1 bInt) (dCons (dVar 2) dNil)) (dC (.int 7001))) (dC (.int 20011)))) (dOp oMul (dC (.int 19)) (dOp oIx (dVar 0) (dC (.int 2))))) dNil)) (dC (.int 2147483497))) (dgSub (dVar 0) (dC (.int 1))))
  (dRet (dOp oMod (dCall (o1 bInt) (dCons (dOp oDiv (dOp oIx (dVar 0) (dC (.int 1))) (dC (.int 769))) dNil)) (dVar 1)))))))
noncomputable def m__law_draw : Opn := dFn 4 b__law_draw
noncomputable def b__law_pick : DSf := (dRet (dOp oIx (dVar 1) (dCallN 2 m__law_draw (dCons (dVar 0) (dCons (dCall (o1 bLen) (dCons (dVar 1) dNil)) dNil)))))
noncomputable def m__law_pick : Opn := dFn 2 b__law_pick
noncomputable def b__law_low : DSf := (dSeq (dPar 3 4 (dCons (dCall (o1 bAbs) (dCons (dVar 0) dNil)) (dCons (dVar 1) dNil)))
  (dSeq (dFor (diRng1 (dCons (dC (.int 9000)) dNil)) (dgName 2)
  (dSeq (dIfS (dB (dOp oEq (dVar 4) (dC (.int 0))))
  dBrk dNext)
  (dPar 3 4 (dCons (dVar 4) (dCons (dOp oMod (dCall (o1 bInt) (dCons (dVar 3) dNil)) (dVar 4)) dNil)))))
  (dRet (dCall oTup (dCons (dOp oDiv (dVar 0) (dVar 3)) (dCons (dOp oDiv (dVar 1) (dVar 3)) dNil))))))
noncomputable def m__law_low : Opn := dFn 5 b__law_low
noncomputable def b__law_plus : DSf := (dRet (dCallN 2 m__law_low (dCons (dOp oAdd (dOp oMul (dOp oIx (dVar 0) (dC (.int 0))) (dOp oIx (dVar 1) (dC (.int 1)))) (dOp oMul (dOp oIx (dVar 1) (dC (.int 0))) (dOp oIx (dVar 0) (dC (.int 1))))) (dCons (dOp oMul (dOp oIx (dVar 0) (dC (.int 1))) (dOp oIx (dVar 1) (dC (.int 1)))) dNil))))
noncomputable def m__law_plus : Opn := dFn 2 b__law_plus
noncomputable def b__law_pairs : DSf := (dSeq (dAsg (dCall oCell dNil) (dgName 3))
  (dSeq (dFor (diRng1 (dCons (dVar 1) dNil)) (dgName 4)
  (dSeq (dAsg (dCallN 2 m__law_low (dCons (dOp oSub (dCallN 2 m__law_draw (dCons (dVar 0) (dCons (dC (.int 9)) dNil))) (dC (.int 4))) (dCons (dOp oIx (dCall oTup (dCons (dC (.int 1)) (dCons (dC (.int 2)) (dCons (dC (.int 4)) dNil)))) (dCallN 2 m__law_draw (dCons (dVar 0) (dCons (dC (.int 3)) dNil)))) dNil))) (dgName 5))
  (dDrop (dMeth mAppend (dVar 3) (dCons (dCall oTup (dCons (dVar 5) (dCons (dCallN 2 m__law_plus (dCons (dVar 5) (dCons (dCallN 2 m__law_low (dCons (dCallN 2 m__law_draw (dCons (dVar 0) (dCons (dVar 2) dNil))) (dCons (dOp oIx (dCall oTup (dCons (dC (.int 1)) (dCons (dC (.int 2)) (dCons (dC (.int 4)) dNil)))) (dCallN 2 m__law_draw (dCons (dVar 0) (dCons (dC (.int 3)) dNil)))) dNil))) dNil))) dNil))) dNil)))))
  (dRet (dCall (o1 bTuple) (dCons (dVar 3) dNil)))))
noncomputable def m__law_pairs : Opn := dFn 6 b__law_pairs
noncomputable def b__law_drive : DSf := (dSeq (dAsg (dCallN 2 m__law_pick (dCons (dVar 0) (dCons (dCall oTup (dCons (dC (.int 0)) (dCons (dUn oNeg (dC (.int 2))) (dCons (dUn oNeg (dC (.int 1))) (dCons (dC (.int 0)) (dCons (dUn oNeg (dC (.int 5))) dNil)))))) dNil))) (dgName 1))
  (dSeq (dAsg (dOp oAdd (dVar 1) (dCallN 2 m__law_pick (dCons (dVar 0) (dCons (dCall oTup (dCons (dC (.int 2)) (dCons (dC (.int 1)) (dCons (dC (.int 3)) (dCons (dC (.int 0)) (dCons (dC (.int 5)) dNil)))))) dNil)))) (dgName 2))
  (dSeq (dAsg (dOp oAdd (dVar 1) (dCallN 2 m__law_draw (dCons (dVar 0) (dCons (dOp oAdd (dOp oSub (dVar 2) (dVar 1)) (dC (.int 1))) dNil)))) (dgName 3))
  (dRet (dCall oTup (dCons (dVar 1) (dCons (dVar 2) (dCons (dVar 3) (dCons (dCallN 2 m__law_pick (dCons (dVar 0) (dCons (dCall oTup (dCons (dC (.int 0)) (dCons (dC (.int 1)) (dCons (dC (.int 0)) (dCons (dC (.int 2)) (dCons (dC (.int 0)) (dCons (dC (.int 3)) dNil))))))) dNil))) (dCons (dCallN 2 m__law_draw (dCons (dVar 0) (dCons (dC (.int 2)) dNil))) dNil))))))))))
noncomputable def m__law_drive : Opn := dFn 4 b__law_drive
noncomputable def b__law_fraction : DSf := (dSeq (dAsg (dCallN 2 m__law_draw (dCons (dVar 0) (dCons (dC (.int 20)) dNil))) (dgName 1))
  (dSeq (dIfS (dB (dOp oEq (dVar 1) (dC (.int 19))))
  (dRet (dCallN 2 m__law_low (dCons (dOp oSub (dCallN 2 m__law_draw (dCons (dVar 0) (dCons (dC (.int 2000001)) dNil))) (dC (.int 1000000))) (dCons (dOp oAdd (dC (.int 1)) (dCallN 2 m__law_draw (dCons (dVar 0) (dCons (dC (.int 1000)) dNil)))) dNil)))) dNext)
  (dSeq (dIfS (dB (dOp oGt (dVar 1) (dC (.int 16))))
  (dRet (dCallN 2 m__law_low (dCons (dOp oSub (dCallN 2 m__law_draw (dCons (dVar 0) (dCons (dC (.int 13)) dNil))) (dC (.int 6))) (dCons (dC (.int 3)) dNil)))) dNext)
  (dRet (dCallN 2 m__law_low (dCons (dOp oSub (dCallN 2 m__law_draw (dCons (dVar 0) (dCons (dC (.int 17)) dNil))) (dC (.int 8))) (dCons (dOp oIx (dCall oTup (dCons (dC (.int 1)) (dCons (dC (.int 2)) (dCons (dC (.int 4)) (dCons (dC (.int 2)) dNil))))) (dOp oDiv (dVar 1) (dC (.int 5)))) dNil)))))))
noncomputable def m__law_fraction : Opn := dFn 2 b__law_fraction
noncomputable def b__law_mode : DSf := (dSeq (dPar 4 5 (dCons (dCall oTup (dCons (dCall oTup (dCons (dC (.int 0)) (dCons (dC (.int 1)) dNil))) (dCons (dCall oTup (dCons (dC (.int 1)) (dCons (dC (.int 1)) dNil))) (dCons (dCall oTup (dCons (dC (.int 1)) (dCons (dC (.int 2)) dNil))) (dCons (dCall oTup (dCons (dUn oNeg (dC (.int 1))) (dCons (dC (.int 2)) dNil))) (dCons (dCall oTup (dCons (dC (.int 1)) (dCons (dC (.int 4)) dNil))) (dCons (dCall oTup (dCons (dC (.int 0)) (dCons (dC (.int 1)) dNil))) (dCons (dCall oTup (dCons (dC (.int 3)) (dCons (dC (.int 4)) dNil))) (dCons (dCall oTup (dCons (dUn oNeg (dC (.int 1))) (dCons (dC (.int 1)) dNil))) dNil))))))))) (dCons (dCall oCell dNil) dNil)))
  (dSeq (dFor (diRng1 (dCons (dVar 1) dNil)) (dgName 2)
  (dSeq (dAsg (dLcC (diRng1 (dCons (dVar 1) dNil)) (dgName 7) dYes (dCallN 2 m__law_pick (dCons (dVar 0) (dCons (dVar 4) dNil))) [7]) (dgName 6))
  (dSeq (dAsg (dCallN 2 m__law_pick (dCons (dVar 0) (dCons (dCall oTup (dCons (dCall oTup (dCons (dC (.int 1)) (dCons (dC (.int 1)) dNil))) (dCons (dCall oTup (dCons (dC (.int 1)) (dCons (dC (.int 1)) dNil))) (dCons (dCall oTup (dCons (dC (.int 1)) (dCons (dC (.int 2)) dNil))) (dCons (dCall oTup (dCons (dC (.int 3)) (dCons (dC (.int 4)) dNil))) (dCons (dCall oTup (dCons (dC (.int 1)) (dCons (dC (.int 1)) dNil))) (dCons (dCallN 1 m__law_fraction (dCons (dVar 0) dNil)) dNil))))))) dNil))) (dgSub (dVar 6) (dVar 2)))
  (dDrop (dMeth mAppend (dVar 5) (dCons (dCall (o1 bTuple) (dCons (dVar 6) dNil)) dNil))))))
  (dSeq (dAsg (dCall (o1 bTuple) (dCons (dLc (diRng1 (dCons (dVar 1) dNil)) (dgName 7) dYes (dCallN 2 m__law_pick (dCons (dVar 0) (dCons (dCall oTup (dCons (dCall oTup (dCons (dC (.int 1)) (dCons (dC (.int 2)) dNil))) (dCons (dCall oTup (dCons (dC (.int 1)) (dCons (dC (.int 1)) dNil))) (dCons (dCall oTup (dCons (dC (.int 0)) (dCons (dC (.int 1)) dNil))) (dCons (dCall oTup (dCons (dUn oNeg (dC (.int 1))) (dCons (dC (.int 4)) dNil))) (dCons (dCall oTup (dCons (dC (.int 1)) (dCons (dC (.int 4)) dNil))) dNil)))))) dNil))) [7]) dNil)) (dgName 3))
  (dRet (dCall oTup (dCons (dCall (o1 bTuple) (dCons (dVar 5) dNil)) (dCons (dVar 3) (dCons (dCall (o1 bTuple) (dCons (dLc (diRng1 (dCons (dVar 1) dNil)) (dgName 7) dYes (dCallN 2 m__law_pick (dCons (dVar 0) (dCons (dCall oTup (dCons (dCall oTup (dCons (dC (.int 0)) (dCons (dC (.int 1)) dNil))) (dCons (dCall oTup (dCons (dUn oNeg (dC (.int 1))) (dCons (dC (.int 2)) dNil))) (dCons (dCall oTup (dCons (dC (.int 1)) (dCons (dC (.int 4)) dNil))) (dCons (dCall oTup (dCons (dUn oNeg (dC (.int 1))) (dCons (dC (.int 1)) dNil))) dNil))))) dNil))) [7]) dNil)) dNil))))))))
noncomputable def m__law_mode : Opn := dFn 8 b__law_mode
noncomputable def b__law_unit : DSf := (dRet (dCall (o1 bTuple) (dCons (dLc (diRng1 (dCons (dVar 0) dNil)) (dgName 2) dYes (dIf (dB (dOp oEq (dVar 2) (dVar 1))) (dCall oTup (dCons (dC (.int 1)) (dCons (dC (.int 1)) dNil))) (dCall oTup (dCons (dC (.int 0)) (dCons (dC (.int 1)) dNil)))) [2]) dNil)))
noncomputable def m__law_unit : Opn := dFn 3 b__law_unit
noncomputable def b__law_sensor : DSf := (dSeq (dAsg (dCallN 2 m__law_unit (dCons (dVar 1) (dCons (dCallN 2 m__law_draw (dCons (dVar 0) (dCons (dVar 1) dNil))) dNil))) (dgName 2))
  (dSeq (dIfS (dB (dOp oEq (dCallN 2 m__law_draw (dCons (dVar 0) (dCons (dC (.int 4)) dNil))) (dC (.int 0))))
  (dAsg (dCall (o1 bTuple) (dCons (dLc (diRng1 (dCons (dVar 1) dNil)) (dgName 5) dYes (dCallN 2 m__law_pick (dCons (dVar 0) (dCons (dCall oTup (dCons (dCall oTup (dCons (dC (.int 1)) (dCons (dC (.int 1)) dNil))) (dCons (dCall oTup (dCons (dC (.int 1)) (dCons (dC (.int 2)) dNil))) (dCons (dCall oTup (dCons (dUn oNeg (dC (.int 1))) (dCons (dC (.int 1)) dNil))) (dCons (dCall oTup (dCons (dC (.int 0)) (dCons (dC (.int 1)) dNil))) dNil))))) dNil))) [5]) dNil)) (dgName 2)) dNext)
  (dSeq (dAsg (dCallN 2 m__law_pick (dCons (dVar 0) (dCons (dCall oTup (dCons (dCall oTup (dCons (dUn oNeg (dC (.int 1))) (dCons (dC (.int 2)) dNil))) (dCons (dCall oTup (dCons (dC (.int 0)) (dCons (dC (.int 1)) dNil))) (dCons (dCall oTup (dCons (dUn oNeg (dC (.int 1))) (dCons (dC (.int 1)) dNil))) (dCons (dCall oTup (dCons (dUn oNeg (dC (.int 3))) (dCons (dC (.int 4)) dNil))) (dCons (dCall oTup (dCons (dUn oNeg (dC (.int 1))) (dCons (dC (.int 2)) dNil))) (dCons (dCall oTup (dCons (dC (.int 1)) (dCons (dC (.int 2)) dNil))) dNil))))))) dNil))) (dgName 3))
  (dSeq (dAsg (dCallN 2 m__law_pick (dCons (dVar 0) (dCons (dCall oTup (dCons (dCall oTup (dCons (dC (.int 1)) (dCons (dC (.int 1)) dNil))) (dCons (dCall oTup (dCons (dC (.int 1)) (dCons (dC (.int 1)) dNil))) (dCons (dCall oTup (dCons (dC (.int 3)) (dCons (dC (.int 2)) dNil))) (dCons (dCall oTup (dCons (dC (.int 2)) (dCons (dC (.int 1)) dNil))) (dCons (dCall oTup (dCons (dC (.int 5)) (dCons (dC (.int 4)) dNil))) (dCons (dCall oTup (dCons (dC (.int 1)) (dCons (dC (.int 1)) dNil))) dNil))))))) dNil))) (dgName 4))
  (dRet (dCall oTup (dCons (dVar 2) (dCons (dVar 3) (dCons (dCallN 2 m__law_plus (dCons (dVar 3) (dCons (dVar 4) dNil))) (dCons (dOp oSub (dCallN 2 m__law_draw (dCons (dVar 0) (dCons (dC (.int 9)) dNil))) (dC (.int 3))) dNil))))))))))
noncomputable def m__law_sensor : Opn := dFn 6 b__law_sensor
noncomputable def b__law_plant : DSf := (dSeq (dAsg (dCall (o1 bTuple) (dCons (dLc (diRng1 (dCons (dCallN 2 m__law_pick (dCons (dVar 0) (dCons (dCall oTup (dCons (dC (.int 1)) (dCons (dC (.int 2)) (dCons (dC (.int 1)) (dCons (dC (.int 3)) dNil))))) dNil))) dNil)) (dgName 7) dYes (dCallN 2 m__law_mode (dCons (dVar 0) (dCons (dVar 1) dNil))) [7]) dNil)) (dgName 4))
  (dSeq (dAsg (dCall (o1 bTuple) (dCons (dLc (diRng1 (dCons (dVar 2) dNil)) (dgName 7) dYes (dCallN 2 m__law_sensor (dCons (dVar 0) (dCons (dVar 1) dNil))) [7]) dNil)) (dgName 5))
  (dSeq (dAsg (dCall oCell (dCons (dCall oTup (dCons (dCallN 2 m__law_unit (dCons (dVar 1) (dCons (dC (.int 0)) dNil))) (dCons (dCallN 2 m__law_pick (dCons (dVar 0) (dCons (dCall oTup (dCons (dCall oTup (dCons (dC (.int 10)) (dCons (dC (.int 1)) dNil))) (dCons (dCall oTup (dCons (dC (.int 20)) (dCons (dC (.int 1)) dNil))) (dCons (dCall oTup (dCons (dC (.int 3)) (dCons (dC (.int 1)) dNil))) (dCons (dCall oTup (dCons (dC (.int 15)) (dCons (dC (.int 2)) dNil))) dNil))))) dNil))) dNil))) dNil)) (dgName 6))
  (dSeq (dFor (diRng1 (dCons (dCallN 2 m__law_pick (dCons (dVar 0) (dCons (dCall oTup (dCons (dC (.int 0)) (dCons (dC (.int 1)) (dCons (dC (.int 1)) (dCons (dC (.int 2)) (dCons (dC (.int 5)) dNil)))))) dNil))) dNil)) (dgName 7)
  (dSeq (dAsg (dCall (o1 bTuple) (dCons (dLc (diRng1 (dCons (dVar 1) dNil)) (dgName 9) dYes (dCallN 2 m__law_pick (dCons (dVar 0) (dCons (dCall oTup (dCons (dCall oTup (dCons (dUn oNeg (dC (.int 1))) (dCons (dC (.int 1)) dNil))) (dCons (dCall oTup (dCons (dC (.int 0)) (dCons (dC (.int 1)) dNil))) (dCons (dCall oTup (dCons (dC (.int 1)) (dCons (dC (.int 1)) dNil))) (dCons (dCall oTup (dCons (dUn oNeg (dC (.int 1))) (dCons (dC (.int 2)) dNil))) dNil))))) dNil))) [9]) dNil)) (dgName 8))
  (dDrop (dMeth mAppend (dVar 6) (dCons (dCall oTup (dCons (dVar 8) (dCons (dCallN 2 m__law_pick (dCons (dVar 0) (dCons (dCall oTup (dCons (dCall oTup (dCons (dC (.int 0)) (dCons (dC (.int 1)) dNil))) (dCons (dCall oTup (dCons (dC (.int 5)) (dCons (dC (.int 1)) dNil))) (dCons (dCall oTup (dCons (dC (.int 12)) (dCons (dC (.int 1)) dNil))) (dCons (dCall oTup (dCons (dC (.int 1)) (dCons (dC (.int 2)) dNil))) dNil))))) dNil))) dNil))) dNil)))))
  (dRet (dCall oTup (dCons (dVar 4) (dCons (dCallN 3 m__law_pairs (dCons (dVar 0) (dCons (dVar 1) (dCons (dC (.int 3)) dNil)))) (dCons (dCallN 3 m__law_pairs (dCons (dVar 0) (dCons (dVar 1) (dCons (dC (.int 9)) dNil)))) (dCons (dVar 5) (dCons (dVar 3) (dCons (dCallN 1 m__law_drive (dCons (dVar 0) dNil)) (dCons (dCall (o1 bTuple) (dCons (dVar 6) dNil)) dNil)))))))))))))
noncomputable def m__law_plant : Opn := dFn 10 b__law_plant
noncomputable def b__law_any_plant : DSf := (dRet (dCallN 4 m__law_plant (dCons (dVar 0) (dCons (dCallN 2 m__law_pick (dCons (dVar 0) (dCons (dCall oTup (dCons (dC (.int 1)) (dCons (dC (.int 2)) (dCons (dC (.int 1)) (dCons (dC (.int 3)) dNil))))) dNil))) (dCons (dCallN 2 m__law_pick (dCons (dVar 0) (dCons (dCall oTup (dCons (dC (.int 1)) (dCons (dC (.int 1)) (dCons (dC (.int 2)) dNil)))) dNil))) (dCons (dCallN 2 m__law_pick (dCons (dVar 0) (dCons (dCall oTup (dCons (dC (.int 0)) (dCons (dC (.int 1)) (dCons (dC (.int 0)) (dCons (dC (.int 2)) dNil))))) dNil))) dNil))))))
noncomputable def m__law_any_plant : Opn := dFn 1 b__law_any_plant
noncomputable def b__law_row_of : DSf := (dRet (dCall (o1 bTuple) (dCons (dLc (diRng1 (dCons (dVar 1) dNil)) (dgName 2) dYes (dCallN 1 m__law_fraction (dCons (dVar 0) dNil)) [2]) dNil)))
noncomputable def m__law_row_of : Opn := dFn 3 b__law_row_of
noncomputable def b__law_times : DSf := (dRet (dCallN 2 m__law_low (dCons (dOp oMul (dOp oIx (dVar 0) (dC (.int 0))) (dOp oIx (dVar 1) (dC (.int 0)))) (dCons (dOp oMul (dOp oIx (dVar 0) (dC (.int 1))) (dOp oIx (dVar 1) (dC (.int 1)))) dNil))))
noncomputable def m__law_times : Opn := dFn 2 b__law_times
noncomputable def b__law_dot : DSf := (dSeq (dAsg (dCall oTup (dCons (dC (.int 0)) (dCons (dC (.int 1)) dNil))) (dgName 2))
  (dSeq (dFor (diMx (dCons (dVar 0) (dCons (dVar 1) dNil))) (dgTup 2 (dgCons (dgName 3) (dgCons (dgName 4) dgNil)))
  (dAsg (dCallN 2 m__law_plus (dCons (dVar 2) (dCons (dCallN 2 m__law_times (dCons (dVar 3) (dCons (dVar 4) dNil))) dNil))) (dgName 2)))
  (dRet (dVar 2))))
noncomputable def m__law_dot : Opn := dFn 5 b__law_dot
noncomputable def b__law_moved : DSf := (dSeq (dAsg (dCall oCell dNil) (dgName 4))
  (dSeq (dFor (diRng1 (dCons (dCall (o1 bLen) (dCons (dVar 1) dNil)) dNil)) (dgName 5)
  (dSeq (dAsg (dCallN 2 m__law_plus (dCons (dCallN 2 m__law_dot (dCons (dOp oIx (dOp oIx (dVar 0) (dC (.int 0))) (dVar 5)) (dCons (dVar 1) dNil))) (dCons (dCallN 2 m__law_times (dCons (dOp oIx (dOp oIx (dVar 0) (dC (.int 1))) (dVar 5)) (dCons (dCall oTup (dCons (dVar 2) (dCons (dC (.int 1)) dNil))) dNil))) dNil))) (dgName 6))
  (dDrop (dMeth mAppend (dVar 4) (dCons (dCallN 2 m__law_plus (dCons (dVar 6) (dCons (dCallN 2 m__law_plus (dCons (dOp oIx (dOp oIx (dVar 0) (dC (.int 2))) (dVar 5)) (dCons (dOp oIx (dVar 3) (dVar 5)) dNil))) dNil))) dNil)))))
  (dRet (dCall (o1 bTuple) (dCons (dVar 4) dNil)))))
noncomputable def m__law_moved : Opn := dFn 7 b__law_moved
noncomputable def b__law_same (m__law_same : Nat → Opn) (n : Nat) : DSf := (dSeq (dIfS (dB (dUn (oIsi .tup) (dVar 1)))
  (dRet (dAnd (dUn (oIsi .tup) (dVar 0)) (dAnd (dOp oEq (dCall (o1 bLen) (dCons (dVar 0) dNil)) (dCall (o1 bLen) (dCons (dVar 1) dNil))) (dCall (o1 bAll) (dCons (dLc (diMx (dCons (dVar 0) (dCons (dVar 1) dNil))) (dgTup 2 (dgCons (dgName 2) (dgCons (dgName 3) dgNil))) dYes (dCallN 2 (m__law_same n) (dCons (dVar 2) (dCons (dVar 3) dNil))) [2, 3]) dNil))))) dNext)
  (dSeq (dIfS (dB (dOp oIs (dVar 1) (dC .non)))
  (dRet (dOp oIs (dVar 0) (dC .non))) dNext)
  (dSeq (dIfS (dB (dUn (oIsi .bool) (dVar 1)))
  (dRet (dAnd (dUn (oIsi .bool) (dVar 0)) (dOp oEq (dVar 0) (dVar 1)))) dNext)
  (dSeq (dIfS (dB (dUn (oIsi .str) (dVar 1)))
  (dRet (dAnd (dUn (oIsi .str) (dVar 0)) (dOp oEq (dVar 0) (dVar 1)))) dNext)
  (dRet (dAnd (dUn (oIsi .int) (dVar 0)) (dAnd (dNot (dUn (oIsi .bool) (dVar 0))) (dOp oEq (dVar 0) (dVar 1)))))))))
noncomputable def m__law_same : Nat → Opn
  | 0 => fun _ _ => .bad
  | n + 1 => dFn 4 (b__law_same (fun _ => m__law_same n) n)
noncomputable def b_is_whole : DSf := (dRet (dAnd (dUn (oIsi .int) (dVar 0)) (dNot (dUn (oIsi .bool) (dVar 0)))))
noncomputable def m_is_whole : Opn := dFn 1 b_is_whole
noncomputable def b_is_whole_from : DSf := (dRet (dAnd (dCallN 1 m_is_whole (dCons (dVar 0) dNil)) (dChain oLe oLe (dVar 1) (dVar 0) (dVar 2))))
noncomputable def m_is_whole_from : Opn := dFn 3 b_is_whole_from
noncomputable def b_is_tuple_of : DSf := (dRet (dAnd (dUn (oIsi .tup) (dVar 0)) (dChain oLe oLe (dVar 1) (dCall (o1 bLen) (dCons (dVar 0) dNil)) (dVar 2))))
noncomputable def m_is_tuple_of : Opn := dFn 3 b_is_tuple_of
noncomputable def b_is_drive : DSf := (dSeq (dIfS (dtOr (dtNot (dB (dCallN 3 m_is_tuple_of (dCons (dVar 0) (dCons (dC (.int 5)) (dCons (dC (.int 5)) dNil)))))) (dtNot (dB (dAllG (diSeq (dVar 0)) (dgName 6) (dCallN 1 m_is_whole (dCons (dVar 6) dNil)) [6]))))
  (dRet (dC (.bl false))) dNext)
  (dSeq (dAsg (dVar 0) (dgTup 5 (dgCons (dgName 1) (dgCons (dgName 2) (dgCons (dgName 3) (dgCons (dgName 4) (dgCons (dgName 5) dgNil)))))))
  (dRet (dAnd (dChain oLe oLe (dVar 1) (dVar 3) (dVar 2)) (dAnd (dChain oLe oLe (dC (.int 0)) (dVar 4) (dC (.int 3))) (dChain oLe oLe (dC (.int 0)) (dVar 5) (dC (.int 1))))))))
noncomputable def m_is_drive : Opn := dFn 7 b_is_drive
noncomputable def b_is_fraction : DSf := (dSeq (dIfS (dtOr (dtNot (dB (dCallN 3 m_is_tuple_of (dCons (dVar 0) (dCons (dC (.int 2)) (dCons (dC (.int 2)) dNil)))))) (dtOr (dtNot (dB (dCallN 1 m_is_whole (dCons (dOp oIx (dVar 0) (dC (.int 0))) dNil)))) (dtNot (dB (dCallN 1 m_is_whole (dCons (dOp oIx (dVar 0) (dC (.int 1))) dNil))))))
  (dRet (dC (.bl false))) dNext)
  (dRet (dAnd (dOp oGt (dOp oIx (dVar 0) (dC (.int 1))) (dC (.int 0))) (dOp oEq (dCall (o2 bGcd) (dCons (dOp oIx (dVar 0) (dC (.int 0))) (dCons (dOp oIx (dVar 0) (dC (.int 1))) dNil))) (dC (.int 1))))))
noncomputable def m_is_fraction : Opn := dFn 1 b_is_fraction
noncomputable def b_is_row_of : DSf := (dSeq (dIfS (dtOr (dtNot (dB (dUn (oIsi .tup) (dVar 1)))) (dB (dOp oNe (dCall (o1 bLen) (dCons (dVar 1) dNil)) (dVar 0))))
  (dRet (dC (.bl false))) dNext)
  (dRet (dAllG (diSeq (dVar 1)) (dgName 2) (dCallN 1 m_is_fraction (dCons (dVar 2) dNil)) [2])))
noncomputable def m_is_row_of : Opn := dFn 3 b_is_row_of
noncomputable def b_is_mode : DSf := (dSeq (dIfS (dtOr (dtNot (dB (dCallN 3 m_is_tuple_of (dCons (dVar 1) (dCons (dC (.int 3)) (dCons (dC (.int 3)) dNil)))))) (dtNot (dB (dCallN 3 m_is_tuple_of (dCons (dOp oIx (dVar 1) (dC (.int 0))) (dCons (dVar 0) (dCons (dVar 0) dNil)))))))
  (dRet (dC (.bl false))) dNext)
  (dRet (dAllG (diSeq (dOp oAdd (dOp oIx (dVar 1) (dC (.int 0))) (dSl (dVar 1) (dO1 (dC (.int 1))) dO0))) (dgName 2) (dCallN 2 m_is_row_of (dCons (dVar 0) (dCons (dVar 2) dNil))) [2])))
noncomputable def m_is_mode : Opn := dFn 3 b_is_mode
noncomputable def b_is_up_to : DSf := (dRet (dOp oLe (dOp oMul (dOp oIx (dVar 0) (dC (.int 0))) (dOp oIx (dVar 1) (dC (.int 1)))) (dOp oMul (dOp oIx (dVar 1) (dC (.int 0))) (dOp oIx (dVar 0) (dC (.int 1))))))
noncomputable def m_is_up_to : Opn := dFn 2 b_is_up_to
noncomputable def b_is_span : DSf := (dRet (dAnd (dCallN 2 m_is_row_of (dCons (dC (.int 2)) (dCons (dVar 0) dNil))) (dCallN 2 m_is_up_to (dCons (dOp oIx (dVar 0) (dC (.int 0))) (dCons (dOp oIx (dVar 0) (dC (.int 1))) dNil)))))
noncomputable def m_is_span : Opn := dFn 1 b_is_span
noncomputable def b_fraction : DSf := (dSeq (dAsg (dCall (o2 bGcd) (dCons (dVar 0) (dCons (dVar 1) dNil))) (dgName 2))
  (dRet (dCall oTup (dCons (dOp oDiv (dVar 0) (dVar 2)) (dCons (dOp oDiv (dVar 1) (dVar 2)) dNil)))))
noncomputable def m_fraction : Opn := dFn 3 b_fraction
noncomputable def b_total : DSf := (dRet (dCallN 2 m_fraction (dCons (dOp oAdd (dOp oMul (dOp oIx (dVar 0) (dC (.int 0))) (dOp oIx (dVar 1) (dC (.int 1)))) (dOp oMul (dOp oIx (dVar 1) (dC (.int 0))) (dOp oIx (dVar 0) (dC (.int 1))))) (dCons (dOp oMul (dOp oIx (dVar 0) (dC (.int 1))) (dOp oIx (dVar 1) (dC (.int 1)))) dNil))))
noncomputable def m_total : Opn := dFn 2 b_total
noncomputable def b_is_sensor : DSf := (dSeq (dIfS (dtOr (dtNot (dB (dCallN 3 m_is_tuple_of (dCons (dVar 1) (dCons (dC (.int 4)) (dCons (dC (.int 4)) dNil)))))) (dtOr (dtNot (dB (dCallN 2 m_is_row_of (dCons (dVar 0) (dCons (dOp oIx (dVar 1) (dC (.int 0))) dNil))))) (dtNot (dB (dCallN 2 m_is_row_of (dCons (dC (.int 2)) (dCons (dSl (dVar 1) (dO1 (dC (.int 1))) (dO1 (dC (.int 3)))) dNil)))))))
  (dRet (dC (.bl false))) dNext)
  (dRet (dAnd (dCallN 2 m_is_up_to (dCons (dCallN 2 m_total (dCons (dOp oIx (dVar 1) (dC (.int 1))) (dCons (dCall oTup (dCons (dC (.int 1)) (dCons (dC (.int 1)) dNil))) dNil))) (dCons (dOp oIx (dVar 1) (dC (.int 2))) dNil))) (dCallN 1 m_is_whole (dCons (dOp oIx (dVar 1) (dC (.int 3))) dNil)))))
noncomputable def m_is_sensor : Opn := dFn 2 b_is_sensor
noncomputable def b_is_wish : DSf := (dRet (dAnd (dCallN 3 m_is_tuple_of (dCons (dVar 1) (dCons (dC (.int 2)) (dCons (dC (.int 2)) dNil)))) (dAnd (dCallN 2 m_is_row_of (dCons (dVar 0) (dCons (dOp oIx (dVar 1) (dC (.int 0))) dNil))) (dCallN 1 m_is_fraction (dCons (dOp oIx (dVar 1) (dC (.int 1))) dNil)))))
noncomputable def m_is_wish : Opn := dFn 2 b_is_wish
noncomputable def b_is_right_plant : DSf := (dSeq (dIfS (dtOr (dtNot (dB (dCallN 3 m_is_tuple_of (dCons (dVar 0) (dCons (dC (.int 7)) (dCons (dC (.int 7)) dNil)))))) (dtNot (dB (dCallN 3 m_is_tuple_of (dCons (dOp oIx (dVar 0) (dC (.int 1))) (dCons (dC (.int 1)) (dCons (dC (.int 3)) dNil)))))))
  (dRet (dC (.bl false))) dNext)
  (dSeq (dAsg (dVar 0) (dgTup 7 (dgCons (dgName 2) (dgCons (dgName 3) (dgCons (dgName 4) (dgCons (dgName 5) (dgCons (dgName 6) (dgCons (dgName 7) (dgCons (dgName 8) dgNil)))))))))
  (dSeq (dAsg (dCall (o1 bLen) (dCons (dVar 3) dNil)) (dgName 1))
  (dSeq (dIfS (dtOr (dtNot (dB (dCallN 3 m_is_tuple_of (dCons (dVar 2) (dCons (dC (.int 1)) (dCons (dC (.int 3)) dNil)))))) (dtOr (dtNot (dB (dCallN 3 m_is_tuple_of (dCons (dVar 4) (dCons (dVar 1) (dCons (dVar 1) dNil)))))) (dtNot (dB (dCallN 3 m_is_tuple_of (dCons (dVar 5) (dCons (dC (.int 1)) (dCons (dC (.int 2)) dNil))))))))
  (dRet (dC (.bl false))) dNext)
  (dRet (dAnd (dAllG (diSeq (dVar 2)) (dgName 9) (dCallN 2 m_is_mode (dCons (dVar 1) (dCons (dVar 9) dNil))) [9]) (dAnd (dAllG (diSeq (dOp oAdd (dVar 3) (dVar 4))) (dgName 10) (dCallN 1 m_is_span (dCons (dVar 10) dNil)) [10]) (dAnd (dAllG (diSeq (dVar 5)) (dgName 11) (dCallN 2 m_is_sensor (dCons (dVar 1) (dCons (dVar 11) dNil))) [11]) (dAnd (dCallN 3 m_is_whole_from (dCons (dVar 6) (dCons (dC (.int 0)) (dCons (dC (.int 2)) dNil)))) (dAnd (dCallN 1 m_is_drive (dCons (dVar 7) dNil)) (dAnd (dCallN 3 m_is_tuple_of (dCons (dVar 8) (dCons (dC (.int 1)) (dCons (dC (.int 6)) dNil)))) (dAllG (diSeq (dVar 8)) (dgName 12) (dCallN 2 m_is_wish (dCons (dVar 1) (dCons (dVar 12) dNil))) [12]))))))))))))
noncomputable def m_is_right_plant : Opn := dFn 13 b_is_right_plant
noncomputable def b_check_plant : DSf := (dIfS (dtNot (dB (dCallN 1 m_is_right_plant (dCons (dVar 0) dNil))))
  dBadS dNext)
noncomputable def m_check_plant : Opn := dFn 1 b_check_plant
noncomputable def b_check_row : DSf := (dSeq (dIfS (dtOr (dtNot (dB (dUn (oIsi .tup) (dVar 1)))) (dB (dOp oNe (dCall (o1 bLen) (dCons (dVar 1) dNil)) (dVar 0))))
  dBadS dNext)
  (dFor (diEnum (dCons (dVar 1) dNil)) (dgTup 2 (dgCons (dgName 2) (dgCons (dgName 3) dgNil)))
  (dIfS (dtNot (dB (dCallN 1 m_is_fraction (dCons (dVar 3) dNil))))
  dBadS dNext)))
noncomputable def m_check_row : Opn := dFn 4 b_check_row
noncomputable def b_product_of : DSf := (dSeq (dAsg (dCall oTup (dCons (dC (.int 0)) (dCons (dC (.int 1)) dNil))) (dgTup 2 (dgCons (dgName 2) (dgCons (dgName 3) dgNil))))
  (dSeq (dFor (diMx (dCons (dVar 0) (dCons (dVar 1) dNil))) (dgTup 2 (dgCons (dgTup 2 (dgCons (dgName 4) (dgCons (dgName 5) dgNil))) (dgCons (dgTup 2 (dgCons (dgName 6) (dgCons (dgName 7) dgNil))) dgNil)))
  (dIfS (dtAnd (dB (dOp oNe (dVar 4) (dC (.int 0)))) (dB (dOp oNe (dVar 6) (dC (.int 0)))))
  (dSeq (dAsg (dOp oMul (dVar 5) (dVar 7)) (dgName 8))
  (dPar 2 3 (dCons (dOp oAdd (dOp oMul (dVar 2) (dVar 8)) (dOp oMul (dOp oMul (dVar 4) (dVar 6)) (dVar 3))) (dCons (dOp oMul (dVar 3) (dVar 8)) dNil)))) dNext))
  (dRet (dCallN 2 m_fraction (dCons (dVar 2) (dCons (dVar 3) dNil))))))
noncomputable def m_product_of : Opn := dFn 9 b_product_of
noncomputable def b_moved_on : DSf := (dSeq (dAsg (dCall oCell dNil) (dgName 4))
  (dSeq (dFor (diT4 (dCons (dOp oIx (dVar 0) (dC (.int 0))) (dCons (dOp oIx (dVar 0) (dC (.int 1))) (dCons (dOp oIx (dVar 0) (dC (.int 2))) (dCons (dVar 3) dNil))))) (dgTup 4 (dgCons (dgName 5) (dgCons (dgName 6) (dgCons (dgName 7) (dgCons (dgName 8) dgNil)))))
  (dDrop (dMeth mAppend (dVar 4) (dCons (dCallN 2 m_total (dCons (dCallN 2 m_product_of (dCons (dOp oAdd (dVar 5) (dCall oTup (dCons (dVar 6) dNil))) (dCons (dOp oAdd (dVar 1) (dCall oTup (dCons (dCall oTup (dCons (dVar 2) (dCons (dC (.int 1)) dNil))) dNil))) dNil))) (dCons (dCallN 2 m_total (dCons (dVar 7) (dCons (dVar 8) dNil))) dNil))) dNil))))
  (dRet (dCall (o1 bTuple) (dCons (dVar 4) dNil)))))
noncomputable def m_moved_on : Opn := dFn 9 b_moved_on
noncomputable def b_is_index : DSf := (dRet (dAnd (dCallN 1 m_is_whole (dCons (dVar 0) dNil)) (dChain oLe oLt (dC (.int 0)) (dVar 0) (dVar 1))))
noncomputable def m_is_index : Opn := dFn 2 b_is_index
noncomputable def b_moved : DSf := (dSeq (dDrop (dCallN 1 m_check_plant (dCons (dVar 0) dNil)))
  (dSeq (dIfS (dtNot (dB (dCallN 2 m_is_index (dCons (dVar 1) (dCons (dCall (o1 bLen) (dCons (dOp oIx (dVar 0) (dC (.int 0))) dNil)) dNil)))))
  dBadS dNext)
  (dSeq (dDrop (dCallN 2 m_check_row (dCons (dCall (o1 bLen) (dCons (dOp oIx (dVar 0) (dC (.int 1))) dNil)) (dCons (dVar 2) dNil))))
  (dSeq (dIfS (dtNot (dB (dCallN 1 m_is_whole (dCons (dVar 3) dNil))))
  dBadS dNext)
  (dSeq (dDrop (dCallN 2 m_check_row (dCons (dCall (o1 bLen) (dCons (dOp oIx (dVar 0) (dC (.int 1))) dNil)) (dCons (dVar 4) dNil))))
  (dRet (dCallN 4 m_moved_on (dCons (dOp oIx (dOp oIx (dVar 0) (dC (.int 0))) (dVar 1)) (dCons (dVar 2) (dCons (dVar 3) (dCons (dVar 4) dNil)))))))))))
noncomputable def m_moved : Opn := dFn 5 b_moved
noncomputable def b__law_up_to : DSf := (dRet (dOp oLe (dOp oMul (dOp oIx (dVar 0) (dC (.int 0))) (dOp oIx (dVar 1) (dC (.int 1)))) (dOp oMul (dOp oIx (dVar 1) (dC (.int 0))) (dOp oIx (dVar 0) (dC (.int 1))))))
noncomputable def m__law_up_to : Opn := dFn 2 b__law_up_to
noncomputable def b_check_plant_row : DSf := (dSeq (dDrop (dCallN 1 m_check_plant (dCons (dVar 0) dNil)))
  (dDrop (dCallN 2 m_check_row (dCons (dCall (o1 bLen) (dCons (dOp oIx (dVar 0) (dC (.int 1))) dNil)) (dCons (dVar 1) dNil)))))
noncomputable def m_check_plant_row : Opn := dFn 2 b_check_plant_row
noncomputable def b_is_safe_at : DSf := (dRet (dAllG (diSeq (dOp oIx (dVar 0) (dC (.int 6)))) (dgTup 2 (dgCons (dgName 2) (dgCons (dgName 3) dgNil))) (dCallN 2 m_is_up_to (dCons (dCallN 2 m_product_of (dCons (dVar 2) (dCons (dVar 1) dNil))) (dCons (dVar 3) dNil))) [2, 3]))
noncomputable def m_is_safe_at : Opn := dFn 4 b_is_safe_at
noncomputable def b_is_safe_row : DSf := (dSeq (dDrop (dCallN 2 m_check_plant_row (dCons (dVar 0) (dCons (dVar 1) dNil))))
  (dRet (dCallN 2 m_is_safe_at (dCons (dVar 0) (dCons (dVar 1) dNil)))))
noncomputable def m_is_safe_row : Opn := dFn 2 b_is_safe_row
noncomputable def b_readings_at : DSf := (dSeq (dAsg (dCall oCell dNil) (dgName 2))
  (dSeq (dFor (diSeq (dOp oIx (dVar 0) (dC (.int 3)))) (dgTup 4 (dgCons (dgName 3) (dgCons (dgName 4) (dgCons (dgName 5) (dgCons (dgName 6) dgNil)))))
  (dSeq (dAsg (dCallN 2 m_product_of (dCons (dVar 3) (dCons (dVar 1) dNil))) (dgName 7))
  (dSeq (dPar 8 9 (dCons (dCallN 2 m_total (dCons (dVar 7) (dCons (dVar 4) dNil))) (dCons (dCallN 2 m_total (dCons (dVar 7) (dCons (dVar 5) dNil))) dNil)))
  (dDrop (dMeth mAppend (dVar 2) (dCons (dCall oTup (dCons (dUn oNeg (dOp oDiv (dUn oNeg (dOp oIx (dVar 8) (dC (.int 0)))) (dOp oIx (dVar 8) (dC (.int 1))))) (dCons (dOp oDiv (dOp oIx (dVar 9) (dC (.int 0))) (dOp oIx (dVar 9) (dC (.int 1)))) dNil))) dNil))))))
  (dRet (dCall (o1 bTuple) (dCons (dVar 2) dNil)))))
noncomputable def m_readings_at : Opn := dFn 10 b_readings_at
noncomputable def b_readings_of : DSf := (dSeq (dDrop (dCallN 2 m_check_plant_row (dCons (dVar 0) (dCons (dVar 1) dNil))))
  (dRet (dCallN 2 m_readings_at (dCons (dVar 0) (dCons (dVar 1) dNil)))))
noncomputable def m_readings_of : Opn := dFn 2 b_readings_of
noncomputable def b__law_readings : DSf := (dSeq (dAsg (dCall oCell dNil) (dgName 2))
  (dSeq (dFor (diSeq (dOp oIx (dVar 0) (dC (.int 3)))) (dgName 3)
  (dSeq (dAsg (dCallN 2 m__law_plus (dCons (dCallN 2 m__law_dot (dCons (dOp oIx (dVar 3) (dC (.int 0))) (dCons (dVar 1) dNil))) (dCons (dOp oIx (dVar 3) (dC (.int 1))) dNil))) (dgName 4))
  (dSeq (dAsg (dCallN 2 m__law_plus (dCons (dCallN 2 m__law_dot (dCons (dOp oIx (dVar 3) (dC (.int 0))) (dCons (dVar 1) dNil))) (dCons (dOp oIx (dVar 3) (dC (.int 2))) dNil))) (dgName 5))
  (dDrop (dMeth mAppend (dVar 2) (dCons (dCall oTup (dCons (dUn oNeg (dOp oDiv (dUn oNeg (dOp oIx (dVar 4) (dC (.int 0)))) (dOp oIx (dVar 4) (dC (.int 1))))) (dCons (dOp oDiv (dOp oIx (dVar 5) (dC (.int 0))) (dOp oIx (dVar 5) (dC (.int 1)))) dNil))) dNil))))))
  (dRet (dCall (o1 bTuple) (dCons (dVar 2) dNil)))))
noncomputable def m__law_readings : Opn := dFn 6 b__law_readings
noncomputable def b_driven_by : DSf := (dSeq (dAsg (dSl (dOp oIx (dVar 0) (dC (.int 5))) dO0 (dO1 (dC (.int 2)))) (dgTup 2 (dgCons (dgName 2) (dgCons (dgName 3) dgNil))))
  (dRet (dCall (o2 bMin2) (dCons (dCall (o2 bMax2) (dCons (dVar 1) (dCons (dVar 2) dNil))) (dCons (dVar 3) dNil)))))
noncomputable def m_driven_by : Opn := dFn 4 b_driven_by
noncomputable def b_within_drive : DSf := (dSeq (dDrop (dCallN 1 m_check_plant (dCons (dVar 0) dNil)))
  (dSeq (dIfS (dtNot (dB (dCallN 1 m_is_whole (dCons (dVar 1) dNil))))
  dBadS dNext)
  (dRet (dCallN 2 m_driven_by (dCons (dVar 0) (dCons (dVar 1) dNil))))))
noncomputable def m_within_drive : Opn := dFn 2 b_within_drive
noncomputable def b__law_right : DSf := (dSeq (dAsg (dCallN 1 m__law_any_plant (dCons (dVar 0) dNil)) (dgName 1))
  (dSeq (dAsg (dCall (o1 bLen) (dCons (dOp oIx (dVar 1) (dC (.int 2))) dNil)) (dgName 2))
  (dSeq (dFor (diRng1 (dCons (dC (.int 4)) dNil)) (dgName 3)
  (dSeq (dAsg (dCall oTup (dCons (dCallN 2 m__law_row_of (dCons (dVar 0) (dCons (dVar 2) dNil))) (dCons (dCallN 2 m__law_row_of (dCons (dVar 0) (dCons (dVar 2) dNil))) (dCons (dOp oSub (dCallN 2 m__law_draw (dCons (dVar 0) (dCons (dC (.int 23)) dNil))) (dC (.int 11))) dNil)))) (dgTup 3 (dgCons (dgName 6) (dgCons (dgName 7) (dgCons (dgName 8) dgNil)))))
  (dSeq (dIfS (dB (dOp oEq (dVar 3) (dC (.int 3))))
  (dAsg (dOp oSub (dCallN 2 m__law_draw (dCons (dVar 0) (dCons (dC (.int 2000001)) dNil))) (dC (.int 1000000))) (dgName 8)) dNext)
  (dSeq (dFor (diRng1 (dCons (dCall (o1 bLen) (dCons (dOp oIx (dVar 1) (dC (.int 0))) dNil)) dNil)) (dgName 4)
  (dSeq (dAsg (dCallN 4 m__law_moved (dCons (dOp oIx (dOp oIx (dVar 1) (dC (.int 0))) (dVar 4)) (dCons (dVar 6) (dCons (dVar 8) (dCons (dVar 7) dNil))))) (dgName 9))
  (dSeq (dAsg (dCall oTup (dCons (dCallN 5 m_moved (dCons (dVar 1) (dCons (dVar 4) (dCons (dVar 6) (dCons (dVar 8) (dCons (dVar 7) dNil)))))) (dCons (dCallN 5 m_moved (dCons (dVar 1) (dCons (dVar 4) (dCons (dVar 6) (dCons (dVar 8) (dCons (dVar 7) dNil)))))) dNil))) (dgName 10))
  (dIfS (dtNot (dB (dCallN 2 (m__law_same 16) (dCons (dVar 10) (dCons (dCall oTup (dCons (dVar 9) (dCons (dVar 9) dNil))) dNil)))))
  (dRet (dC (.bl false))) dNext))))
  (dSeq (dAsg (dCall (o1 bAll) (dCons (dLc (diSeq (dOp oIx (dVar 1) (dC (.int 6)))) (dgTup 2 (dgCons (dgName 11) (dgCons (dgName 12) dgNil))) dYes (dCallN 2 m__law_up_to (dCons (dCallN 2 m__law_dot (dCons (dVar 11) (dCons (dVar 6) dNil))) (dCons (dVar 12) dNil))) [11, 12]) dNil)) (dgName 5))
  (dSeq (dIfS (dtNot (dB (dCallN 2 (m__law_same 16) (dCons (dCallN 2 m_is_safe_row (dCons (dVar 1) (dCons (dVar 6) dNil))) (dCons (dVar 5) dNil)))))
  (dRet (dC (.bl false))) dNext)
  (dSeq (dIfS (dtNot (dB (dCallN 2 (m__law_same 16) (dCons (dCallN 2 m_readings_of (dCons (dVar 1) (dCons (dVar 6) dNil))) (dCons (dCallN 2 m__law_readings (dCons (dVar 1) (dCons (dVar 6) dNil))) dNil)))))
  (dRet (dC (.bl false))) dNext)
  (dIfS (dtNot (dB (dCallN 2 (m__law_same 16) (dCons (dCallN 2 m_within_drive (dCons (dVar 1) (dCons (dVar 8) dNil))) (dCons (dCall (o2 bMax2) (dCons (dOp oIx (dOp oIx (dVar 1) (dC (.int 5))) (dC (.int 0))) (dCons (dCall (o2 bMin2) (dCons (dOp oIx (dOp oIx (dVar 1) (dC (.int 5))) (dC (.int 1))) (dCons (dVar 8) dNil))) dNil))) dNil)))))
  (dRet (dC (.bl false))) dNext))))))))
  (dRet (dC (.bl true))))))
noncomputable def m__law_right : Opn := dFn 13 b__law_right
noncomputable def b__law_well : DSf := (dSeq (dAsg (dOp oAdd (dC (.int 520981)) (dOp oMul (dC (.int 8111)) (dVar 1))) (dgName 2))
  (dSeq (dFor (diSeq (dSl (dVar 0) dO0 (dO1 (dC (.int 8))))) (dgName 3)
  (dAsg (dOp oMod (dCall (o1 bInt) (dCons (dOp oAdd (dOp oAdd (dOp oMul (dVar 2) (dC (.int 40487))) (dOp oMod (dCall (o1 bInt) (dCons (dVar 3) dNil)) (dC (.int 2147483543)))) (dC (.int 7))) dNil)) (dC (.int 2147483497))) (dgName 2)))
  (dSeq (dAsg (dIf (dB (dOp oLt (dVar 1) (dCall (o1 bLen) (dCons (dVar 0) dNil)))) (dCall (o1 bInt) (dCons (dOp oIx (dVar 0) (dVar 1)) dNil)) (dC (.int 0))) (dgName 4))
  (dSeq (dAsg (dOp oMod (dCall (o1 bInt) (dCons (dOp oAdd (dOp oAdd (dOp oMul (dVar 2) (dC (.int 53))) (dOp oMul (dOp oMod (dCall (o1 bInt) (dCons (dVar 4) dNil)) (dC (.int 2147483543))) (dC (.int 30011)))) (dC (.int 5))) dNil)) (dC (.int 2147483497))) (dgName 2))
  (dRet (dCall oCell (dCons (dIf (dtOr (dB (dOp oLt (dVar 4) (dC (.int 0)))) (dB (dOp oGe (dVar 4) (dOp oPow (dC (.int 10)) (dC (.int 14)))))) (dCall (o1 bAbs) (dCons (dVar 4) dNil)) (dC (.int 0))) (dCons (dVar 2) (dCons (dC (.int 0)) dNil)))))))))
noncomputable def m__law_well : Opn := dFn 5 b__law_well
noncomputable def b_law : DSf := (dRet (dCall (o1 bAll) (dCons (dLc (diRng1 (dCons (dCall (o2 bMax2) (dCons (dC (.int 1)) (dCons (dCall (o2 bMin2) (dCons (dCall (o1 bLen) (dCons (dVar 0) dNil)) (dCons (dC (.int 2)) dNil))) dNil))) dNil)) (dgName 1) dYes (dCallN 1 m__law_right (dCons (dCallN 2 m__law_well (dCons (dVar 0) (dCons (dVar 1) dNil))) dNil)) [1]) dNil)))
noncomputable def m_law : Opn := dFn 2 b_law
section
variable {P : Program} {w : World} {K : PySem.W.Frag} {mg : Str → Option Value} {base : Heap}
theorem S__law_draw : FnScope ["_law_well_here", "_law_many", "_law_seed", "_law_figure"] ["_law_well_here", "_law_many"] (defScope s__law_draw) := ⟨rfl, rfl, rfl, by decide +kernel, rfl, by decide +kernel, by decide +kernel⟩
theorem fn__law_draw (G : Gf K mg base) : ∃ fd, FunD K "_law_draw" "_law_draw" (defArgs s__law_draw) (defBody s__law_draw) (defScope s__law_draw) [] [] (He.fAd K ("_law_draw", none)) fd ∧ FnG P w K mg base 1 (He.fAd K ("_law_draw", none)) fd ["_law_well_here", "_law_many"] (spD (WK K) 2 m__law_draw) := by
  obtain ⟨fd, F⟩ := G.f__law_draw
  have S := S__law_draw
  have h := fn_D (P := P) (w := w) (mg := mg) (base := base) (W := WK K) (k := 0) (f := b__law_draw) F S
  have h2 : FnG P w K mg base 1 (He.fAd K ("_law_draw", none)) fd ["_law_well_here", "_law_many"] (spD (WK K) 2 m__law_draw) := by
    refine h ?_
    intro A outer s H E hr hG
    exact (dss_cons (ds_if (dt_cmp op_gt dop_gt (de_ix rfl (dv 0) de_int (fun _ _ => rfl)) de_int (nomark _))
  (dss_cons (ds_asg (de_callB call_divmod dc_divmod rfl G.b_divmod boot_divmod' (da_cons (de_ix rfl (dv 0) de_int (fun _ _ => rfl)) (da_cons (dv 1) da_nil))) (dg_tup (n := 2) rfl rfl (dgs_cons (dg_sub (dv 0) de_int) (dgs_cons (dgn 3 S.nd) dgs_nil))))
  (dss_one (ds_ret (dv 3)))) dss_nil)
  (dss_cons (ds_asg (de_add rfl (de_ix rfl (dv 0) de_int (fun _ _ => rfl)) de_int) (dg_sub (dv 0) de_int))
  (dss_cons (dset 2 S.nd (de_mod (de_callTy call_int1 dc_int rfl G.b_int boot_int' (da_cons (de_add rfl (de_ix rfl (dv 0) de_int (fun _ _ => rfl)) (de_mul rfl de_int (de_ix rfl (dv 0) de_int (fun _ _ => rfl)))) da_nil)) de_int))
  (dss_cons (ds_asg (de_mod (de_callTy call_int1 dc_int rfl G.b_int boot_int' (da_cons (de_add rfl (de_mul rfl (dv 2) (de_add rfl (de_mod (de_callTy call_int1 dc_int rfl G.b_int boot_int' (da_cons (dv 2) da_nil)) de_int) de_int)) (de_mul rfl de_int (de_ix rfl (dv 0) de_int (fun _ _ => rfl)))) da_nil)) de_int) (dg_sub (dv 0) de_int))
  (dss_one (ds_ret (de_mod (de_callTy call_int1 dc_int rfl G.b_int boot_int' (da_cons (de_div (de_ix rfl (dv 0) de_int (fun _ _ => rfl)) de_int) da_nil)) (dv 1))))))))
  exact ⟨fd, F, h2⟩
theorem ok__law_draw (G : Gf K mg base) : Callee P w K mg base (WK K) 1 "_law_draw" 2 m__law_draw := by
  obtain ⟨fd, F, h⟩ := fn__law_draw (P := P) (w := w) G
  exact callee_of (ps := ["_law_well_here", "_law_many"]) F h G.g__law_draw fun _ _ _ _ _ _ us hl => match us, hl with | [_, _], _ => rfl
theorem S__law_pick : FnScope ["_law_well_here", "_law_some"] ["_law_well_here", "_law_some"] (defScope s__law_pick) := ⟨rfl, rfl, rfl, by decide +kernel, rfl, by decide +kernel, by decide +kernel⟩
theorem fn__law_pick (G : Gf K mg base) : ∃ fd, FunD K "_law_pick" "_law_pick" (defArgs s__law_pick) (defBody s__law_pick) (defScope s__law_pick) [] [] (He.fAd K ("_law_pick", none)) fd ∧ FnG P w K mg base 2 (He.fAd K ("_law_pick", none)) fd ["_law_well_here", "_law_some"] (spD (WK K) 2 m__law_pick) := by
  have C__law_draw := ok__law_draw (P := P) (w := w) G
  obtain ⟨fd, F⟩ := G.f__law_pick
  have S := S__law_pick
  have h := fn_D (P := P) (w := w) (mg := mg) (base := base) (W := WK K) (k := 1) (f := b__law_pick) F S
  have h2 : FnG P w K mg base 2 (He.fAd K ("_law_pick", none)) fd ["_law_well_here", "_law_some"] (spD (WK K) 2 m__law_pick) := by
    refine h ?_
    intro A outer s H E hr hG
    exact (dss_one (ds_ret (de_ix rfl (dv 1) (de_call (C__law_draw.mono (by decide)) hr hG rfl (da_cons (dv 0) (da_cons (de_callB call_len dc_len rfl G.b_len boot_len' (da_cons (dv 1) da_nil)) da_nil))) (fun _ _ => rfl))))
  exact ⟨fd, F, h2⟩
theorem ok__law_pick (G : Gf K mg base) : Callee P w K mg base (WK K) 2 "_law_pick" 2 m__law_pick := by
  obtain ⟨fd, F, h⟩ := fn__law_pick (P := P) (w := w) G
  exact callee_of (ps := ["_law_well_here", "_law_some"]) F h G.g__law_pick fun _ _ _ _ _ _ us hl => match us, hl with | [_, _], _ => rfl
theorem S__law_low : FnScope ["_law_n", "_law_m", "_law_turn", "_law_one", "_law_two"] ["_law_n", "_law_m"] (defScope s__law_low) := ⟨rfl, rfl, rfl, by decide +kernel, rfl, by decide +kernel, by decide +kernel⟩
theorem fn__law_low (G : Gf K mg base) : ∃ fd, FunD K "_law_low" "_law_low" (defArgs s__law_low) (defBody s__law_low) (defScope s__law_low) [] [] (He.fAd K ("_law_low", none)) fd ∧ FnG P w K mg base 1 (He.fAd K ("_law_low", none)) fd ["_law_n", "_law_m"] (spD (WK K) 2 m__law_low) := by
  obtain ⟨fd, F⟩ := G.f__law_low
  have S := S__law_low
  have h := fn_D (P := P) (w := w) (mg := mg) (base := base) (W := WK K) (k := 0) (f := b__law_low) F S
  have h2 : FnG P w K mg base 1 (He.fAd K ("_law_low", none)) fd ["_law_n", "_law_m"] (spD (WK K) 2 m__law_low) := by
    refine h ?_
    intro A outer s H E hr hG
    exact (dss_cons (ds_par (i := 3) (j := 4) rfl S.nd rfl rfl (by decide) rfl rfl (da_cons (de_callB call_abs dc_abs rfl G.b_abs boot_abs' (da_cons (dv 0) da_nil)) (da_cons (dv 1) da_nil)) rfl)
  (dss_cons (ds_for .never rfl (di_rng1 rfl G.b_range (da_cons de_int da_nil)) (dgn 2 S.nd)
  (dss_cons (ds_if (dt_cmp (op_eqA hr.units) dop_eq (dv 4) de_int (nomark _))
  (dss_one ds_break) dss_nil)
  (dss_one (ds_par (i := 3) (j := 4) rfl S.nd rfl rfl (by decide) rfl rfl (da_cons (dv 4) (da_cons (de_mod (de_callTy call_int1 dc_int rfl G.b_int boot_int' (da_cons (dv 3) da_nil)) (dv 4)) da_nil)) rfl))))
  (dss_one (ds_ret (de_tup (da_cons (de_div (dv 0) (dv 3)) (da_cons (de_div (dv 1) (dv 3)) da_nil)))))))
  exact ⟨fd, F, h2⟩
theorem ok__law_low (G : Gf K mg base) : Callee P w K mg base (WK K) 1 "_law_low" 2 m__law_low := by
  obtain ⟨fd, F, h⟩ := fn__law_low (P := P) (w := w) G
  exact callee_of (ps := ["_law_n", "_law_m"]) F h G.g__law_low fun _ _ _ _ _ _ us hl => match us, hl with | [_, _], _ => rfl
theorem S__law_plus : FnScope ["_law_one", "_law_two"] ["_law_one", "_law_two"] (defScope s__law_plus) := ⟨rfl, rfl, rfl, by decide +kernel, rfl, by decide +kernel, by decide +kernel⟩
theorem fn__law_plus (G : Gf K mg base) : ∃ fd, FunD K "_law_plus" "_law_plus" (defArgs s__law_plus) (defBody s__law_plus) (defScope s__law_plus) [] [] (He.fAd K ("_law_plus", none)) fd ∧ FnG P w K mg base 2 (He.fAd K ("_law_plus", none)) fd ["_law_one", "_law_two"] (spD (WK K) 2 m__law_plus) := by
  have C__law_low := ok__law_low (P := P) (w := w) G
  obtain ⟨fd, F⟩ := G.f__law_plus
  have S := S__law_plus
  have h := fn_D (P := P) (w := w) (mg := mg) (base := base) (W := WK K) (k := 1) (f := b__law_plus) F S
  have h2 : FnG P w K mg base 2 (He.fAd K ("_law_plus", none)) fd ["_law_one", "_law_two"] (spD (WK K) 2 m__law_plus) := by
    refine h ?_
    intro A outer s H E hr hG
    exact (dss_one (ds_ret (de_call (C__law_low.mono (by decide)) hr hG rfl (da_cons (de_add rfl (de_mul rfl (de_ix rfl (dv 0) de_int (fun _ _ => rfl)) (de_ix rfl (dv 1) de_int (fun _ _ => rfl))) (de_mul rfl (de_ix rfl (dv 1) de_int (fun _ _ => rfl)) (de_ix rfl (dv 0) de_int (fun _ _ => rfl)))) (da_cons (de_mul rfl (de_ix rfl (dv 0) de_int (fun _ _ => rfl)) (de_ix rfl (dv 1) de_int (fun _ _ => rfl))) da_nil)))))
  exact ⟨fd, F, h2⟩
theorem ok__law_plus (G : Gf K mg base) : Callee P w K mg base (WK K) 2 "_law_plus" 2 m__law_plus := by
  obtain ⟨fd, F, h⟩ := fn__law_plus (P := P) (w := w) G
  exact callee_of (ps := ["_law_one", "_law_two"]) F h G.g__law_plus fun _ _ _ _ _ _ us hl => match us, hl with | [_, _], _ => rfl
theorem S__law_pairs : FnScope ["_law_well_here", "_law_size", "_law_width", "_law_found", "_law_turn", "_law_low_here"] ["_law_well_here", "_law_size", "_law_width"] (defScope s__law_pairs) := ⟨rfl, rfl, rfl, by decide +kernel, rfl, by decide +kernel, by decide +kernel⟩
theorem fn__law_pairs (G : Gf K mg base) : ∃ fd, FunD K "_law_pairs" "_law_pairs" (defArgs s__law_pairs) (defBody s__law_pairs) (defScope s__law_pairs) [] [] (He.fAd K ("_law_pairs", none)) fd ∧ FnG P w K mg base 3 (He.fAd K ("_law_pairs", none)) fd ["_law_well_here", "_law_size", "_law_width"] (spD (WK K) 3 m__law_pairs) := by
  have C__law_draw := ok__law_draw (P := P) (w := w) G
  have C__law_low := ok__law_low (P := P) (w := w) G
  have C__law_plus := ok__law_plus (P := P) (w := w) G
  obtain ⟨fd, F⟩ := G.f__law_pairs
  have S := S__law_pairs
  have h := fn_D (P := P) (w := w) (mg := mg) (base := base) (W := WK K) (k := 2) (f := b__law_pairs) F S
  have h2 : FnG P w K mg base 3 (He.fAd K ("_law_pairs", none)) fd ["_law_well_here", "_law_size", "_law_width"] (spD (WK K) 3 m__law_pairs) := by
    refine h ?_
    intro A outer s H E hr hG
    exact (dss_cons (dset 3 S.nd (de_cell da_nil))
  (dss_cons (ds_for .never rfl (di_rng1 rfl G.b_range (da_cons (dv 1) da_nil)) (dgn 4 S.nd)
  (dss_cons (dset 5 S.nd (de_call (C__law_low.mono (by decide)) hr hG rfl (da_cons (de_sub (de_call (C__law_draw.mono (by decide)) hr hG rfl (da_cons (dv 0) (da_cons de_int da_nil))) de_int) (da_cons (de_ix rfl (de_tup (da_cons de_int (da_cons de_int (da_cons de_int da_nil)))) (de_call (C__law_draw.mono (by decide)) hr hG rfl (da_cons (dv 0) (da_cons de_int da_nil))) (fun _ _ => rfl)) da_nil))))
  (dss_one (ds_expr (de_meth rfl PySem.F.slot_list_append PySem.F.type_list_append mt_append dm_append (dv 3) (da_cons (de_tup (da_cons (dv 5) (da_cons (de_call (C__law_plus.mono (by decide)) hr hG rfl (da_cons (dv 5) (da_cons (de_call (C__law_low.mono (by decide)) hr hG rfl (da_cons (de_call (C__law_draw.mono (by decide)) hr hG rfl (da_cons (dv 0) (da_cons (dv 2) da_nil))) (da_cons (de_ix rfl (de_tup (da_cons de_int (da_cons de_int (da_cons de_int da_nil)))) (de_call (C__law_draw.mono (by decide)) hr hG rfl (da_cons (dv 0) (da_cons de_int da_nil))) (fun _ _ => rfl)) da_nil))) da_nil))) da_nil))) da_nil))))))
  (dss_one (ds_ret (de_callTy call_tuple_of dc_tuple rfl G.b_tuple boot_tuple' (da_cons (dv 3) da_nil))))))
  exact ⟨fd, F, h2⟩
theorem ok__law_pairs (G : Gf K mg base) : Callee P w K mg base (WK K) 3 "_law_pairs" 3 m__law_pairs := by
  obtain ⟨fd, F, h⟩ := fn__law_pairs (P := P) (w := w) G
  exact callee_of (ps := ["_law_well_here", "_law_size", "_law_width"]) F h G.g__law_pairs fun _ _ _ _ _ _ us hl => match us, hl with | [_, _, _], _ => rfl
theorem S__law_drive : FnScope ["_law_well_here", "_law_least", "_law_most", "_law_rest"] ["_law_well_here"] (defScope s__law_drive) := ⟨rfl, rfl, rfl, by decide +kernel, rfl, by decide +kernel, by decide +kernel⟩
theorem fn__law_drive (G : Gf K mg base) : ∃ fd, FunD K "_law_drive" "_law_drive" (defArgs s__law_drive) (defBody s__law_drive) (defScope s__law_drive) [] [] (He.fAd K ("_law_drive", none)) fd ∧ FnG P w K mg base 3 (He.fAd K ("_law_drive", none)) fd ["_law_well_here"] (spD (WK K) 1 m__law_drive) := by
  have C__law_draw := ok__law_draw (P := P) (w := w) G
  have C__law_pick := ok__law_pick (P := P) (w := w) G
  obtain ⟨fd, F⟩ := G.f__law_drive
  have S := S__law_drive
  have h := fn_D (P := P) (w := w) (mg := mg) (base := base) (W := WK K) (k := 2) (f := b__law_drive) F S
  have h2 : FnG P w K mg base 3 (He.fAd K ("_law_drive", none)) fd ["_law_well_here"] (spD (WK K) 1 m__law_drive) := by
    refine h ?_
    intro A outer s H E hr hG
    exact (dss_cons (dset 1 S.nd (de_call (C__law_pick.mono (by decide)) hr hG rfl (da_cons (dv 0) (da_cons (de_tup (da_cons de_int (da_cons (de_neg de_int) (da_cons (de_neg de_int) (da_cons de_int (da_cons (de_neg de_int) da_nil)))))) da_nil))))
  (dss_cons (dset 2 S.nd (de_add rfl (dv 1) (de_call (C__law_pick.mono (by decide)) hr hG rfl (da_cons (dv 0) (da_cons (de_tup (da_cons de_int (da_cons de_int (da_cons de_int (da_cons de_int (da_cons de_int da_nil)))))) da_nil)))))
  (dss_cons (dset 3 S.nd (de_add rfl (dv 1) (de_call (C__law_draw.mono (by decide)) hr hG rfl (da_cons (dv 0) (da_cons (de_add rfl (de_sub (dv 2) (dv 1)) de_int) da_nil)))))
  (dss_one (ds_ret (de_tup (da_cons (dv 1) (da_cons (dv 2) (da_cons (dv 3) (da_cons (de_call (C__law_pick.mono (by decide)) hr hG rfl (da_cons (dv 0) (da_cons (de_tup (da_cons de_int (da_cons de_int (da_cons de_int (da_cons de_int (da_cons de_int (da_cons de_int da_nil))))))) da_nil))) (da_cons (de_call (C__law_draw.mono (by decide)) hr hG rfl (da_cons (dv 0) (da_cons de_int da_nil))) da_nil)))))))))))
  exact ⟨fd, F, h2⟩
theorem ok__law_drive (G : Gf K mg base) : Callee P w K mg base (WK K) 3 "_law_drive" 1 m__law_drive := by
  obtain ⟨fd, F, h⟩ := fn__law_drive (P := P) (w := w) G
  exact callee_of (ps := ["_law_well_here"]) F h G.g__law_drive fun _ _ _ _ _ _ us hl => match us, hl with | [_], _ => rfl
theorem S__law_fraction : FnScope ["_law_well_here", "_law_branch"] ["_law_well_here"] (defScope s__law_fraction) := ⟨rfl, rfl, rfl, by decide +kernel, rfl, by decide +kernel, by decide +kernel⟩
theorem fn__law_fraction (G : Gf K mg base) : ∃ fd, FunD K "_law_fraction" "_law_fraction" (defArgs s__law_fraction) (defBody s__law_fraction) (defScope s__law_fraction) [] [] (He.fAd K ("_law_fraction", none)) fd ∧ FnG P w K mg base 2 (He.fAd K ("_law_fraction", none)) fd ["_law_well_here"] (spD (WK K) 1 m__law_fraction) := by
  have C__law_draw := ok__law_draw (P := P) (w := w) G
  have C__law_low := ok__law_low (P := P) (w := w) G
  obtain ⟨fd, F⟩ := G.f__law_fraction
  have S := S__law_fraction
  have h := fn_D (P := P) (w := w) (mg := mg) (base := base) (W := WK K) (k := 1) (f := b__law_fraction) F S
  have h2 : FnG P w K mg base 2 (He.fAd K ("_law_fraction", none)) fd ["_law_well_here"] (spD (WK K) 1 m__law_fraction) := by
    refine h ?_
    intro A outer s H E hr hG
    exact (dss_cons (dset 1 S.nd (de_call (C__law_draw.mono (by decide)) hr hG rfl (da_cons (dv 0) (da_cons de_int da_nil))))
  (dss_cons (ds_if (dt_cmp (op_eqA hr.units) dop_eq (dv 1) de_int (nomark _))
  (dss_one (ds_ret (de_call (C__law_low.mono (by decide)) hr hG rfl (da_cons (de_sub (de_call (C__law_draw.mono (by decide)) hr hG rfl (da_cons (dv 0) (da_cons de_int da_nil))) de_int) (da_cons (de_add rfl de_int (de_call (C__law_draw.mono (by decide)) hr hG rfl (da_cons (dv 0) (da_cons de_int da_nil)))) da_nil))))) dss_nil)
  (dss_cons (ds_if (dt_cmp op_gt dop_gt (dv 1) de_int (nomark _))
  (dss_one (ds_ret (de_call (C__law_low.mono (by decide)) hr hG rfl (da_cons (de_sub (de_call (C__law_draw.mono (by decide)) hr hG rfl (da_cons (dv 0) (da_cons de_int da_nil))) de_int) (da_cons de_int da_nil))))) dss_nil)
  (dss_one (ds_ret (de_call (C__law_low.mono (by decide)) hr hG rfl (da_cons (de_sub (de_call (C__law_draw.mono (by decide)) hr hG rfl (da_cons (dv 0) (da_cons de_int da_nil))) de_int) (da_cons (de_ix rfl (de_tup (da_cons de_int (da_cons de_int (da_cons de_int (da_cons de_int da_nil))))) (de_div (dv 1) de_int) (fun _ _ => rfl)) da_nil))))))))
  exact ⟨fd, F, h2⟩
theorem ok__law_fraction (G : Gf K mg base) : Callee P w K mg base (WK K) 2 "_law_fraction" 1 m__law_fraction := by
  obtain ⟨fd, F, h⟩ := fn__law_fraction (P := P) (w := w) G
  exact callee_of (ps := ["_law_well_here"]) F h G.g__law_fraction fun _ _ _ _ _ _ us hl => match us, hl with | [_], _ => rfl
theorem S__law_mode : FnScope ["_law_well_here", "_law_size", "_law_at", "_law_drive_here", "_law_some", "_law_rows", "_law_row", "_law_each"] ["_law_well_here", "_law_size"] (defScope s__law_mode) := ⟨rfl, rfl, rfl, by decide +kernel, rfl, by decide +kernel, by decide +kernel⟩
theorem fn__law_mode (G : Gf K mg base) : ∃ fd, FunD K "_law_mode" "_law_mode" (defArgs s__law_mode) (defBody s__law_mode) (defScope s__law_mode) [] [] (He.fAd K ("_law_mode", none)) fd ∧ FnG P w K mg base 3 (He.fAd K ("_law_mode", none)) fd ["_law_well_here", "_law_size"] (spD (WK K) 2 m__law_mode) := by
  have C__law_fraction := ok__law_fraction (P := P) (w := w) G
  have C__law_pick := ok__law_pick (P := P) (w := w) G
  obtain ⟨fd, F⟩ := G.f__law_mode
  have S := S__law_mode
  have h := fn_D (P := P) (w := w) (mg := mg) (base := base) (W := WK K) (k := 2) (f := b__law_mode) F S
  have h2 : FnG P w K mg base 3 (He.fAd K ("_law_mode", none)) fd ["_law_well_here", "_law_size"] (spD (WK K) 2 m__law_mode) := by
    refine h ?_
    intro A outer s H E hr hG
    exact (dss_cons (ds_pair (i := 4) (j := 5) rfl rfl S.nd rfl rfl (da_cons (de_tup (da_cons (de_tup (da_cons de_int (da_cons de_int da_nil))) (da_cons (de_tup (da_cons de_int (da_cons de_int da_nil))) (da_cons (de_tup (da_cons de_int (da_cons de_int da_nil))) (da_cons (de_tup (da_cons (de_neg de_int) (da_cons de_int da_nil))) (da_cons (de_tup (da_cons de_int (da_cons de_int da_nil))) (da_cons (de_tup (da_cons de_int (da_cons de_int da_nil))) (da_cons (de_tup (da_cons de_int (da_cons de_int da_nil))) (da_cons (de_tup (da_cons (de_neg de_int) (da_cons de_int da_nil))) da_nil))))))))) (da_cons (de_cell da_nil) da_nil)))
  (dss_cons (ds_for .never rfl (di_rng1 rfl G.b_range (da_cons (dv 1) da_nil)) (dgn 2 S.nd)
  (dss_cons (ds_setLc (lcC_rd (own := [("_law_each", 7)])) rfl S.nd rfl rfl (sw_true rfl rfl rfl rfl) (own := [("_law_each", 7)]) (di_rng1 rfl G.b_range (da_cons (dv 1) da_nil)) (blkOk_by (by kernel_rfl)) (fun s H C cl fp => (dgwn 7 S.nd)) (fun s H C cl fp => dts_nil) (fun s H C cl fp => (de_call (C__law_pick.mono (by decide)) hr hG rfl (da_cons (dv 0) (da_cons (dv 4) da_nil)))))
  (dss_cons (ds_asg (de_call (C__law_pick.mono (by decide)) hr hG rfl (da_cons (dv 0) (da_cons (de_tup (da_cons (de_tup (da_cons de_int (da_cons de_int da_nil))) (da_cons (de_tup (da_cons de_int (da_cons de_int da_nil))) (da_cons (de_tup (da_cons de_int (da_cons de_int da_nil))) (da_cons (de_tup (da_cons de_int (da_cons de_int da_nil))) (da_cons (de_tup (da_cons de_int (da_cons de_int da_nil))) (da_cons (de_call (C__law_fraction.mono (by decide)) hr hG rfl (da_cons (dv 0) da_nil)) da_nil))))))) da_nil))) (dg_sub (dv 6) (dv 2)))
  (dss_one (ds_expr (de_meth rfl PySem.F.slot_list_append PySem.F.type_list_append mt_append dm_append (dv 5) (da_cons (de_callTy call_tuple_of dc_tuple rfl G.b_tuple boot_tuple' (da_cons (dv 6) da_nil)) da_nil)))))))
  (dss_cons (dset 3 S.nd (de_callTy call_tuple_of dc_tuple rfl G.b_tuple boot_tuple' (da_cons (de_lc rfl S.nd (own := [("_law_each", 7)]) (di_rng1 rfl G.b_range (da_cons (dv 1) da_nil)) (blkOk_by (by kernel_rfl)) (fun s H C cl fp => (dgwn 7 S.nd)) (fun s H C cl fp => dts_nil) (fun s H C cl fp => (de_call (C__law_pick.mono (by decide)) hr hG rfl (da_cons (dv 0) (da_cons (de_tup (da_cons (de_tup (da_cons de_int (da_cons de_int da_nil))) (da_cons (de_tup (da_cons de_int (da_cons de_int da_nil))) (da_cons (de_tup (da_cons de_int (da_cons de_int da_nil))) (da_cons (de_tup (da_cons (de_neg de_int) (da_cons de_int da_nil))) (da_cons (de_tup (da_cons de_int (da_cons de_int da_nil))) da_nil)))))) da_nil))))) da_nil)))
  (dss_one (ds_ret (de_tup (da_cons (de_callTy call_tuple_of dc_tuple rfl G.b_tuple boot_tuple' (da_cons (dv 5) da_nil)) (da_cons (dv 3) (da_cons (de_callTy call_tuple_of dc_tuple rfl G.b_tuple boot_tuple' (da_cons (de_lc rfl S.nd (own := [("_law_each", 7)]) (di_rng1 rfl G.b_range (da_cons (dv 1) da_nil)) (blkOk_by (by kernel_rfl)) (fun s H C cl fp => (dgwn 7 S.nd)) (fun s H C cl fp => dts_nil) (fun s H C cl fp => (de_call (C__law_pick.mono (by decide)) hr hG rfl (da_cons (dv 0) (da_cons (de_tup (da_cons (de_tup (da_cons de_int (da_cons de_int da_nil))) (da_cons (de_tup (da_cons (de_neg de_int) (da_cons de_int da_nil))) (da_cons (de_tup (da_cons de_int (da_cons de_int da_nil))) (da_cons (de_tup (da_cons (de_neg de_int) (da_cons de_int da_nil))) da_nil))))) da_nil))))) da_nil)) da_nil)))))))))
  exact ⟨fd, F, h2⟩
theorem ok__law_mode (G : Gf K mg base) : Callee P w K mg base (WK K) 3 "_law_mode" 2 m__law_mode := by
  obtain ⟨fd, F, h⟩ := fn__law_mode (P := P) (w := w) G
  exact callee_of (ps := ["_law_well_here", "_law_size"]) F h G.g__law_mode fun _ _ _ _ _ _ us hl => match us, hl with | [_, _], _ => rfl
theorem S__law_unit : FnScope ["_law_size", "_law_at", "_law_each"] ["_law_size", "_law_at"] (defScope s__law_unit) := ⟨rfl, rfl, rfl, by decide +kernel, rfl, by decide +kernel, by decide +kernel⟩
theorem fn__law_unit (G : Gf K mg base) : ∃ fd, FunD K "_law_unit" "_law_unit" (defArgs s__law_unit) (defBody s__law_unit) (defScope s__law_unit) [] [] (He.fAd K ("_law_unit", none)) fd ∧ FnG P w K mg base 1 (He.fAd K ("_law_unit", none)) fd ["_law_size", "_law_at"] (spD (WK K) 2 m__law_unit) := by
  obtain ⟨fd, F⟩ := G.f__law_unit
  have S := S__law_unit
  have h := fn_D (P := P) (w := w) (mg := mg) (base := base) (W := WK K) (k := 0) (f := b__law_unit) F S
  have h2 : FnG P w K mg base 1 (He.fAd K ("_law_unit", none)) fd ["_law_size", "_law_at"] (spD (WK K) 2 m__law_unit) := by
    refine h ?_
    intro A outer s H E hr hG
    exact (dss_one (ds_ret (de_callTy call_tuple_of dc_tuple rfl G.b_tuple boot_tuple' (da_cons (de_lc rfl S.nd (own := [("_law_each", 2)]) (di_rng1 rfl G.b_range (da_cons (dv 0) da_nil)) (blkOk_by (by kernel_rfl)) (fun s H C cl fp => (dgwn 2 S.nd)) (fun s H C cl fp => dts_nil) (fun s H C cl fp => (de_if (dt_cmp (op_eqA hr.units) dop_eq (dv 2) (dv 1) (nomark _)) (de_tup (da_cons de_int (da_cons de_int da_nil))) (de_tup (da_cons de_int (da_cons de_int da_nil)))))) da_nil))))
  exact ⟨fd, F, h2⟩
theorem ok__law_unit (G : Gf K mg base) : Callee P w K mg base (WK K) 1 "_law_unit" 2 m__law_unit := by
  obtain ⟨fd, F, h⟩ := fn__law_unit (P := P) (w := w) G
  exact callee_of (ps := ["_law_size", "_law_at"]) F h G.g__law_unit fun _ _ _ _ _ _ us hl => match us, hl with | [_, _], _ => rfl
theorem S__law_sensor : FnScope ["_law_well_here", "_law_size", "_law_row", "_law_low_here", "_law_more", "_law_each"] ["_law_well_here", "_law_size"] (defScope s__law_sensor) := ⟨rfl, rfl, rfl, by decide +kernel, rfl, by decide +kernel, by decide +kernel⟩
theorem fn__law_sensor (G : Gf K mg base) : ∃ fd, FunD K "_law_sensor" "_law_sensor" (defArgs s__law_sensor) (defBody s__law_sensor) (defScope s__law_sensor) [] [] (He.fAd K ("_law_sensor", none)) fd ∧ FnG P w K mg base 3 (He.fAd K ("_law_sensor", none)) fd ["_law_well_here", "_law_size"] (spD (WK K) 2 m__law_sensor) := by
  have C__law_draw := ok__law_draw (P := P) (w := w) G
  have C__law_pick := ok__law_pick (P := P) (w := w) G
  have C__law_plus := ok__law_plus (P := P) (w := w) G
  have C__law_unit := ok__law_unit (P := P) (w := w) G
  obtain ⟨fd, F⟩ := G.f__law_sensor
  have S := S__law_sensor
  have h := fn_D (P := P) (w := w) (mg := mg) (base := base) (W := WK K) (k := 2) (f := b__law_sensor) F S
  have h2 : FnG P w K mg base 3 (He.fAd K ("_law_sensor", none)) fd ["_law_well_here", "_law_size"] (spD (WK K) 2 m__law_sensor) := by
    refine h ?_
    intro A outer s H E hr hG
    exact (dss_cons (dset 2 S.nd (de_call (C__law_unit.mono (by decide)) hr hG rfl (da_cons (dv 1) (da_cons (de_call (C__law_draw.mono (by decide)) hr hG rfl (da_cons (dv 0) (da_cons (dv 1) da_nil))) da_nil))))
  (dss_cons (ds_if (dt_cmp (op_eqA hr.units) dop_eq (de_call (C__law_draw.mono (by decide)) hr hG rfl (da_cons (dv 0) (da_cons de_int da_nil))) de_int (nomark _))
  (dss_one (dset 2 S.nd (de_callTy call_tuple_of dc_tuple rfl G.b_tuple boot_tuple' (da_cons (de_lc rfl S.nd (own := [("_law_each", 5)]) (di_rng1 rfl G.b_range (da_cons (dv 1) da_nil)) (blkOk_by (by kernel_rfl)) (fun s H C cl fp => (dgwn 5 S.nd)) (fun s H C cl fp => dts_nil) (fun s H C cl fp => (de_call (C__law_pick.mono (by decide)) hr hG rfl (da_cons (dv 0) (da_cons (de_tup (da_cons (de_tup (da_cons de_int (da_cons de_int da_nil))) (da_cons (de_tup (da_cons de_int (da_cons de_int da_nil))) (da_cons (de_tup (da_cons (de_neg de_int) (da_cons de_int da_nil))) (da_cons (de_tup (da_cons de_int (da_cons de_int da_nil))) da_nil))))) da_nil))))) da_nil)))) dss_nil)
  (dss_cons (dset 3 S.nd (de_call (C__law_pick.mono (by decide)) hr hG rfl (da_cons (dv 0) (da_cons (de_tup (da_cons (de_tup (da_cons (de_neg de_int) (da_cons de_int da_nil))) (da_cons (de_tup (da_cons de_int (da_cons de_int da_nil))) (da_cons (de_tup (da_cons (de_neg de_int) (da_cons de_int da_nil))) (da_cons (de_tup (da_cons (de_neg de_int) (da_cons de_int da_nil))) (da_cons (de_tup (da_cons (de_neg de_int) (da_cons de_int da_nil))) (da_cons (de_tup (da_cons de_int (da_cons de_int da_nil))) da_nil))))))) da_nil))))
  (dss_cons (dset 4 S.nd (de_call (C__law_pick.mono (by decide)) hr hG rfl (da_cons (dv 0) (da_cons (de_tup (da_cons (de_tup (da_cons de_int (da_cons de_int da_nil))) (da_cons (de_tup (da_cons de_int (da_cons de_int da_nil))) (da_cons (de_tup (da_cons de_int (da_cons de_int da_nil))) (da_cons (de_tup (da_cons de_int (da_cons de_int da_nil))) (da_cons (de_tup (da_cons de_int (da_cons de_int da_nil))) (da_cons (de_tup (da_cons de_int (da_cons de_int da_nil))) da_nil))))))) da_nil))))
  (dss_one (ds_ret (de_tup (da_cons (dv 2) (da_cons (dv 3) (da_cons (de_call (C__law_plus.mono (by decide)) hr hG rfl (da_cons (dv 3) (da_cons (dv 4) da_nil))) (da_cons (de_sub (de_call (C__law_draw.mono (by decide)) hr hG rfl (da_cons (dv 0) (da_cons de_int da_nil))) de_int) da_nil)))))))))))
  exact ⟨fd, F, h2⟩
theorem ok__law_sensor (G : Gf K mg base) : Callee P w K mg base (WK K) 3 "_law_sensor" 2 m__law_sensor := by
  obtain ⟨fd, F, h⟩ := fn__law_sensor (P := P) (w := w) G
  exact callee_of (ps := ["_law_well_here", "_law_size"]) F h G.g__law_sensor fun _ _ _ _ _ _ us hl => match us, hl with | [_, _], _ => rfl
theorem S__law_plant : FnScope ["_law_well_here", "_law_size", "_law_sensors", "_law_delay", "_law_modes", "_law_seen", "_law_safe", "_law_turn", "_law_row", "_law_each"] ["_law_well_here", "_law_size", "_law_sensors", "_law_delay"] (defScope s__law_plant) := ⟨rfl, rfl, rfl, by decide +kernel, rfl, by decide +kernel, by decide +kernel⟩
theorem fn__law_plant (G : Gf K mg base) : ∃ fd, FunD K "_law_plant" "_law_plant" (defArgs s__law_plant) (defBody s__law_plant) (defScope s__law_plant) [] [] (He.fAd K ("_law_plant", none)) fd ∧ FnG P w K mg base 4 (He.fAd K ("_law_plant", none)) fd ["_law_well_here", "_law_size", "_law_sensors", "_law_delay"] (spD (WK K) 4 m__law_plant) := by
  have C__law_drive := ok__law_drive (P := P) (w := w) G
  have C__law_mode := ok__law_mode (P := P) (w := w) G
  have C__law_pairs := ok__law_pairs (P := P) (w := w) G
  have C__law_pick := ok__law_pick (P := P) (w := w) G
  have C__law_sensor := ok__law_sensor (P := P) (w := w) G
  have C__law_unit := ok__law_unit (P := P) (w := w) G
  obtain ⟨fd, F⟩ := G.f__law_plant
  have S := S__law_plant
  have h := fn_D (P := P) (w := w) (mg := mg) (base := base) (W := WK K) (k := 3) (f := b__law_plant) F S
  have h2 : FnG P w K mg base 4 (He.fAd K ("_law_plant", none)) fd ["_law_well_here", "_law_size", "_law_sensors", "_law_delay"] (spD (WK K) 4 m__law_plant) := by
    refine h ?_
    intro A outer s H E hr hG
    exact (dss_cons (dset 4 S.nd (de_callTy call_tuple_of dc_tuple rfl G.b_tuple boot_tuple' (da_cons (de_lc rfl S.nd (own := [("_law_turn", 7)]) (di_rng1 rfl G.b_range (da_cons (de_call (C__law_pick.mono (by decide)) hr hG rfl (da_cons (dv 0) (da_cons (de_tup (da_cons de_int (da_cons de_int (da_cons de_int (da_cons de_int da_nil))))) da_nil))) da_nil)) (blkOk_by (by kernel_rfl)) (fun s H C cl fp => (dgwn 7 S.nd)) (fun s H C cl fp => dts_nil) (fun s H C cl fp => (de_call (C__law_mode.mono (by decide)) hr hG rfl (da_cons (dv 0) (da_cons (dv 1) da_nil))))) da_nil)))
  (dss_cons (dset 5 S.nd (de_callTy call_tuple_of dc_tuple rfl G.b_tuple boot_tuple' (da_cons (de_lc rfl S.nd (own := [("_law_turn", 7)]) (di_rng1 rfl G.b_range (da_cons (dv 2) da_nil)) (blkOk_by (by kernel_rfl)) (fun s H C cl fp => (dgwn 7 S.nd)) (fun s H C cl fp => dts_nil) (fun s H C cl fp => (de_call (C__law_sensor.mono (by decide)) hr hG rfl (da_cons (dv 0) (da_cons (dv 1) da_nil))))) da_nil)))
  (dss_cons (dset 6 S.nd (de_cell (da_cons (de_tup (da_cons (de_call (C__law_unit.mono (by decide)) hr hG rfl (da_cons (dv 1) (da_cons de_int da_nil))) (da_cons (de_call (C__law_pick.mono (by decide)) hr hG rfl (da_cons (dv 0) (da_cons (de_tup (da_cons (de_tup (da_cons de_int (da_cons de_int da_nil))) (da_cons (de_tup (da_cons de_int (da_cons de_int da_nil))) (da_cons (de_tup (da_cons de_int (da_cons de_int da_nil))) (da_cons (de_tup (da_cons de_int (da_cons de_int da_nil))) da_nil))))) da_nil))) da_nil))) da_nil)))
  (dss_cons (ds_for .never rfl (di_rng1 rfl G.b_range (da_cons (de_call (C__law_pick.mono (by decide)) hr hG rfl (da_cons (dv 0) (da_cons (de_tup (da_cons de_int (da_cons de_int (da_cons de_int (da_cons de_int (da_cons de_int da_nil)))))) da_nil))) da_nil)) (dgn 7 S.nd)
  (dss_cons (dset 8 S.nd (de_callTy call_tuple_of dc_tuple rfl G.b_tuple boot_tuple' (da_cons (de_lc rfl S.nd (own := [("_law_each", 9)]) (di_rng1 rfl G.b_range (da_cons (dv 1) da_nil)) (blkOk_by (by kernel_rfl)) (fun s H C cl fp => (dgwn 9 S.nd)) (fun s H C cl fp => dts_nil) (fun s H C cl fp => (de_call (C__law_pick.mono (by decide)) hr hG rfl (da_cons (dv 0) (da_cons (de_tup (da_cons (de_tup (da_cons (de_neg de_int) (da_cons de_int da_nil))) (da_cons (de_tup (da_cons de_int (da_cons de_int da_nil))) (da_cons (de_tup (da_cons de_int (da_cons de_int da_nil))) (da_cons (de_tup (da_cons (de_neg de_int) (da_cons de_int da_nil))) da_nil))))) da_nil))))) da_nil)))
  (dss_one (ds_expr (de_meth rfl PySem.F.slot_list_append PySem.F.type_list_append mt_append dm_append (dv 6) (da_cons (de_tup (da_cons (dv 8) (da_cons (de_call (C__law_pick.mono (by decide)) hr hG rfl (da_cons (dv 0) (da_cons (de_tup (da_cons (de_tup (da_cons de_int (da_cons de_int da_nil))) (da_cons (de_tup (da_cons de_int (da_cons de_int da_nil))) (da_cons (de_tup (da_cons de_int (da_cons de_int da_nil))) (da_cons (de_tup (da_cons de_int (da_cons de_int da_nil))) da_nil))))) da_nil))) da_nil))) da_nil))))))
  (dss_one (ds_ret (de_tup (da_cons (dv 4) (da_cons (de_call (C__law_pairs.mono (by decide)) hr hG rfl (da_cons (dv 0) (da_cons (dv 1) (da_cons de_int da_nil)))) (da_cons (de_call (C__law_pairs.mono (by decide)) hr hG rfl (da_cons (dv 0) (da_cons (dv 1) (da_cons de_int da_nil)))) (da_cons (dv 5) (da_cons (dv 3) (da_cons (de_call (C__law_drive.mono (by decide)) hr hG rfl (da_cons (dv 0) da_nil)) (da_cons (de_callTy call_tuple_of dc_tuple rfl G.b_tuple boot_tuple' (da_cons (dv 6) da_nil)) da_nil))))))))))))))
  exact ⟨fd, F, h2⟩
theorem ok__law_plant (G : Gf K mg base) : Callee P w K mg base (WK K) 4 "_law_plant" 4 m__law_plant := by
  obtain ⟨fd, F, h⟩ := fn__law_plant (P := P) (w := w) G
  exact callee_of (ps := ["_law_well_here", "_law_size", "_law_sensors", "_law_delay"]) F h G.g__law_plant fun _ _ _ _ _ _ us hl => match us, hl with | [_, _, _, _], _ => rfl
theorem S__law_any_plant : FnScope ["_law_well_here"] ["_law_well_here"] (defScope s__law_any_plant) := ⟨rfl, rfl, rfl, by decide +kernel, rfl, by decide +kernel, by decide +kernel⟩
theorem fn__law_any_plant (G : Gf K mg base) : ∃ fd, FunD K "_law_any_plant" "_law_any_plant" (defArgs s__law_any_plant) (defBody s__law_any_plant) (defScope s__law_any_plant) [] [] (He.fAd K ("_law_any_plant", none)) fd ∧ FnG P w K mg base 5 (He.fAd K ("_law_any_plant", none)) fd ["_law_well_here"] (spD (WK K) 1 m__law_any_plant) := by
  have C__law_pick := ok__law_pick (P := P) (w := w) G
  have C__law_plant := ok__law_plant (P := P) (w := w) G
  obtain ⟨fd, F⟩ := G.f__law_any_plant
  have S := S__law_any_plant
  have h := fn_D (P := P) (w := w) (mg := mg) (base := base) (W := WK K) (k := 4) (f := b__law_any_plant) F S
  have h2 : FnG P w K mg base 5 (He.fAd K ("_law_any_plant", none)) fd ["_law_well_here"] (spD (WK K) 1 m__law_any_plant) := by
    refine h ?_
    intro A outer s H E hr hG
    exact (dss_one (ds_ret (de_call (C__law_plant.mono (by decide)) hr hG rfl (da_cons (dv 0) (da_cons (de_call (C__law_pick.mono (by decide)) hr hG rfl (da_cons (dv 0) (da_cons (de_tup (da_cons de_int (da_cons de_int (da_cons de_int (da_cons de_int da_nil))))) da_nil))) (da_cons (de_call (C__law_pick.mono (by decide)) hr hG rfl (da_cons (dv 0) (da_cons (de_tup (da_cons de_int (da_cons de_int (da_cons de_int da_nil)))) da_nil))) (da_cons (de_call (C__law_pick.mono (by decide)) hr hG rfl (da_cons (dv 0) (da_cons (de_tup (da_cons de_int (da_cons de_int (da_cons de_int (da_cons de_int da_nil))))) da_nil))) da_nil)))))))
  exact ⟨fd, F, h2⟩
theorem ok__law_any_plant (G : Gf K mg base) : Callee P w K mg base (WK K) 5 "_law_any_plant" 1 m__law_any_plant := by
  obtain ⟨fd, F, h⟩ := fn__law_any_plant (P := P) (w := w) G
  exact callee_of (ps := ["_law_well_here"]) F h G.g__law_any_plant fun _ _ _ _ _ _ us hl => match us, hl with | [_], _ => rfl
theorem S__law_row_of : FnScope ["_law_well_here", "_law_size", "_law_each"] ["_law_well_here", "_law_size"] (defScope s__law_row_of) := ⟨rfl, rfl, rfl, by decide +kernel, rfl, by decide +kernel, by decide +kernel⟩
theorem fn__law_row_of (G : Gf K mg base) : ∃ fd, FunD K "_law_row_of" "_law_row_of" (defArgs s__law_row_of) (defBody s__law_row_of) (defScope s__law_row_of) [] [] (He.fAd K ("_law_row_of", none)) fd ∧ FnG P w K mg base 3 (He.fAd K ("_law_row_of", none)) fd ["_law_well_here", "_law_size"] (spD (WK K) 2 m__law_row_of) := by
  have C__law_fraction := ok__law_fraction (P := P) (w := w) G
  obtain ⟨fd, F⟩ := G.f__law_row_of
  have S := S__law_row_of
  have h := fn_D (P := P) (w := w) (mg := mg) (base := base) (W := WK K) (k := 2) (f := b__law_row_of) F S
  have h2 : FnG P w K mg base 3 (He.fAd K ("_law_row_of", none)) fd ["_law_well_here", "_law_size"] (spD (WK K) 2 m__law_row_of) := by
    refine h ?_
    intro A outer s H E hr hG
    exact (dss_one (ds_ret (de_callTy call_tuple_of dc_tuple rfl G.b_tuple boot_tuple' (da_cons (de_lc rfl S.nd (own := [("_law_each", 2)]) (di_rng1 rfl G.b_range (da_cons (dv 1) da_nil)) (blkOk_by (by kernel_rfl)) (fun s H C cl fp => (dgwn 2 S.nd)) (fun s H C cl fp => dts_nil) (fun s H C cl fp => (de_call (C__law_fraction.mono (by decide)) hr hG rfl (da_cons (dv 0) da_nil)))) da_nil))))
  exact ⟨fd, F, h2⟩
theorem ok__law_row_of (G : Gf K mg base) : Callee P w K mg base (WK K) 3 "_law_row_of" 2 m__law_row_of := by
  obtain ⟨fd, F, h⟩ := fn__law_row_of (P := P) (w := w) G
  exact callee_of (ps := ["_law_well_here", "_law_size"]) F h G.g__law_row_of fun _ _ _ _ _ _ us hl => match us, hl with | [_, _], _ => rfl
theorem S__law_times : FnScope ["_law_one", "_law_two"] ["_law_one", "_law_two"] (defScope s__law_times) := ⟨rfl, rfl, rfl, by decide +kernel, rfl, by decide +kernel, by decide +kernel⟩
theorem fn__law_times (G : Gf K mg base) : ∃ fd, FunD K "_law_times" "_law_times" (defArgs s__law_times) (defBody s__law_times) (defScope s__law_times) [] [] (He.fAd K ("_law_times", none)) fd ∧ FnG P w K mg base 2 (He.fAd K ("_law_times", none)) fd ["_law_one", "_law_two"] (spD (WK K) 2 m__law_times) := by
  have C__law_low := ok__law_low (P := P) (w := w) G
  obtain ⟨fd, F⟩ := G.f__law_times
  have S := S__law_times
  have h := fn_D (P := P) (w := w) (mg := mg) (base := base) (W := WK K) (k := 1) (f := b__law_times) F S
  have h2 : FnG P w K mg base 2 (He.fAd K ("_law_times", none)) fd ["_law_one", "_law_two"] (spD (WK K) 2 m__law_times) := by
    refine h ?_
    intro A outer s H E hr hG
    exact (dss_one (ds_ret (de_call (C__law_low.mono (by decide)) hr hG rfl (da_cons (de_mul rfl (de_ix rfl (dv 0) de_int (fun _ _ => rfl)) (de_ix rfl (dv 1) de_int (fun _ _ => rfl))) (da_cons (de_mul rfl (de_ix rfl (dv 0) de_int (fun _ _ => rfl)) (de_ix rfl (dv 1) de_int (fun _ _ => rfl))) da_nil)))))
  exact ⟨fd, F, h2⟩
theorem ok__law_times (G : Gf K mg base) : Callee P w K mg base (WK K) 2 "_law_times" 2 m__law_times := by
  obtain ⟨fd, F, h⟩ := fn__law_times (P := P) (w := w) G
  exact callee_of (ps := ["_law_one", "_law_two"]) F h G.g__law_times fun _ _ _ _ _ _ us hl => match us, hl with | [_, _], _ => rfl
theorem S__law_dot : FnScope ["_law_row", "_law_other", "_law_found", "_law_one", "_law_two"] ["_law_row", "_law_other"] (defScope s__law_dot) := ⟨rfl, rfl, rfl, by decide +kernel, rfl, by decide +kernel, by decide +kernel⟩
theorem fn__law_dot (G : Gf K mg base) : ∃ fd, FunD K "_law_dot" "_law_dot" (defArgs s__law_dot) (defBody s__law_dot) (defScope s__law_dot) [] [] (He.fAd K ("_law_dot", none)) fd ∧ FnG P w K mg base 3 (He.fAd K ("_law_dot", none)) fd ["_law_row", "_law_other"] (spD (WK K) 2 m__law_dot) := by
  have C__law_plus := ok__law_plus (P := P) (w := w) G
  have C__law_times := ok__law_times (P := P) (w := w) G
  obtain ⟨fd, F⟩ := G.f__law_dot
  have S := S__law_dot
  have h := fn_D (P := P) (w := w) (mg := mg) (base := base) (W := WK K) (k := 2) (f := b__law_dot) F S
  have h2 : FnG P w K mg base 3 (He.fAd K ("_law_dot", none)) fd ["_law_row", "_law_other"] (spD (WK K) 2 m__law_dot) := by
    refine h ?_
    intro A outer s H E hr hG
    exact (dss_cons (dset 2 S.nd (de_tup (da_cons de_int (da_cons de_int da_nil))))
  (dss_cons (ds_for .never rfl (di_mx rfl rfl G.b_zip (da_cons (dv 0) (da_cons (dv 1) da_nil))) (dg_tup (n := 2) rfl rfl (dgs_cons (dgn 3 S.nd) (dgs_cons (dgn 4 S.nd) dgs_nil)))
  (dss_one (dset 2 S.nd (de_call (C__law_plus.mono (by decide)) hr hG rfl (da_cons (dv 2) (da_cons (de_call (C__law_times.mono (by decide)) hr hG rfl (da_cons (dv 3) (da_cons (dv 4) da_nil))) da_nil))))))
  (dss_one (ds_ret (dv 2)))))
  exact ⟨fd, F, h2⟩
theorem ok__law_dot (G : Gf K mg base) : Callee P w K mg base (WK K) 3 "_law_dot" 2 m__law_dot := by
  obtain ⟨fd, F, h⟩ := fn__law_dot (P := P) (w := w) G
  exact callee_of (ps := ["_law_row", "_law_other"]) F h G.g__law_dot fun _ _ _ _ _ _ us hl => match us, hl with | [_, _], _ => rfl
theorem S__law_moved : FnScope ["_law_mode_here", "_law_row", "_law_drive_here", "_law_noise", "_law_found", "_law_at", "_law_here"] ["_law_mode_here", "_law_row", "_law_drive_here", "_law_noise"] (defScope s__law_moved) := ⟨rfl, rfl, rfl, by decide +kernel, rfl, by decide +kernel, by decide +kernel⟩
theorem fn__law_moved (G : Gf K mg base) : ∃ fd, FunD K "_law_moved" "_law_moved" (defArgs s__law_moved) (defBody s__law_moved) (defScope s__law_moved) [] [] (He.fAd K ("_law_moved", none)) fd ∧ FnG P w K mg base 4 (He.fAd K ("_law_moved", none)) fd ["_law_mode_here", "_law_row", "_law_drive_here", "_law_noise"] (spD (WK K) 4 m__law_moved) := by
  have C__law_dot := ok__law_dot (P := P) (w := w) G
  have C__law_plus := ok__law_plus (P := P) (w := w) G
  have C__law_times := ok__law_times (P := P) (w := w) G
  obtain ⟨fd, F⟩ := G.f__law_moved
  have S := S__law_moved
  have h := fn_D (P := P) (w := w) (mg := mg) (base := base) (W := WK K) (k := 3) (f := b__law_moved) F S
  have h2 : FnG P w K mg base 4 (He.fAd K ("_law_moved", none)) fd ["_law_mode_here", "_law_row", "_law_drive_here", "_law_noise"] (spD (WK K) 4 m__law_moved) := by
    refine h ?_
    intro A outer s H E hr hG
    exact (dss_cons (dset 4 S.nd (de_cell da_nil))
  (dss_cons (ds_for .never rfl (di_rng1 rfl G.b_range (da_cons (de_callB call_len dc_len rfl G.b_len boot_len' (da_cons (dv 1) da_nil)) da_nil)) (dgn 5 S.nd)
  (dss_cons (dset 6 S.nd (de_call (C__law_plus.mono (by decide)) hr hG rfl (da_cons (de_call (C__law_dot.mono (by decide)) hr hG rfl (da_cons (de_ix rfl (de_ix rfl (dv 0) de_int (fun _ _ => rfl)) (dv 5) (fun _ _ => rfl)) (da_cons (dv 1) da_nil))) (da_cons (de_call (C__law_times.mono (by decide)) hr hG rfl (da_cons (de_ix rfl (de_ix rfl (dv 0) de_int (fun _ _ => rfl)) (dv 5) (fun _ _ => rfl)) (da_cons (de_tup (da_cons (dv 2) (da_cons de_int da_nil))) da_nil))) da_nil))))
  (dss_one (ds_expr (de_meth rfl PySem.F.slot_list_append PySem.F.type_list_append mt_append dm_append (dv 4) (da_cons (de_call (C__law_plus.mono (by decide)) hr hG rfl (da_cons (dv 6) (da_cons (de_call (C__law_plus.mono (by decide)) hr hG rfl (da_cons (de_ix rfl (de_ix rfl (dv 0) de_int (fun _ _ => rfl)) (dv 5) (fun _ _ => rfl)) (da_cons (de_ix rfl (dv 3) (dv 5) (fun _ _ => rfl)) da_nil))) da_nil))) da_nil))))))
  (dss_one (ds_ret (de_callTy call_tuple_of dc_tuple rfl G.b_tuple boot_tuple' (da_cons (dv 4) da_nil))))))
  exact ⟨fd, F, h2⟩
theorem ok__law_moved (G : Gf K mg base) : Callee P w K mg base (WK K) 4 "_law_moved" 4 m__law_moved := by
  obtain ⟨fd, F, h⟩ := fn__law_moved (P := P) (w := w) G
  exact callee_of (ps := ["_law_mode_here", "_law_row", "_law_drive_here", "_law_noise"]) F h G.g__law_moved fun _ _ _ _ _ _ us hl => match us, hl with | [_, _, _, _], _ => rfl
theorem S__law_same : FnScope ["_law_told", "_law_due", "_law_x", "_law_y"] ["_law_told", "_law_due"] (defScope s__law_same) := ⟨rfl, rfl, rfl, by decide +kernel, rfl, by decide +kernel, by decide +kernel⟩
theorem ok__law_same (G : Gf K mg base) : ∀ n, Callee P w K mg base (WK K) (0 + n) "_law_same" 2 (m__law_same n) := by
  obtain ⟨fd, F⟩ := G.f__law_same
  have S := S__law_same
  have bd : ∀ (kV doc pm : Value) (an : Option Addr) (cdv ct : Value) (us : List Value), us.length = (["_law_told", "_law_due"] : List Str).length → bindArgs (PySem.W.fnOf "_law_same" "_law_same" (defArgs s__law_same) (defBody s__law_same) (defScope s__law_same) .none kV doc pm an cdv ct) ⟨us, []⟩ = pure ((["_law_told", "_law_due"] : List Str).zip us) := fun _ _ _ _ _ _ us hl => match us, hl with | [_, _], _ => rfl
  intro n
  induction n with
  | zero => exact callee_of (ps := ["_law_told", "_law_due"]) F ⟨fun vs H Q E h => h.1, fun A outer s H args us vs Q E _ _ _ _ _ h => by obtain ⟨_, xs, S0, μ, _, _, z⟩ := h; exact z.elim⟩ G.g__law_same bd
  | succ n ih =>
    have h := fn_D (P := P) (w := w) (mg := mg) (base := base) (W := WK K) (k := 0 + n) (f := b__law_same (fun _ => m__law_same n) n) F S
    have h2 : FnG P w K mg base (0 + n + 1) (He.fAd K ("_law_same", none)) fd ["_law_told", "_law_due"] (spD (WK K) 2 (m__law_same (n + 1))) := by
      refine h ?_
      intro A outer s H E hr hG
      exact (dss_cons (ds_if (dt_val (de_isi .tup rfl rfl G.b_isinstance rfl G.b_tuple (dv 1)))
  (dss_one (ds_ret (de_and (de_isi .tup rfl rfl G.b_isinstance rfl G.b_tuple (dv 0)) (de_and (de_cmp (op_eqA hr.units) dop_eq (de_callB call_len dc_len rfl G.b_len boot_len' (da_cons (dv 0) da_nil)) (de_callB call_len dc_len rfl G.b_len boot_len' (da_cons (dv 1) da_nil)) (nomark _)) (de_one (de_callB (cr_all rfl) dc_all rfl G.b_all boot_all' (da_cons (de_lc rfl S.nd (own := [("_law_x", 2), ("_law_y", 3)]) (di_mx rfl rfl G.b_zip (da_cons (dv 0) (da_cons (dv 1) da_nil))) (blkOk_by (by kernel_rfl)) (fun s H C cl fp => (dgw_tup (n := 2) rfl rfl (dgsw_cons (dgwn 2 S.nd) (dgsw_cons (dgwn 3 S.nd) dgsw_nil)))) (fun s H C cl fp => dts_nil) (fun s H C cl fp => (de_call (ih.mono (by omega)) hr hG rfl (da_cons (dv 2) (da_cons (dv 3) da_nil))))) da_nil))))))) dss_nil)
  (dss_cons (ds_if (dt_cmp op_isA dop_is (dv 1) de_non (nomark _))
  (dss_one (ds_ret (de_cmp op_isA dop_is (dv 0) de_non (nomark _)))) dss_nil)
  (dss_cons (ds_if (dt_val (de_isi .bool rfl rfl G.b_isinstance rfl G.b_bool (dv 1)))
  (dss_one (ds_ret (de_and (de_isi .bool rfl rfl G.b_isinstance rfl G.b_bool (dv 0)) (de_one (de_cmp (op_eqA hr.units) dop_eq (dv 0) (dv 1) (nomark _)))))) dss_nil)
  (dss_cons (ds_if (dt_val (de_isi .str rfl rfl G.b_isinstance rfl G.b_str (dv 1)))
  (dss_one (ds_ret (de_and (de_isi .str rfl rfl G.b_isinstance rfl G.b_str (dv 0)) (de_one (de_cmp (op_eqA hr.units) dop_eq (dv 0) (dv 1) (nomark _)))))) dss_nil)
  (dss_one (ds_ret (de_and (de_isi .int rfl rfl G.b_isinstance rfl G.b_int (dv 0)) (de_and (de_not (de_isi .bool rfl rfl G.b_isinstance rfl G.b_bool (dv 0))) (de_one (de_cmp (op_eqA hr.units) dop_eq (dv 0) (dv 1) (nomark _)))))))))))
    exact callee_of (ps := ["_law_told", "_law_due"]) F h2 G.g__law_same bd
theorem S_is_whole : FnScope ["value"] ["value"] (defScope s_is_whole) := ⟨rfl, rfl, rfl, by decide +kernel, rfl, by decide +kernel, by decide +kernel⟩
theorem fn_is_whole (G : Gf K mg base) : ∃ fd, FunD K "is_whole" "is_whole" (defArgs s_is_whole) (defBody s_is_whole) (defScope s_is_whole) [] [] (He.fAd K ("is_whole", none)) fd ∧ FnG P w K mg base 1 (He.fAd K ("is_whole", none)) fd ["value"] (spD (WK K) 1 m_is_whole) := by
  obtain ⟨fd, F⟩ := G.f_is_whole
  have S := S_is_whole
  have h := fn_D (P := P) (w := w) (mg := mg) (base := base) (W := WK K) (k := 0) (f := b_is_whole) F S
  have h2 : FnG P w K mg base 1 (He.fAd K ("is_whole", none)) fd ["value"] (spD (WK K) 1 m_is_whole) := by
    refine h ?_
    intro A outer s H E hr hG
    exact (dss_one (ds_ret (de_and (de_isi .int rfl rfl G.b_isinstance rfl G.b_int (dv 0)) (de_one (de_not (de_isi .bool rfl rfl G.b_isinstance rfl G.b_bool (dv 0)))))))
  exact ⟨fd, F, h2⟩
theorem ok_is_whole (G : Gf K mg base) : Callee P w K mg base (WK K) 1 "is_whole" 1 m_is_whole := by
  obtain ⟨fd, F, h⟩ := fn_is_whole (P := P) (w := w) G
  exact callee_of (ps := ["value"]) F h G.g_is_whole fun _ _ _ _ _ _ us hl => match us, hl with | [_], _ => rfl
theorem S_is_whole_from : FnScope ["value", "low", "high"] ["value", "low", "high"] (defScope s_is_whole_from) := ⟨rfl, rfl, rfl, by decide +kernel, rfl, by decide +kernel, by decide +kernel⟩
theorem fn_is_whole_from (G : Gf K mg base) : ∃ fd, FunD K "is_whole_from" "is_whole_from" (defArgs s_is_whole_from) (defBody s_is_whole_from) (defScope s_is_whole_from) [] [] (He.fAd K ("is_whole_from", none)) fd ∧ FnG P w K mg base 2 (He.fAd K ("is_whole_from", none)) fd ["value", "low", "high"] (spD (WK K) 3 m_is_whole_from) := by
  have C_is_whole := ok_is_whole (P := P) (w := w) G
  obtain ⟨fd, F⟩ := G.f_is_whole_from
  have S := S_is_whole_from
  have h := fn_D (P := P) (w := w) (mg := mg) (base := base) (W := WK K) (k := 1) (f := b_is_whole_from) F S
  have h2 : FnG P w K mg base 2 (He.fAd K ("is_whole_from", none)) fd ["value", "low", "high"] (spD (WK K) 3 m_is_whole_from) := by
    refine h ?_
    intro A outer s H E hr hG
    exact (dss_one (ds_ret (de_and (de_call (C_is_whole.mono (by decide)) hr hG rfl (da_cons (dv 0) da_nil)) (de_one (de_chain op_le op_le dop_le dop_le (dv 1) (dv 0) (dv 2))))))
  exact ⟨fd, F, h2⟩
theorem ok_is_whole_from (G : Gf K mg base) : Callee P w K mg base (WK K) 2 "is_whole_from" 3 m_is_whole_from := by
  obtain ⟨fd, F, h⟩ := fn_is_whole_from (P := P) (w := w) G
  exact callee_of (ps := ["value", "low", "high"]) F h G.g_is_whole_from fun _ _ _ _ _ _ us hl => match us, hl with | [_, _, _], _ => rfl
theorem S_is_tuple_of : FnScope ["value", "least", "most"] ["value", "least", "most"] (defScope s_is_tuple_of) := ⟨rfl, rfl, rfl, by decide +kernel, rfl, by decide +kernel, by decide +kernel⟩
theorem fn_is_tuple_of (G : Gf K mg base) : ∃ fd, FunD K "is_tuple_of" "is_tuple_of" (defArgs s_is_tuple_of) (defBody s_is_tuple_of) (defScope s_is_tuple_of) [] [] (He.fAd K ("is_tuple_of", none)) fd ∧ FnG P w K mg base 1 (He.fAd K ("is_tuple_of", none)) fd ["value", "least", "most"] (spD (WK K) 3 m_is_tuple_of) := by
  obtain ⟨fd, F⟩ := G.f_is_tuple_of
  have S := S_is_tuple_of
  have h := fn_D (P := P) (w := w) (mg := mg) (base := base) (W := WK K) (k := 0) (f := b_is_tuple_of) F S
  have h2 : FnG P w K mg base 1 (He.fAd K ("is_tuple_of", none)) fd ["value", "least", "most"] (spD (WK K) 3 m_is_tuple_of) := by
    refine h ?_
    intro A outer s H E hr hG
    exact (dss_one (ds_ret (de_and (de_isi .tup rfl rfl G.b_isinstance rfl G.b_tuple (dv 0)) (de_one (de_chain op_le op_le dop_le dop_le (dv 1) (de_callB call_len dc_len rfl G.b_len boot_len' (da_cons (dv 0) da_nil)) (dv 2))))))
  exact ⟨fd, F, h2⟩
theorem ok_is_tuple_of (G : Gf K mg base) : Callee P w K mg base (WK K) 1 "is_tuple_of" 3 m_is_tuple_of := by
  obtain ⟨fd, F, h⟩ := fn_is_tuple_of (P := P) (w := w) G
  exact callee_of (ps := ["value", "least", "most"]) F h G.g_is_tuple_of fun _ _ _ _ _ _ us hl => match us, hl with | [_, _, _], _ => rfl
theorem S_is_drive : FnScope ["value", "least", "most", "rest", "holds", "cuts", "number"] ["value"] (defScope s_is_drive) := ⟨rfl, rfl, rfl, by decide +kernel, rfl, by decide +kernel, by decide +kernel⟩
theorem fn_is_drive (G : Gf K mg base) : ∃ fd, FunD K "is_drive" "is_drive" (defArgs s_is_drive) (defBody s_is_drive) (defScope s_is_drive) [] [] (He.fAd K ("is_drive", none)) fd ∧ FnG P w K mg base 6 (He.fAd K ("is_drive", none)) fd ["value"] (spD (WK K) 1 m_is_drive) := by
  have C_is_tuple_of := ok_is_tuple_of (P := P) (w := w) G
  have C_is_whole := ok_is_whole (P := P) (w := w) G
  obtain ⟨fd, F⟩ := G.f_is_drive
  have S := S_is_drive
  have h := fn_D (P := P) (w := w) (mg := mg) (base := base) (W := WK K) (k := 5) (f := b_is_drive) F S
  have h2 : FnG P w K mg base 6 (He.fAd K ("is_drive", none)) fd ["value"] (spD (WK K) 1 m_is_drive) := by
    refine h ?_
    intro A outer s H E hr hG
    exact (dss_cons (ds_if (dt_w (dw_or (dt_not (dt_val (de_call (C_is_tuple_of.mono (by decide)) hr hG rfl (da_cons (dv 0) (da_cons de_int (da_cons de_int da_nil)))))) (dw_or1 (dt_not (dt_val (de_allG (k := 1) (own := [("number", 6)]) (by exact hr) rfl S.nd rfl G.b_all (List.mem_map.mpr ⟨("is_drive", none), by simp [tf], rfl⟩) G.t_is_drive rfl (di_seq rfl (dv 0)) (blkOk_by (by kernel_rfl)) rfl (by decide +kernel) rfl (fun s H C cl code fp pn => (dgwn 6 S.nd)) (fun s H C cl code fp pn hr' => (de_call (C_is_whole.mono (by decide)) hr' hG rfl (da_cons (dv 6) da_nil)))))))))
  (dss_one (ds_ret de_bl)) dss_nil)
  (dss_cons (ds_asg (dv 0) (dg_tup (n := 5) rfl rfl (dgs_cons (dgn 1 S.nd) (dgs_cons (dgn 2 S.nd) (dgs_cons (dgn 3 S.nd) (dgs_cons (dgn 4 S.nd) (dgs_cons (dgn 5 S.nd) dgs_nil)))))))
  (dss_one (ds_ret (de_and (de_chain op_le op_le dop_le dop_le (dv 1) (dv 3) (dv 2)) (de_and (de_chain op_le op_le dop_le dop_le de_int (dv 4) de_int) (de_one (de_chain op_le op_le dop_le dop_le de_int (dv 5) de_int))))))))
  exact ⟨fd, F, h2⟩
theorem ok_is_drive (G : Gf K mg base) : Callee P w K mg base (WK K) 6 "is_drive" 1 m_is_drive := by
  obtain ⟨fd, F, h⟩ := fn_is_drive (P := P) (w := w) G
  exact callee_of (ps := ["value"]) F h G.g_is_drive fun _ _ _ _ _ _ us hl => match us, hl with | [_], _ => rfl
theorem S_is_fraction : FnScope ["value"] ["value"] (defScope s_is_fraction) := ⟨rfl, rfl, rfl, by decide +kernel, rfl, by decide +kernel, by decide +kernel⟩
theorem fn_is_fraction (G : Gf K mg base) : ∃ fd, FunD K "is_fraction" "is_fraction" (defArgs s_is_fraction) (defBody s_is_fraction) (defScope s_is_fraction) [] [] (He.fAd K ("is_fraction", none)) fd ∧ FnG P w K mg base 2 (He.fAd K ("is_fraction", none)) fd ["value"] (spD (WK K) 1 m_is_fraction) := by
  have C_is_tuple_of := ok_is_tuple_of (P := P) (w := w) G
  have C_is_whole := ok_is_whole (P := P) (w := w) G
  obtain ⟨fd, F⟩ := G.f_is_fraction
  have S := S_is_fraction
  have h := fn_D (P := P) (w := w) (mg := mg) (base := base) (W := WK K) (k := 1) (f := b_is_fraction) F S
  have h2 : FnG P w K mg base 2 (He.fAd K ("is_fraction", none)) fd ["value"] (spD (WK K) 1 m_is_fraction) := by
    refine h ?_
    intro A outer s H E hr hG
    exact (dss_cons (ds_if (dt_w (dw_or (dt_not (dt_val (de_call (C_is_tuple_of.mono (by decide)) hr hG rfl (da_cons (dv 0) (da_cons de_int (da_cons de_int da_nil)))))) (dw_or (dt_not (dt_val (de_call (C_is_whole.mono (by decide)) hr hG rfl (da_cons (de_ix rfl (dv 0) de_int (fun _ _ => rfl)) da_nil)))) (dw_or1 (dt_not (dt_val (de_call (C_is_whole.mono (by decide)) hr hG rfl (da_cons (de_ix rfl (dv 0) de_int (fun _ _ => rfl)) da_nil))))))))
  (dss_one (ds_ret de_bl)) dss_nil)
  (dss_one (ds_ret (de_and (de_cmp op_gt dop_gt (de_ix rfl (dv 0) de_int (fun _ _ => rfl)) de_int (nomark _)) (de_one (de_cmp (op_eqA hr.units) dop_eq (de_callBf cr_gcd dc_gcd rfl G.gcd (da_cons (de_ix rfl (dv 0) de_int (fun _ _ => rfl)) (da_cons (de_ix rfl (dv 0) de_int (fun _ _ => rfl)) da_nil))) de_int (nomark _)))))))
  exact ⟨fd, F, h2⟩
theorem ok_is_fraction (G : Gf K mg base) : Callee P w K mg base (WK K) 2 "is_fraction" 1 m_is_fraction := by
  obtain ⟨fd, F, h⟩ := fn_is_fraction (P := P) (w := w) G
  exact callee_of (ps := ["value"]) F h G.g_is_fraction fun _ _ _ _ _ _ us hl => match us, hl with | [_], _ => rfl
theorem S_is_row_of : FnScope ["size", "value", "number"] ["size", "value"] (defScope s_is_row_of) := ⟨rfl, rfl, rfl, by decide +kernel, rfl, by decide +kernel, by decide +kernel⟩
theorem fn_is_row_of (G : Gf K mg base) : ∃ fd, FunD K "is_row_of" "is_row_of" (defArgs s_is_row_of) (defBody s_is_row_of) (defScope s_is_row_of) [] [] (He.fAd K ("is_row_of", none)) fd ∧ FnG P w K mg base 7 (He.fAd K ("is_row_of", none)) fd ["size", "value"] (spD (WK K) 2 m_is_row_of) := by
  have C_is_fraction := ok_is_fraction (P := P) (w := w) G
  obtain ⟨fd, F⟩ := G.f_is_row_of
  have S := S_is_row_of
  have h := fn_D (P := P) (w := w) (mg := mg) (base := base) (W := WK K) (k := 6) (f := b_is_row_of) F S
  have h2 : FnG P w K mg base 7 (He.fAd K ("is_row_of", none)) fd ["size", "value"] (spD (WK K) 2 m_is_row_of) := by
    refine h ?_
    intro A outer s H E hr hG
    exact (dss_cons (ds_if (dt_w (dw_or (dt_not (dt_val (de_isi .tup rfl rfl G.b_isinstance rfl G.b_tuple (dv 1)))) (dw_or1 (dt_cmp (op_neA hr.units) dop_ne (de_callB call_len dc_len rfl G.b_len boot_len' (da_cons (dv 1) da_nil)) (dv 0) (nomark _)))))
  (dss_one (ds_ret de_bl)) dss_nil)
  (dss_one (ds_ret (de_allG (k := 2) (own := [("number", 2)]) (by exact hr) rfl S.nd rfl G.b_all (List.mem_map.mpr ⟨("is_row_of", none), by simp [tf], rfl⟩) G.t_is_row_of rfl (di_seq rfl (dv 1)) (blkOk_by (by kernel_rfl)) rfl (by decide +kernel) rfl (fun s H C cl code fp pn => (dgwn 2 S.nd)) (fun s H C cl code fp pn hr' => (de_call (C_is_fraction.mono (by decide)) hr' hG rfl (da_cons (dv 2) da_nil)))))))
  exact ⟨fd, F, h2⟩
theorem ok_is_row_of (G : Gf K mg base) : Callee P w K mg base (WK K) 7 "is_row_of" 2 m_is_row_of := by
  obtain ⟨fd, F, h⟩ := fn_is_row_of (P := P) (w := w) G
  exact callee_of (ps := ["size", "value"]) F h G.g_is_row_of fun _ _ _ _ _ _ us hl => match us, hl with | [_, _], _ => rfl
theorem S_is_mode : FnScope ["size", "value", "row"] ["size", "value"] (defScope s_is_mode) := ⟨rfl, rfl, rfl, by decide +kernel, rfl, by decide +kernel, by decide +kernel⟩
theorem fn_is_mode (G : Gf K mg base) : ∃ fd, FunD K "is_mode" "is_mode" (defArgs s_is_mode) (defBody s_is_mode) (defScope s_is_mode) [] [] (He.fAd K ("is_mode", none)) fd ∧ FnG P w K mg base 12 (He.fAd K ("is_mode", none)) fd ["size", "value"] (spD (WK K) 2 m_is_mode) := by
  have C_is_row_of := ok_is_row_of (P := P) (w := w) G
  have C_is_tuple_of := ok_is_tuple_of (P := P) (w := w) G
  obtain ⟨fd, F⟩ := G.f_is_mode
  have S := S_is_mode
  have h := fn_D (P := P) (w := w) (mg := mg) (base := base) (W := WK K) (k := 11) (f := b_is_mode) F S
  have h2 : FnG P w K mg base 12 (He.fAd K ("is_mode", none)) fd ["size", "value"] (spD (WK K) 2 m_is_mode) := by
    refine h ?_
    intro A outer s H E hr hG
    exact (dss_cons (ds_if (dt_w (dw_or (dt_not (dt_val (de_call (C_is_tuple_of.mono (by decide)) hr hG rfl (da_cons (dv 1) (da_cons de_int (da_cons de_int da_nil)))))) (dw_or1 (dt_not (dt_val (de_call (C_is_tuple_of.mono (by decide)) hr hG rfl (da_cons (de_ix rfl (dv 1) de_int (fun _ _ => rfl)) (da_cons (dv 0) (da_cons (dv 0) da_nil)))))))))
  (dss_one (ds_ret de_bl)) dss_nil)
  (dss_one (ds_ret (de_allG (k := 7) (own := [("row", 2)]) (by exact hr) rfl S.nd rfl G.b_all (List.mem_map.mpr ⟨("is_mode", none), by simp [tf], rfl⟩) G.t_is_mode rfl (di_seq rfl (de_add rfl (de_ix rfl (dv 1) de_int (fun _ _ => rfl)) (de_slice rfl (dv 1) (do_1 de_int) do_0))) (blkOk_by (by kernel_rfl)) rfl (by decide +kernel) rfl (fun s H C cl code fp pn => (dgwn 2 S.nd)) (fun s H C cl code fp pn hr' => (de_call (C_is_row_of.mono (by decide)) hr' hG rfl (da_cons (dv 0) (da_cons (dv 2) da_nil))))))))
  exact ⟨fd, F, h2⟩
theorem ok_is_mode (G : Gf K mg base) : Callee P w K mg base (WK K) 12 "is_mode" 2 m_is_mode := by
  obtain ⟨fd, F, h⟩ := fn_is_mode (P := P) (w := w) G
  exact callee_of (ps := ["size", "value"]) F h G.g_is_mode fun _ _ _ _ _ _ us hl => match us, hl with | [_, _], _ => rfl
theorem S_is_up_to : FnScope ["number", "limit"] ["number", "limit"] (defScope s_is_up_to) := ⟨rfl, rfl, rfl, by decide +kernel, rfl, by decide +kernel, by decide +kernel⟩
theorem fn_is_up_to (G : Gf K mg base) : ∃ fd, FunD K "is_up_to" "is_up_to" (defArgs s_is_up_to) (defBody s_is_up_to) (defScope s_is_up_to) [] [] (He.fAd K ("is_up_to", none)) fd ∧ FnG P w K mg base 1 (He.fAd K ("is_up_to", none)) fd ["number", "limit"] (spD (WK K) 2 m_is_up_to) := by
  obtain ⟨fd, F⟩ := G.f_is_up_to
  have S := S_is_up_to
  have h := fn_D (P := P) (w := w) (mg := mg) (base := base) (W := WK K) (k := 0) (f := b_is_up_to) F S
  have h2 : FnG P w K mg base 1 (He.fAd K ("is_up_to", none)) fd ["number", "limit"] (spD (WK K) 2 m_is_up_to) := by
    refine h ?_
    intro A outer s H E hr hG
    exact (dss_one (ds_ret (de_cmp op_le dop_le (de_mul rfl (de_ix rfl (dv 0) de_int (fun _ _ => rfl)) (de_ix rfl (dv 1) de_int (fun _ _ => rfl))) (de_mul rfl (de_ix rfl (dv 1) de_int (fun _ _ => rfl)) (de_ix rfl (dv 0) de_int (fun _ _ => rfl))) (nomark _))))
  exact ⟨fd, F, h2⟩
theorem ok_is_up_to (G : Gf K mg base) : Callee P w K mg base (WK K) 1 "is_up_to" 2 m_is_up_to := by
  obtain ⟨fd, F, h⟩ := fn_is_up_to (P := P) (w := w) G
  exact callee_of (ps := ["number", "limit"]) F h G.g_is_up_to fun _ _ _ _ _ _ us hl => match us, hl with | [_, _], _ => rfl
theorem S_is_span : FnScope ["value"] ["value"] (defScope s_is_span) := ⟨rfl, rfl, rfl, by decide +kernel, rfl, by decide +kernel, by decide +kernel⟩
theorem fn_is_span (G : Gf K mg base) : ∃ fd, FunD K "is_span" "is_span" (defArgs s_is_span) (defBody s_is_span) (defScope s_is_span) [] [] (He.fAd K ("is_span", none)) fd ∧ FnG P w K mg base 8 (He.fAd K ("is_span", none)) fd ["value"] (spD (WK K) 1 m_is_span) := by
  have C_is_row_of := ok_is_row_of (P := P) (w := w) G
  have C_is_up_to := ok_is_up_to (P := P) (w := w) G
  obtain ⟨fd, F⟩ := G.f_is_span
  have S := S_is_span
  have h := fn_D (P := P) (w := w) (mg := mg) (base := base) (W := WK K) (k := 7) (f := b_is_span) F S
  have h2 : FnG P w K mg base 8 (He.fAd K ("is_span", none)) fd ["value"] (spD (WK K) 1 m_is_span) := by
    refine h ?_
    intro A outer s H E hr hG
    exact (dss_one (ds_ret (de_and (de_call (C_is_row_of.mono (by decide)) hr hG rfl (da_cons de_int (da_cons (dv 0) da_nil))) (de_one (de_call (C_is_up_to.mono (by decide)) hr hG rfl (da_cons (de_ix rfl (dv 0) de_int (fun _ _ => rfl)) (da_cons (de_ix rfl (dv 0) de_int (fun _ _ => rfl)) da_nil)))))))
  exact ⟨fd, F, h2⟩
theorem ok_is_span (G : Gf K mg base) : Callee P w K mg base (WK K) 8 "is_span" 1 m_is_span := by
  obtain ⟨fd, F, h⟩ := fn_is_span (P := P) (w := w) G
  exact callee_of (ps := ["value"]) F h G.g_is_span fun _ _ _ _ _ _ us hl => match us, hl with | [_], _ => rfl
theorem S_fraction : FnScope ["top", "bottom", "common"] ["top", "bottom"] (defScope s_fraction) := ⟨rfl, rfl, rfl, by decide +kernel, rfl, by decide +kernel, by decide +kernel⟩
theorem fn_fraction (G : Gf K mg base) : ∃ fd, FunD K "fraction" "fraction" (defArgs s_fraction) (defBody s_fraction) (defScope s_fraction) [] [] (He.fAd K ("fraction", none)) fd ∧ FnG P w K mg base 1 (He.fAd K ("fraction", none)) fd ["top", "bottom"] (spD (WK K) 2 m_fraction) := by
  obtain ⟨fd, F⟩ := G.f_fraction
  have S := S_fraction
  have h := fn_D (P := P) (w := w) (mg := mg) (base := base) (W := WK K) (k := 0) (f := b_fraction) F S
  have h2 : FnG P w K mg base 1 (He.fAd K ("fraction", none)) fd ["top", "bottom"] (spD (WK K) 2 m_fraction) := by
    refine h ?_
    intro A outer s H E hr hG
    exact (dss_cons (dset 2 S.nd (de_callBf cr_gcd dc_gcd rfl G.gcd (da_cons (dv 0) (da_cons (dv 1) da_nil))))
  (dss_one (ds_ret (de_tup (da_cons (de_div (dv 0) (dv 2)) (da_cons (de_div (dv 1) (dv 2)) da_nil))))))
  exact ⟨fd, F, h2⟩
theorem ok_fraction (G : Gf K mg base) : Callee P w K mg base (WK K) 1 "fraction" 2 m_fraction := by
  obtain ⟨fd, F, h⟩ := fn_fraction (P := P) (w := w) G
  exact callee_of (ps := ["top", "bottom"]) F h G.g_fraction fun _ _ _ _ _ _ us hl => match us, hl with | [_, _], _ => rfl
theorem S_total : FnScope ["one", "other"] ["one", "other"] (defScope s_total) := ⟨rfl, rfl, rfl, by decide +kernel, rfl, by decide +kernel, by decide +kernel⟩
theorem fn_total (G : Gf K mg base) : ∃ fd, FunD K "total" "total" (defArgs s_total) (defBody s_total) (defScope s_total) [] [] (He.fAd K ("total", none)) fd ∧ FnG P w K mg base 2 (He.fAd K ("total", none)) fd ["one", "other"] (spD (WK K) 2 m_total) := by
  have C_fraction := ok_fraction (P := P) (w := w) G
  obtain ⟨fd, F⟩ := G.f_total
  have S := S_total
  have h := fn_D (P := P) (w := w) (mg := mg) (base := base) (W := WK K) (k := 1) (f := b_total) F S
  have h2 : FnG P w K mg base 2 (He.fAd K ("total", none)) fd ["one", "other"] (spD (WK K) 2 m_total) := by
    refine h ?_
    intro A outer s H E hr hG
    exact (dss_one (ds_ret (de_call (C_fraction.mono (by decide)) hr hG rfl (da_cons (de_add rfl (de_mul rfl (de_ix rfl (dv 0) de_int (fun _ _ => rfl)) (de_ix rfl (dv 1) de_int (fun _ _ => rfl))) (de_mul rfl (de_ix rfl (dv 1) de_int (fun _ _ => rfl)) (de_ix rfl (dv 0) de_int (fun _ _ => rfl)))) (da_cons (de_mul rfl (de_ix rfl (dv 0) de_int (fun _ _ => rfl)) (de_ix rfl (dv 1) de_int (fun _ _ => rfl))) da_nil)))))
  exact ⟨fd, F, h2⟩
theorem ok_total (G : Gf K mg base) : Callee P w K mg base (WK K) 2 "total" 2 m_total := by
  obtain ⟨fd, F, h⟩ := fn_total (P := P) (w := w) G
  exact callee_of (ps := ["one", "other"]) F h G.g_total fun _ _ _ _ _ _ us hl => match us, hl with | [_, _], _ => rfl
theorem S_is_sensor : FnScope ["size", "value"] ["size", "value"] (defScope s_is_sensor) := ⟨rfl, rfl, rfl, by decide +kernel, rfl, by decide +kernel, by decide +kernel⟩
theorem fn_is_sensor (G : Gf K mg base) : ∃ fd, FunD K "is_sensor" "is_sensor" (defArgs s_is_sensor) (defBody s_is_sensor) (defScope s_is_sensor) [] [] (He.fAd K ("is_sensor", none)) fd ∧ FnG P w K mg base 8 (He.fAd K ("is_sensor", none)) fd ["size", "value"] (spD (WK K) 2 m_is_sensor) := by
  have C_is_row_of := ok_is_row_of (P := P) (w := w) G
  have C_is_tuple_of := ok_is_tuple_of (P := P) (w := w) G
  have C_is_up_to := ok_is_up_to (P := P) (w := w) G
  have C_is_whole := ok_is_whole (P := P) (w := w) G
  have C_total := ok_total (P := P) (w := w) G
  obtain ⟨fd, F⟩ := G.f_is_sensor
  have S := S_is_sensor
  have h := fn_D (P := P) (w := w) (mg := mg) (base := base) (W := WK K) (k := 7) (f := b_is_sensor) F S
  have h2 : FnG P w K mg base 8 (He.fAd K ("is_sensor", none)) fd ["size", "value"] (spD (WK K) 2 m_is_sensor) := by
    refine h ?_
    intro A outer s H E hr hG
    exact (dss_cons (ds_if (dt_w (dw_or (dt_not (dt_val (de_call (C_is_tuple_of.mono (by decide)) hr hG rfl (da_cons (dv 1) (da_cons de_int (da_cons de_int da_nil)))))) (dw_or (dt_not (dt_val (de_call (C_is_row_of.mono (by decide)) hr hG rfl (da_cons (dv 0) (da_cons (de_ix rfl (dv 1) de_int (fun _ _ => rfl)) da_nil))))) (dw_or1 (dt_not (dt_val (de_call (C_is_row_of.mono (by decide)) hr hG rfl (da_cons de_int (da_cons (de_slice rfl (dv 1) (do_1 de_int) (do_1 de_int)) da_nil)))))))))
  (dss_one (ds_ret de_bl)) dss_nil)
  (dss_one (ds_ret (de_and (de_call (C_is_up_to.mono (by decide)) hr hG rfl (da_cons (de_call (C_total.mono (by decide)) hr hG rfl (da_cons (de_ix rfl (dv 1) de_int (fun _ _ => rfl)) (da_cons (de_tup (da_cons de_int (da_cons de_int da_nil))) da_nil))) (da_cons (de_ix rfl (dv 1) de_int (fun _ _ => rfl)) da_nil))) (de_one (de_call (C_is_whole.mono (by decide)) hr hG rfl (da_cons (de_ix rfl (dv 1) de_int (fun _ _ => rfl)) da_nil)))))))
  exact ⟨fd, F, h2⟩
theorem ok_is_sensor (G : Gf K mg base) : Callee P w K mg base (WK K) 8 "is_sensor" 2 m_is_sensor := by
  obtain ⟨fd, F, h⟩ := fn_is_sensor (P := P) (w := w) G
  exact callee_of (ps := ["size", "value"]) F h G.g_is_sensor fun _ _ _ _ _ _ us hl => match us, hl with | [_, _], _ => rfl
theorem S_is_wish : FnScope ["size", "value"] ["size", "value"] (defScope s_is_wish) := ⟨rfl, rfl, rfl, by decide +kernel, rfl, by decide +kernel, by decide +kernel⟩
theorem fn_is_wish (G : Gf K mg base) : ∃ fd, FunD K "is_wish" "is_wish" (defArgs s_is_wish) (defBody s_is_wish) (defScope s_is_wish) [] [] (He.fAd K ("is_wish", none)) fd ∧ FnG P w K mg base 8 (He.fAd K ("is_wish", none)) fd ["size", "value"] (spD (WK K) 2 m_is_wish) := by
  have C_is_fraction := ok_is_fraction (P := P) (w := w) G
  have C_is_row_of := ok_is_row_of (P := P) (w := w) G
  have C_is_tuple_of := ok_is_tuple_of (P := P) (w := w) G
  obtain ⟨fd, F⟩ := G.f_is_wish
  have S := S_is_wish
  have h := fn_D (P := P) (w := w) (mg := mg) (base := base) (W := WK K) (k := 7) (f := b_is_wish) F S
  have h2 : FnG P w K mg base 8 (He.fAd K ("is_wish", none)) fd ["size", "value"] (spD (WK K) 2 m_is_wish) := by
    refine h ?_
    intro A outer s H E hr hG
    exact (dss_one (ds_ret (de_and (de_call (C_is_tuple_of.mono (by decide)) hr hG rfl (da_cons (dv 1) (da_cons de_int (da_cons de_int da_nil)))) (de_and (de_call (C_is_row_of.mono (by decide)) hr hG rfl (da_cons (dv 0) (da_cons (de_ix rfl (dv 1) de_int (fun _ _ => rfl)) da_nil))) (de_one (de_call (C_is_fraction.mono (by decide)) hr hG rfl (da_cons (de_ix rfl (dv 1) de_int (fun _ _ => rfl)) da_nil)))))))
  exact ⟨fd, F, h2⟩
theorem ok_is_wish (G : Gf K mg base) : Callee P w K mg base (WK K) 8 "is_wish" 2 m_is_wish := by
  obtain ⟨fd, F, h⟩ := fn_is_wish (P := P) (w := w) G
  exact callee_of (ps := ["size", "value"]) F h G.g_is_wish fun _ _ _ _ _ _ us hl => match us, hl with | [_, _], _ => rfl
theorem S_is_right_plant : FnScope ["value", "size", "modes", "noise", "start", "sensors", "delay", "drive", "safe", "mode", "pair", "sensor", "wish"] ["value"] (defScope s_is_right_plant) := ⟨rfl, rfl, rfl, by decide +kernel, rfl, by decide +kernel, by decide +kernel⟩
theorem fn_is_right_plant (G : Gf K mg base) : ∃ fd, FunD K "is_right_plant" "is_right_plant" (defArgs s_is_right_plant) (defBody s_is_right_plant) (defScope s_is_right_plant) [] [] (He.fAd K ("is_right_plant", none)) fd ∧ FnG P w K mg base 17 (He.fAd K ("is_right_plant", none)) fd ["value"] (spD (WK K) 1 m_is_right_plant) := by
  have C_is_drive := ok_is_drive (P := P) (w := w) G
  have C_is_mode := ok_is_mode (P := P) (w := w) G
  have C_is_sensor := ok_is_sensor (P := P) (w := w) G
  have C_is_span := ok_is_span (P := P) (w := w) G
  have C_is_tuple_of := ok_is_tuple_of (P := P) (w := w) G
  have C_is_whole_from := ok_is_whole_from (P := P) (w := w) G
  have C_is_wish := ok_is_wish (P := P) (w := w) G
  obtain ⟨fd, F⟩ := G.f_is_right_plant
  have S := S_is_right_plant
  have h := fn_D (P := P) (w := w) (mg := mg) (base := base) (W := WK K) (k := 16) (f := b_is_right_plant) F S
  have h2 : FnG P w K mg base 17 (He.fAd K ("is_right_plant", none)) fd ["value"] (spD (WK K) 1 m_is_right_plant) := by
    refine h ?_
    intro A outer s H E hr hG
    exact (dss_cons (ds_if (dt_w (dw_or (dt_not (dt_val (de_call (C_is_tuple_of.mono (by decide)) hr hG rfl (da_cons (dv 0) (da_cons de_int (da_cons de_int da_nil)))))) (dw_or1 (dt_not (dt_val (de_call (C_is_tuple_of.mono (by decide)) hr hG rfl (da_cons (de_ix rfl (dv 0) de_int (fun _ _ => rfl)) (da_cons de_int (da_cons de_int da_nil)))))))))
  (dss_one (ds_ret de_bl)) dss_nil)
  (dss_cons (ds_asg (dv 0) (dg_tup (n := 7) rfl rfl (dgs_cons (dgn 2 S.nd) (dgs_cons (dgn 3 S.nd) (dgs_cons (dgn 4 S.nd) (dgs_cons (dgn 5 S.nd) (dgs_cons (dgn 6 S.nd) (dgs_cons (dgn 7 S.nd) (dgs_cons (dgn 8 S.nd) dgs_nil)))))))))
  (dss_cons (dset 1 S.nd (de_callB call_len dc_len rfl G.b_len boot_len' (da_cons (dv 3) da_nil)))
  (dss_cons (ds_if (dt_w (dw_or (dt_not (dt_val (de_call (C_is_tuple_of.mono (by decide)) hr hG rfl (da_cons (dv 2) (da_cons de_int (da_cons de_int da_nil)))))) (dw_or (dt_not (dt_val (de_call (C_is_tuple_of.mono (by decide)) hr hG rfl (da_cons (dv 4) (da_cons (dv 1) (da_cons (dv 1) da_nil)))))) (dw_or1 (dt_not (dt_val (de_call (C_is_tuple_of.mono (by decide)) hr hG rfl (da_cons (dv 5) (da_cons de_int (da_cons de_int da_nil))))))))))
  (dss_one (ds_ret de_bl)) dss_nil)
  (dss_one (ds_ret (de_and (de_allG (k := 12) (own := [("mode", 9)]) (by exact hr) rfl S.nd rfl G.b_all (List.mem_map.mpr ⟨("is_right_plant", none), by simp [tf], rfl⟩) G.t_is_right_plant rfl (di_seq rfl (dv 2)) (blkOk_by (by kernel_rfl)) rfl (by decide +kernel) rfl (fun s H C cl code fp pn => (dgwn 9 S.nd)) (fun s H C cl code fp pn hr' => (de_call (C_is_mode.mono (by decide)) hr' hG rfl (da_cons (dv 1) (da_cons (dv 9) da_nil))))) (de_and (de_allG (k := 12) (own := [("pair", 10)]) (by exact hr) rfl S.nd rfl G.b_all (List.mem_map.mpr ⟨("is_right_plant", none), by simp [tf], rfl⟩) G.t_is_right_plant rfl (di_seq rfl (de_add rfl (dv 3) (dv 4))) (blkOk_by (by kernel_rfl)) rfl (by decide +kernel) rfl (fun s H C cl code fp pn => (dgwn 10 S.nd)) (fun s H C cl code fp pn hr' => (de_call (C_is_span.mono (by decide)) hr' hG rfl (da_cons (dv 10) da_nil)))) (de_and (de_allG (k := 12) (own := [("sensor", 11)]) (by exact hr) rfl S.nd rfl G.b_all (List.mem_map.mpr ⟨("is_right_plant", none), by simp [tf], rfl⟩) G.t_is_right_plant rfl (di_seq rfl (dv 5)) (blkOk_by (by kernel_rfl)) rfl (by decide +kernel) rfl (fun s H C cl code fp pn => (dgwn 11 S.nd)) (fun s H C cl code fp pn hr' => (de_call (C_is_sensor.mono (by decide)) hr' hG rfl (da_cons (dv 1) (da_cons (dv 11) da_nil))))) (de_and (de_call (C_is_whole_from.mono (by decide)) hr hG rfl (da_cons (dv 6) (da_cons de_int (da_cons de_int da_nil)))) (de_and (de_call (C_is_drive.mono (by decide)) hr hG rfl (da_cons (dv 7) da_nil)) (de_and (de_call (C_is_tuple_of.mono (by decide)) hr hG rfl (da_cons (dv 8) (da_cons de_int (da_cons de_int da_nil)))) (de_one (de_allG (k := 12) (own := [("wish", 12)]) (by exact hr) rfl S.nd rfl G.b_all (List.mem_map.mpr ⟨("is_right_plant", none), by simp [tf], rfl⟩) G.t_is_right_plant rfl (di_seq rfl (dv 8)) (blkOk_by (by kernel_rfl)) rfl (by decide +kernel) rfl (fun s H C cl code fp pn => (dgwn 12 S.nd)) (fun s H C cl code fp pn hr' => (de_call (C_is_wish.mono (by decide)) hr' hG rfl (da_cons (dv 1) (da_cons (dv 12) da_nil))))))))))))))))))
  exact ⟨fd, F, h2⟩
theorem ok_is_right_plant (G : Gf K mg base) : Callee P w K mg base (WK K) 17 "is_right_plant" 1 m_is_right_plant := by
  obtain ⟨fd, F, h⟩ := fn_is_right_plant (P := P) (w := w) G
  exact callee_of (ps := ["value"]) F h G.g_is_right_plant fun _ _ _ _ _ _ us hl => match us, hl with | [_], _ => rfl
theorem S_check_plant : FnScope ["plant"] ["plant"] (defScope s_check_plant) := ⟨rfl, rfl, rfl, by decide +kernel, rfl, by decide +kernel, by decide +kernel⟩
theorem fn_check_plant (G : Gf K mg base) : ∃ fd, FunD K "check_plant" "check_plant" (defArgs s_check_plant) (defBody s_check_plant) (defScope s_check_plant) [] [] (He.fAd K ("check_plant", none)) fd ∧ FnG P w K mg base 18 (He.fAd K ("check_plant", none)) fd ["plant"] (spD (WK K) 1 m_check_plant) := by
  have C_is_right_plant := ok_is_right_plant (P := P) (w := w) G
  obtain ⟨fd, F⟩ := G.f_check_plant
  have S := S_check_plant
  have h := fn_D (P := P) (w := w) (mg := mg) (base := base) (W := WK K) (k := 17) (f := b_check_plant) F S
  have h2 : FnG P w K mg base 18 (He.fAd K ("check_plant", none)) fd ["plant"] (spD (WK K) 1 m_check_plant) := by
    refine h ?_
    intro A outer s H E hr hG
    exact (dss_one (ds_if (dt_not (dt_val (de_call (C_is_right_plant.mono (by decide)) hr hG rfl (da_cons (dv 0) da_nil))))
  (dss_one ds_bad) dss_nil))
  exact ⟨fd, F, h2⟩
theorem ok_check_plant (G : Gf K mg base) : Callee P w K mg base (WK K) 18 "check_plant" 1 m_check_plant := by
  obtain ⟨fd, F, h⟩ := fn_check_plant (P := P) (w := w) G
  exact callee_of (ps := ["plant"]) F h G.g_check_plant fun _ _ _ _ _ _ us hl => match us, hl with | [_], _ => rfl
theorem S_check_row : FnScope ["size", "row", "index", "number"] ["size", "row"] (defScope s_check_row) := ⟨rfl, rfl, rfl, by decide +kernel, rfl, by decide +kernel, by decide +kernel⟩
theorem fn_check_row (G : Gf K mg base) : ∃ fd, FunD K "check_row" "check_row" (defArgs s_check_row) (defBody s_check_row) (defScope s_check_row) [] [] (He.fAd K ("check_row", none)) fd ∧ FnG P w K mg base 3 (He.fAd K ("check_row", none)) fd ["size", "row"] (spD (WK K) 2 m_check_row) := by
  have C_is_fraction := ok_is_fraction (P := P) (w := w) G
  obtain ⟨fd, F⟩ := G.f_check_row
  have S := S_check_row
  have h := fn_D (P := P) (w := w) (mg := mg) (base := base) (W := WK K) (k := 2) (f := b_check_row) F S
  have h2 : FnG P w K mg base 3 (He.fAd K ("check_row", none)) fd ["size", "row"] (spD (WK K) 2 m_check_row) := by
    refine h ?_
    intro A outer s H E hr hG
    exact (dss_cons (ds_if (dt_w (dw_or (dt_not (dt_val (de_isi .tup rfl rfl G.b_isinstance rfl G.b_tuple (dv 1)))) (dw_or1 (dt_cmp (op_neA hr.units) dop_ne (de_callB call_len dc_len rfl G.b_len boot_len' (da_cons (dv 1) da_nil)) (dv 0) (nomark _)))))
  (dss_one ds_bad) dss_nil)
  (dss_one (ds_for .never rfl (di_enum rfl rfl G.b_enumerate (da_cons (dv 1) da_nil)) (dg_tup (n := 2) rfl rfl (dgs_cons (dgn 2 S.nd) (dgs_cons (dgn 3 S.nd) dgs_nil)))
  (dss_one (ds_if (dt_not (dt_val (de_call (C_is_fraction.mono (by decide)) hr hG rfl (da_cons (dv 3) da_nil))))
  (dss_one ds_bad) dss_nil)))))
  exact ⟨fd, F, h2⟩
theorem ok_check_row (G : Gf K mg base) : Callee P w K mg base (WK K) 3 "check_row" 2 m_check_row := by
  obtain ⟨fd, F, h⟩ := fn_check_row (P := P) (w := w) G
  exact callee_of (ps := ["size", "row"]) F h G.g_check_row fun _ _ _ _ _ _ us hl => match us, hl with | [_, _], _ => rfl
theorem S_product_of : FnScope ["row", "other", "top", "bottom", "first", "under", "second", "below", "share"] ["row", "other"] (defScope s_product_of) := ⟨rfl, rfl, rfl, by decide +kernel, rfl, by decide +kernel, by decide +kernel⟩
theorem fn_product_of (G : Gf K mg base) : ∃ fd, FunD K "product_of" "product_of" (defArgs s_product_of) (defBody s_product_of) (defScope s_product_of) [] [] (He.fAd K ("product_of", none)) fd ∧ FnG P w K mg base 2 (He.fAd K ("product_of", none)) fd ["row", "other"] (spD (WK K) 2 m_product_of) := by
  have C_fraction := ok_fraction (P := P) (w := w) G
  obtain ⟨fd, F⟩ := G.f_product_of
  have S := S_product_of
  have h := fn_D (P := P) (w := w) (mg := mg) (base := base) (W := WK K) (k := 1) (f := b_product_of) F S
  have h2 : FnG P w K mg base 2 (He.fAd K ("product_of", none)) fd ["row", "other"] (spD (WK K) 2 m_product_of) := by
    refine h ?_
    intro A outer s H E hr hG
    exact (dss_cons (ds_asg (de_tup (da_cons de_int (da_cons de_int da_nil))) (dg_tup (n := 2) rfl rfl (dgs_cons (dgn 2 S.nd) (dgs_cons (dgn 3 S.nd) dgs_nil))))
  (dss_cons (ds_for .never rfl (di_mx rfl rfl G.b_zip (da_cons (dv 0) (da_cons (dv 1) da_nil))) (dg_tup (n := 2) rfl rfl (dgs_cons (dg_tup (n := 2) rfl rfl (dgs_cons (dgn 4 S.nd) (dgs_cons (dgn 5 S.nd) dgs_nil))) (dgs_cons (dg_tup (n := 2) rfl rfl (dgs_cons (dgn 6 S.nd) (dgs_cons (dgn 7 S.nd) dgs_nil))) dgs_nil)))
  (dss_one (ds_if (dt_w (dw_and (dt_cmp (op_neA hr.units) dop_ne (dv 4) de_int (nomark _)) (dw_and1 (dt_cmp (op_neA hr.units) dop_ne (dv 6) de_int (nomark _)))))
  (dss_cons (dset 8 S.nd (de_mul rfl (dv 5) (dv 7)))
  (dss_one (ds_par (i := 2) (j := 3) rfl S.nd rfl rfl (by decide) rfl rfl (da_cons (de_add rfl (de_mul rfl (dv 2) (dv 8)) (de_mul rfl (de_mul rfl (dv 4) (dv 6)) (dv 3))) (da_cons (de_mul rfl (dv 3) (dv 8)) da_nil)) rfl))) dss_nil)))
  (dss_one (ds_ret (de_call (C_fraction.mono (by decide)) hr hG rfl (da_cons (dv 2) (da_cons (dv 3) da_nil)))))))
  exact ⟨fd, F, h2⟩
theorem ok_product_of (G : Gf K mg base) : Callee P w K mg base (WK K) 2 "product_of" 2 m_product_of := by
  obtain ⟨fd, F, h⟩ := fn_product_of (P := P) (w := w) G
  exact callee_of (ps := ["row", "other"]) F h G.g_product_of fun _ _ _ _ _ _ us hl => match us, hl with | [_, _], _ => rfl
theorem S_moved_on : FnScope ["mode", "row", "drive", "noise", "led", "factors", "driven", "more", "stray"] ["mode", "row", "drive", "noise"] (defScope s_moved_on) := ⟨rfl, rfl, rfl, by decide +kernel, rfl, by decide +kernel, by decide +kernel⟩
theorem fn_moved_on (G : Gf K mg base) : ∃ fd, FunD K "moved_on" "moved_on" (defArgs s_moved_on) (defBody s_moved_on) (defScope s_moved_on) [] [] (He.fAd K ("moved_on", none)) fd ∧ FnG P w K mg base 3 (He.fAd K ("moved_on", none)) fd ["mode", "row", "drive", "noise"] (spD (WK K) 4 m_moved_on) := by
  have C_product_of := ok_product_of (P := P) (w := w) G
  have C_total := ok_total (P := P) (w := w) G
  obtain ⟨fd, F⟩ := G.f_moved_on
  have S := S_moved_on
  have h := fn_D (P := P) (w := w) (mg := mg) (base := base) (W := WK K) (k := 2) (f := b_moved_on) F S
  have h2 : FnG P w K mg base 3 (He.fAd K ("moved_on", none)) fd ["mode", "row", "drive", "noise"] (spD (WK K) 4 m_moved_on) := by
    refine h ?_
    intro A outer s H E hr hG
    exact (dss_cons (dset 4 S.nd (de_cell da_nil))
  (dss_cons (ds_for .never rfl (di_t4 rfl rfl G.b_zip (da_cons (de_ix rfl (dv 0) de_int (fun _ _ => rfl)) (da_cons (de_ix rfl (dv 0) de_int (fun _ _ => rfl)) (da_cons (de_ix rfl (dv 0) de_int (fun _ _ => rfl)) (da_cons (dv 3) da_nil))))) (dg_tup (n := 4) rfl rfl (dgs_cons (dgn 5 S.nd) (dgs_cons (dgn 6 S.nd) (dgs_cons (dgn 7 S.nd) (dgs_cons (dgn 8 S.nd) dgs_nil)))))
  (dss_one (ds_expr (de_meth rfl PySem.F.slot_list_append PySem.F.type_list_append mt_append dm_append (dv 4) (da_cons (de_call (C_total.mono (by decide)) hr hG rfl (da_cons (de_call (C_product_of.mono (by decide)) hr hG rfl (da_cons (de_add rfl (dv 5) (de_tup (da_cons (dv 6) da_nil))) (da_cons (de_add rfl (dv 1) (de_tup (da_cons (de_tup (da_cons (dv 2) (da_cons de_int da_nil))) da_nil))) da_nil))) (da_cons (de_call (C_total.mono (by decide)) hr hG rfl (da_cons (dv 7) (da_cons (dv 8) da_nil))) da_nil))) da_nil)))))
  (dss_one (ds_ret (de_callTy call_tuple_of dc_tuple rfl G.b_tuple boot_tuple' (da_cons (dv 4) da_nil))))))
  exact ⟨fd, F, h2⟩
theorem ok_moved_on (G : Gf K mg base) : Callee P w K mg base (WK K) 3 "moved_on" 4 m_moved_on := by
  obtain ⟨fd, F, h⟩ := fn_moved_on (P := P) (w := w) G
  exact callee_of (ps := ["mode", "row", "drive", "noise"]) F h G.g_moved_on fun _ _ _ _ _ _ us hl => match us, hl with | [_, _, _, _], _ => rfl
theorem S_is_index : FnScope ["value", "many"] ["value", "many"] (defScope s_is_index) := ⟨rfl, rfl, rfl, by decide +kernel, rfl, by decide +kernel, by decide +kernel⟩
theorem fn_is_index (G : Gf K mg base) : ∃ fd, FunD K "is_index" "is_index" (defArgs s_is_index) (defBody s_is_index) (defScope s_is_index) [] [] (He.fAd K ("is_index", none)) fd ∧ FnG P w K mg base 2 (He.fAd K ("is_index", none)) fd ["value", "many"] (spD (WK K) 2 m_is_index) := by
  have C_is_whole := ok_is_whole (P := P) (w := w) G
  obtain ⟨fd, F⟩ := G.f_is_index
  have S := S_is_index
  have h := fn_D (P := P) (w := w) (mg := mg) (base := base) (W := WK K) (k := 1) (f := b_is_index) F S
  have h2 : FnG P w K mg base 2 (He.fAd K ("is_index", none)) fd ["value", "many"] (spD (WK K) 2 m_is_index) := by
    refine h ?_
    intro A outer s H E hr hG
    exact (dss_one (ds_ret (de_and (de_call (C_is_whole.mono (by decide)) hr hG rfl (da_cons (dv 0) da_nil)) (de_one (de_chain op_le op_lt dop_le dop_lt de_int (dv 0) (dv 1))))))
  exact ⟨fd, F, h2⟩
theorem ok_is_index (G : Gf K mg base) : Callee P w K mg base (WK K) 2 "is_index" 2 m_is_index := by
  obtain ⟨fd, F, h⟩ := fn_is_index (P := P) (w := w) G
  exact callee_of (ps := ["value", "many"]) F h G.g_is_index fun _ _ _ _ _ _ us hl => match us, hl with | [_, _], _ => rfl
theorem S_moved : FnScope ["plant", "mode", "row", "drive", "noise"] ["plant", "mode", "row", "drive", "noise"] (defScope s_moved) := ⟨rfl, rfl, rfl, by decide +kernel, rfl, by decide +kernel, by decide +kernel⟩
theorem fn_moved (G : Gf K mg base) : ∃ fd, FunD K "moved" "moved" (defArgs s_moved) (defBody s_moved) (defScope s_moved) [] [] (He.fAd K ("moved", none)) fd ∧ FnG P w K mg base 19 (He.fAd K ("moved", none)) fd ["plant", "mode", "row", "drive", "noise"] (spD (WK K) 5 m_moved) := by
  have C_check_plant := ok_check_plant (P := P) (w := w) G
  have C_check_row := ok_check_row (P := P) (w := w) G
  have C_is_index := ok_is_index (P := P) (w := w) G
  have C_is_whole := ok_is_whole (P := P) (w := w) G
  have C_moved_on := ok_moved_on (P := P) (w := w) G
  obtain ⟨fd, F⟩ := G.f_moved
  have S := S_moved
  have h := fn_D (P := P) (w := w) (mg := mg) (base := base) (W := WK K) (k := 18) (f := b_moved) F S
  have h2 : FnG P w K mg base 19 (He.fAd K ("moved", none)) fd ["plant", "mode", "row", "drive", "noise"] (spD (WK K) 5 m_moved) := by
    refine h ?_
    intro A outer s H E hr hG
    exact (dss_cons (ds_expr (de_call (C_check_plant.mono (by decide)) hr hG rfl (da_cons (dv 0) da_nil)))
  (dss_cons (ds_if (dt_not (dt_val (de_call (C_is_index.mono (by decide)) hr hG rfl (da_cons (dv 1) (da_cons (de_callB call_len dc_len rfl G.b_len boot_len' (da_cons (de_ix rfl (dv 0) de_int (fun _ _ => rfl)) da_nil)) da_nil)))))
  (dss_one ds_bad) dss_nil)
  (dss_cons (ds_expr (de_call (C_check_row.mono (by decide)) hr hG rfl (da_cons (de_callB call_len dc_len rfl G.b_len boot_len' (da_cons (de_ix rfl (dv 0) de_int (fun _ _ => rfl)) da_nil)) (da_cons (dv 2) da_nil))))
  (dss_cons (ds_if (dt_not (dt_val (de_call (C_is_whole.mono (by decide)) hr hG rfl (da_cons (dv 3) da_nil))))
  (dss_one ds_bad) dss_nil)
  (dss_cons (ds_expr (de_call (C_check_row.mono (by decide)) hr hG rfl (da_cons (de_callB call_len dc_len rfl G.b_len boot_len' (da_cons (de_ix rfl (dv 0) de_int (fun _ _ => rfl)) da_nil)) (da_cons (dv 4) da_nil))))
  (dss_one (ds_ret (de_call (C_moved_on.mono (by decide)) hr hG rfl (da_cons (de_ix rfl (de_ix rfl (dv 0) de_int (fun _ _ => rfl)) (dv 1) (fun _ _ => rfl)) (da_cons (dv 2) (da_cons (dv 3) (da_cons (dv 4) da_nil))))))))))))
  exact ⟨fd, F, h2⟩
theorem ok_moved (G : Gf K mg base) : Callee P w K mg base (WK K) 19 "moved" 5 m_moved := by
  obtain ⟨fd, F, h⟩ := fn_moved (P := P) (w := w) G
  exact callee_of (ps := ["plant", "mode", "row", "drive", "noise"]) F h G.g_moved fun _ _ _ _ _ _ us hl => match us, hl with | [_, _, _, _, _], _ => rfl
theorem S__law_up_to : FnScope ["_law_one", "_law_two"] ["_law_one", "_law_two"] (defScope s__law_up_to) := ⟨rfl, rfl, rfl, by decide +kernel, rfl, by decide +kernel, by decide +kernel⟩
theorem fn__law_up_to (G : Gf K mg base) : ∃ fd, FunD K "_law_up_to" "_law_up_to" (defArgs s__law_up_to) (defBody s__law_up_to) (defScope s__law_up_to) [] [] (He.fAd K ("_law_up_to", none)) fd ∧ FnG P w K mg base 1 (He.fAd K ("_law_up_to", none)) fd ["_law_one", "_law_two"] (spD (WK K) 2 m__law_up_to) := by
  obtain ⟨fd, F⟩ := G.f__law_up_to
  have S := S__law_up_to
  have h := fn_D (P := P) (w := w) (mg := mg) (base := base) (W := WK K) (k := 0) (f := b__law_up_to) F S
  have h2 : FnG P w K mg base 1 (He.fAd K ("_law_up_to", none)) fd ["_law_one", "_law_two"] (spD (WK K) 2 m__law_up_to) := by
    refine h ?_
    intro A outer s H E hr hG
    exact (dss_one (ds_ret (de_cmp op_le dop_le (de_mul rfl (de_ix rfl (dv 0) de_int (fun _ _ => rfl)) (de_ix rfl (dv 1) de_int (fun _ _ => rfl))) (de_mul rfl (de_ix rfl (dv 1) de_int (fun _ _ => rfl)) (de_ix rfl (dv 0) de_int (fun _ _ => rfl))) (nomark _))))
  exact ⟨fd, F, h2⟩
theorem ok__law_up_to (G : Gf K mg base) : Callee P w K mg base (WK K) 1 "_law_up_to" 2 m__law_up_to := by
  obtain ⟨fd, F, h⟩ := fn__law_up_to (P := P) (w := w) G
  exact callee_of (ps := ["_law_one", "_law_two"]) F h G.g__law_up_to fun _ _ _ _ _ _ us hl => match us, hl with | [_, _], _ => rfl
theorem S_check_plant_row : FnScope ["plant", "row"] ["plant", "row"] (defScope s_check_plant_row) := ⟨rfl, rfl, rfl, by decide +kernel, rfl, by decide +kernel, by decide +kernel⟩
theorem fn_check_plant_row (G : Gf K mg base) : ∃ fd, FunD K "check_plant_row" "check_plant_row" (defArgs s_check_plant_row) (defBody s_check_plant_row) (defScope s_check_plant_row) [] [] (He.fAd K ("check_plant_row", none)) fd ∧ FnG P w K mg base 19 (He.fAd K ("check_plant_row", none)) fd ["plant", "row"] (spD (WK K) 2 m_check_plant_row) := by
  have C_check_plant := ok_check_plant (P := P) (w := w) G
  have C_check_row := ok_check_row (P := P) (w := w) G
  obtain ⟨fd, F⟩ := G.f_check_plant_row
  have S := S_check_plant_row
  have h := fn_D (P := P) (w := w) (mg := mg) (base := base) (W := WK K) (k := 18) (f := b_check_plant_row) F S
  have h2 : FnG P w K mg base 19 (He.fAd K ("check_plant_row", none)) fd ["plant", "row"] (spD (WK K) 2 m_check_plant_row) := by
    refine h ?_
    intro A outer s H E hr hG
    exact (dss_cons (ds_expr (de_call (C_check_plant.mono (by decide)) hr hG rfl (da_cons (dv 0) da_nil)))
  (dss_one (ds_expr (de_call (C_check_row.mono (by decide)) hr hG rfl (da_cons (de_callB call_len dc_len rfl G.b_len boot_len' (da_cons (de_ix rfl (dv 0) de_int (fun _ _ => rfl)) da_nil)) (da_cons (dv 1) da_nil))))))
  exact ⟨fd, F, h2⟩
theorem ok_check_plant_row (G : Gf K mg base) : Callee P w K mg base (WK K) 19 "check_plant_row" 2 m_check_plant_row := by
  obtain ⟨fd, F, h⟩ := fn_check_plant_row (P := P) (w := w) G
  exact callee_of (ps := ["plant", "row"]) F h G.g_check_plant_row fun _ _ _ _ _ _ us hl => match us, hl with | [_, _], _ => rfl
theorem S_is_safe_at : FnScope ["plant", "row", "wish", "bound"] ["plant", "row"] (defScope s_is_safe_at) := ⟨rfl, rfl, rfl, by decide +kernel, rfl, by decide +kernel, by decide +kernel⟩
theorem fn_is_safe_at (G : Gf K mg base) : ∃ fd, FunD K "is_safe_at" "is_safe_at" (defArgs s_is_safe_at) (defBody s_is_safe_at) (defScope s_is_safe_at) [] [] (He.fAd K ("is_safe_at", none)) fd ∧ FnG P w K mg base 7 (He.fAd K ("is_safe_at", none)) fd ["plant", "row"] (spD (WK K) 2 m_is_safe_at) := by
  have C_is_up_to := ok_is_up_to (P := P) (w := w) G
  have C_product_of := ok_product_of (P := P) (w := w) G
  obtain ⟨fd, F⟩ := G.f_is_safe_at
  have S := S_is_safe_at
  have h := fn_D (P := P) (w := w) (mg := mg) (base := base) (W := WK K) (k := 6) (f := b_is_safe_at) F S
  have h2 : FnG P w K mg base 7 (He.fAd K ("is_safe_at", none)) fd ["plant", "row"] (spD (WK K) 2 m_is_safe_at) := by
    refine h ?_
    intro A outer s H E hr hG
    exact (dss_one (ds_ret (de_allG (k := 2) (own := [("wish", 2), ("bound", 3)]) (by exact hr) rfl S.nd rfl G.b_all (List.mem_map.mpr ⟨("is_safe_at", none), by simp [tf], rfl⟩) G.t_is_safe_at rfl (di_seq rfl (de_ix rfl (dv 0) de_int (fun _ _ => rfl))) (blkOk_by (by kernel_rfl)) rfl (by decide +kernel) rfl (fun s H C cl code fp pn => (dgw_tup (n := 2) rfl rfl (dgsw_cons (dgwn 2 S.nd) (dgsw_cons (dgwn 3 S.nd) dgsw_nil)))) (fun s H C cl code fp pn hr' => (de_call (C_is_up_to.mono (by decide)) hr' hG rfl (da_cons (de_call (C_product_of.mono (by decide)) hr' hG rfl (da_cons (dv 2) (da_cons (dv 1) da_nil))) (da_cons (dv 3) da_nil)))))))
  exact ⟨fd, F, h2⟩
theorem ok_is_safe_at (G : Gf K mg base) : Callee P w K mg base (WK K) 7 "is_safe_at" 2 m_is_safe_at := by
  obtain ⟨fd, F, h⟩ := fn_is_safe_at (P := P) (w := w) G
  exact callee_of (ps := ["plant", "row"]) F h G.g_is_safe_at fun _ _ _ _ _ _ us hl => match us, hl with | [_, _], _ => rfl
theorem S_is_safe_row : FnScope ["plant", "row"] ["plant", "row"] (defScope s_is_safe_row) := ⟨rfl, rfl, rfl, by decide +kernel, rfl, by decide +kernel, by decide +kernel⟩
theorem fn_is_safe_row (G : Gf K mg base) : ∃ fd, FunD K "is_safe_row" "is_safe_row" (defArgs s_is_safe_row) (defBody s_is_safe_row) (defScope s_is_safe_row) [] [] (He.fAd K ("is_safe_row", none)) fd ∧ FnG P w K mg base 20 (He.fAd K ("is_safe_row", none)) fd ["plant", "row"] (spD (WK K) 2 m_is_safe_row) := by
  have C_check_plant_row := ok_check_plant_row (P := P) (w := w) G
  have C_is_safe_at := ok_is_safe_at (P := P) (w := w) G
  obtain ⟨fd, F⟩ := G.f_is_safe_row
  have S := S_is_safe_row
  have h := fn_D (P := P) (w := w) (mg := mg) (base := base) (W := WK K) (k := 19) (f := b_is_safe_row) F S
  have h2 : FnG P w K mg base 20 (He.fAd K ("is_safe_row", none)) fd ["plant", "row"] (spD (WK K) 2 m_is_safe_row) := by
    refine h ?_
    intro A outer s H E hr hG
    exact (dss_cons (ds_expr (de_call (C_check_plant_row.mono (by decide)) hr hG rfl (da_cons (dv 0) (da_cons (dv 1) da_nil))))
  (dss_one (ds_ret (de_call (C_is_safe_at.mono (by decide)) hr hG rfl (da_cons (dv 0) (da_cons (dv 1) da_nil))))))
  exact ⟨fd, F, h2⟩
theorem ok_is_safe_row (G : Gf K mg base) : Callee P w K mg base (WK K) 20 "is_safe_row" 2 m_is_safe_row := by
  obtain ⟨fd, F, h⟩ := fn_is_safe_row (P := P) (w := w) G
  exact callee_of (ps := ["plant", "row"]) F h G.g_is_safe_row fun _ _ _ _ _ _ us hl => match us, hl with | [_, _], _ => rfl
theorem S_readings_at : FnScope ["plant", "row", "pairs", "sensor", "low", "high", "_", "seen", "least", "most"] ["plant", "row"] (defScope s_readings_at) := ⟨rfl, rfl, rfl, by decide +kernel, rfl, by decide +kernel, by decide +kernel⟩
theorem fn_readings_at (G : Gf K mg base) : ∃ fd, FunD K "readings_at" "readings_at" (defArgs s_readings_at) (defBody s_readings_at) (defScope s_readings_at) [] [] (He.fAd K ("readings_at", none)) fd ∧ FnG P w K mg base 3 (He.fAd K ("readings_at", none)) fd ["plant", "row"] (spD (WK K) 2 m_readings_at) := by
  have C_product_of := ok_product_of (P := P) (w := w) G
  have C_total := ok_total (P := P) (w := w) G
  obtain ⟨fd, F⟩ := G.f_readings_at
  have S := S_readings_at
  have h := fn_D (P := P) (w := w) (mg := mg) (base := base) (W := WK K) (k := 2) (f := b_readings_at) F S
  have h2 : FnG P w K mg base 3 (He.fAd K ("readings_at", none)) fd ["plant", "row"] (spD (WK K) 2 m_readings_at) := by
    refine h ?_
    intro A outer s H E hr hG
    exact (dss_cons (dset 2 S.nd (de_cell da_nil))
  (dss_cons (ds_for .never rfl (di_seq rfl (de_ix rfl (dv 0) de_int (fun _ _ => rfl))) (dg_tup (n := 4) rfl rfl (dgs_cons (dgn 3 S.nd) (dgs_cons (dgn 4 S.nd) (dgs_cons (dgn 5 S.nd) (dgs_cons (dgn 6 S.nd) dgs_nil)))))
  (dss_cons (dset 7 S.nd (de_call (C_product_of.mono (by decide)) hr hG rfl (da_cons (dv 3) (da_cons (dv 1) da_nil))))
  (dss_cons (ds_par (i := 8) (j := 9) rfl S.nd rfl rfl (by decide) rfl rfl (da_cons (de_call (C_total.mono (by decide)) hr hG rfl (da_cons (dv 7) (da_cons (dv 4) da_nil))) (da_cons (de_call (C_total.mono (by decide)) hr hG rfl (da_cons (dv 7) (da_cons (dv 5) da_nil))) da_nil)) rfl)
  (dss_one (ds_expr (de_meth rfl PySem.F.slot_list_append PySem.F.type_list_append mt_append dm_append (dv 2) (da_cons (de_tup (da_cons (de_neg (de_div (de_neg (de_ix rfl (dv 8) de_int (fun _ _ => rfl))) (de_ix rfl (dv 8) de_int (fun _ _ => rfl)))) (da_cons (de_div (de_ix rfl (dv 9) de_int (fun _ _ => rfl)) (de_ix rfl (dv 9) de_int (fun _ _ => rfl))) da_nil))) da_nil)))))))
  (dss_one (ds_ret (de_callTy call_tuple_of dc_tuple rfl G.b_tuple boot_tuple' (da_cons (dv 2) da_nil))))))
  exact ⟨fd, F, h2⟩
theorem ok_readings_at (G : Gf K mg base) : Callee P w K mg base (WK K) 3 "readings_at" 2 m_readings_at := by
  obtain ⟨fd, F, h⟩ := fn_readings_at (P := P) (w := w) G
  exact callee_of (ps := ["plant", "row"]) F h G.g_readings_at fun _ _ _ _ _ _ us hl => match us, hl with | [_, _], _ => rfl
theorem S_readings_of : FnScope ["plant", "row"] ["plant", "row"] (defScope s_readings_of) := ⟨rfl, rfl, rfl, by decide +kernel, rfl, by decide +kernel, by decide +kernel⟩
theorem fn_readings_of (G : Gf K mg base) : ∃ fd, FunD K "readings_of" "readings_of" (defArgs s_readings_of) (defBody s_readings_of) (defScope s_readings_of) [] [] (He.fAd K ("readings_of", none)) fd ∧ FnG P w K mg base 20 (He.fAd K ("readings_of", none)) fd ["plant", "row"] (spD (WK K) 2 m_readings_of) := by
  have C_check_plant_row := ok_check_plant_row (P := P) (w := w) G
  have C_readings_at := ok_readings_at (P := P) (w := w) G
  obtain ⟨fd, F⟩ := G.f_readings_of
  have S := S_readings_of
  have h := fn_D (P := P) (w := w) (mg := mg) (base := base) (W := WK K) (k := 19) (f := b_readings_of) F S
  have h2 : FnG P w K mg base 20 (He.fAd K ("readings_of", none)) fd ["plant", "row"] (spD (WK K) 2 m_readings_of) := by
    refine h ?_
    intro A outer s H E hr hG
    exact (dss_cons (ds_expr (de_call (C_check_plant_row.mono (by decide)) hr hG rfl (da_cons (dv 0) (da_cons (dv 1) da_nil))))
  (dss_one (ds_ret (de_call (C_readings_at.mono (by decide)) hr hG rfl (da_cons (dv 0) (da_cons (dv 1) da_nil))))))
  exact ⟨fd, F, h2⟩
theorem ok_readings_of (G : Gf K mg base) : Callee P w K mg base (WK K) 20 "readings_of" 2 m_readings_of := by
  obtain ⟨fd, F, h⟩ := fn_readings_of (P := P) (w := w) G
  exact callee_of (ps := ["plant", "row"]) F h G.g_readings_of fun _ _ _ _ _ _ us hl => match us, hl with | [_, _], _ => rfl
theorem S__law_readings : FnScope ["_law_plant_here", "_law_row", "_law_found", "_law_sensor_here", "_law_low_here", "_law_high"] ["_law_plant_here", "_law_row"] (defScope s__law_readings) := ⟨rfl, rfl, rfl, by decide +kernel, rfl, by decide +kernel, by decide +kernel⟩
theorem fn__law_readings (G : Gf K mg base) : ∃ fd, FunD K "_law_readings" "_law_readings" (defArgs s__law_readings) (defBody s__law_readings) (defScope s__law_readings) [] [] (He.fAd K ("_law_readings", none)) fd ∧ FnG P w K mg base 4 (He.fAd K ("_law_readings", none)) fd ["_law_plant_here", "_law_row"] (spD (WK K) 2 m__law_readings) := by
  have C__law_dot := ok__law_dot (P := P) (w := w) G
  have C__law_plus := ok__law_plus (P := P) (w := w) G
  obtain ⟨fd, F⟩ := G.f__law_readings
  have S := S__law_readings
  have h := fn_D (P := P) (w := w) (mg := mg) (base := base) (W := WK K) (k := 3) (f := b__law_readings) F S
  have h2 : FnG P w K mg base 4 (He.fAd K ("_law_readings", none)) fd ["_law_plant_here", "_law_row"] (spD (WK K) 2 m__law_readings) := by
    refine h ?_
    intro A outer s H E hr hG
    exact (dss_cons (dset 2 S.nd (de_cell da_nil))
  (dss_cons (ds_for .never rfl (di_seq rfl (de_ix rfl (dv 0) de_int (fun _ _ => rfl))) (dgn 3 S.nd)
  (dss_cons (dset 4 S.nd (de_call (C__law_plus.mono (by decide)) hr hG rfl (da_cons (de_call (C__law_dot.mono (by decide)) hr hG rfl (da_cons (de_ix rfl (dv 3) de_int (fun _ _ => rfl)) (da_cons (dv 1) da_nil))) (da_cons (de_ix rfl (dv 3) de_int (fun _ _ => rfl)) da_nil))))
  (dss_cons (dset 5 S.nd (de_call (C__law_plus.mono (by decide)) hr hG rfl (da_cons (de_call (C__law_dot.mono (by decide)) hr hG rfl (da_cons (de_ix rfl (dv 3) de_int (fun _ _ => rfl)) (da_cons (dv 1) da_nil))) (da_cons (de_ix rfl (dv 3) de_int (fun _ _ => rfl)) da_nil))))
  (dss_one (ds_expr (de_meth rfl PySem.F.slot_list_append PySem.F.type_list_append mt_append dm_append (dv 2) (da_cons (de_tup (da_cons (de_neg (de_div (de_neg (de_ix rfl (dv 4) de_int (fun _ _ => rfl))) (de_ix rfl (dv 4) de_int (fun _ _ => rfl)))) (da_cons (de_div (de_ix rfl (dv 5) de_int (fun _ _ => rfl)) (de_ix rfl (dv 5) de_int (fun _ _ => rfl))) da_nil))) da_nil)))))))
  (dss_one (ds_ret (de_callTy call_tuple_of dc_tuple rfl G.b_tuple boot_tuple' (da_cons (dv 2) da_nil))))))
  exact ⟨fd, F, h2⟩
theorem ok__law_readings (G : Gf K mg base) : Callee P w K mg base (WK K) 4 "_law_readings" 2 m__law_readings := by
  obtain ⟨fd, F, h⟩ := fn__law_readings (P := P) (w := w) G
  exact callee_of (ps := ["_law_plant_here", "_law_row"]) F h G.g__law_readings fun _ _ _ _ _ _ us hl => match us, hl with | [_, _], _ => rfl
theorem S_driven_by : FnScope ["plant", "command", "least", "most"] ["plant", "command"] (defScope s_driven_by) := ⟨rfl, rfl, rfl, by decide +kernel, rfl, by decide +kernel, by decide +kernel⟩
theorem fn_driven_by (G : Gf K mg base) : ∃ fd, FunD K "driven_by" "driven_by" (defArgs s_driven_by) (defBody s_driven_by) (defScope s_driven_by) [] [] (He.fAd K ("driven_by", none)) fd ∧ FnG P w K mg base 1 (He.fAd K ("driven_by", none)) fd ["plant", "command"] (spD (WK K) 2 m_driven_by) := by
  obtain ⟨fd, F⟩ := G.f_driven_by
  have S := S_driven_by
  have h := fn_D (P := P) (w := w) (mg := mg) (base := base) (W := WK K) (k := 0) (f := b_driven_by) F S
  have h2 : FnG P w K mg base 1 (He.fAd K ("driven_by", none)) fd ["plant", "command"] (spD (WK K) 2 m_driven_by) := by
    refine h ?_
    intro A outer s H E hr hG
    exact (dss_cons (ds_asg (de_slice rfl (de_ix rfl (dv 0) de_int (fun _ _ => rfl)) do_0 (do_1 de_int)) (dg_tup (n := 2) rfl rfl (dgs_cons (dgn 2 S.nd) (dgs_cons (dgn 3 S.nd) dgs_nil))))
  (dss_one (ds_ret (de_callB (call_min2 rfl) dc_min2 rfl G.b_min boot_min' (da_cons (de_callB (call_max2 rfl) dc_max2 rfl G.b_max boot_max' (da_cons (dv 1) (da_cons (dv 2) da_nil))) (da_cons (dv 3) da_nil))))))
  exact ⟨fd, F, h2⟩
theorem ok_driven_by (G : Gf K mg base) : Callee P w K mg base (WK K) 1 "driven_by" 2 m_driven_by := by
  obtain ⟨fd, F, h⟩ := fn_driven_by (P := P) (w := w) G
  exact callee_of (ps := ["plant", "command"]) F h G.g_driven_by fun _ _ _ _ _ _ us hl => match us, hl with | [_, _], _ => rfl
theorem S_within_drive : FnScope ["plant", "command"] ["plant", "command"] (defScope s_within_drive) := ⟨rfl, rfl, rfl, by decide +kernel, rfl, by decide +kernel, by decide +kernel⟩
theorem fn_within_drive (G : Gf K mg base) : ∃ fd, FunD K "within_drive" "within_drive" (defArgs s_within_drive) (defBody s_within_drive) (defScope s_within_drive) [] [] (He.fAd K ("within_drive", none)) fd ∧ FnG P w K mg base 19 (He.fAd K ("within_drive", none)) fd ["plant", "command"] (spD (WK K) 2 m_within_drive) := by
  have C_check_plant := ok_check_plant (P := P) (w := w) G
  have C_driven_by := ok_driven_by (P := P) (w := w) G
  have C_is_whole := ok_is_whole (P := P) (w := w) G
  obtain ⟨fd, F⟩ := G.f_within_drive
  have S := S_within_drive
  have h := fn_D (P := P) (w := w) (mg := mg) (base := base) (W := WK K) (k := 18) (f := b_within_drive) F S
  have h2 : FnG P w K mg base 19 (He.fAd K ("within_drive", none)) fd ["plant", "command"] (spD (WK K) 2 m_within_drive) := by
    refine h ?_
    intro A outer s H E hr hG
    exact (dss_cons (ds_expr (de_call (C_check_plant.mono (by decide)) hr hG rfl (da_cons (dv 0) da_nil)))
  (dss_cons (ds_if (dt_not (dt_val (de_call (C_is_whole.mono (by decide)) hr hG rfl (da_cons (dv 1) da_nil))))
  (dss_one ds_bad) dss_nil)
  (dss_one (ds_ret (de_call (C_driven_by.mono (by decide)) hr hG rfl (da_cons (dv 0) (da_cons (dv 1) da_nil)))))))
  exact ⟨fd, F, h2⟩
theorem ok_within_drive (G : Gf K mg base) : Callee P w K mg base (WK K) 19 "within_drive" 2 m_within_drive := by
  obtain ⟨fd, F, h⟩ := fn_within_drive (P := P) (w := w) G
  exact callee_of (ps := ["plant", "command"]) F h G.g_within_drive fun _ _ _ _ _ _ us hl => match us, hl with | [_, _], _ => rfl
theorem S__law_right : FnScope ["_law_well_here", "_law_plant_here", "_law_size", "_law_turn", "_law_mode_here", "_law_safe", "_law_row", "_law_noise", "_law_drive_here", "_law_due", "_law_told", "_law_each", "_law_bound"] ["_law_well_here"] (defScope s__law_right) := ⟨rfl, rfl, rfl, by decide +kernel, rfl, by decide +kernel, by decide +kernel⟩
theorem fn__law_right (G : Gf K mg base) : ∃ fd, FunD K "_law_right" "_law_right" (defArgs s__law_right) (defBody s__law_right) (defScope s__law_right) [] [] (He.fAd K ("_law_right", none)) fd ∧ FnG P w K mg base 21 (He.fAd K ("_law_right", none)) fd ["_law_well_here"] (spD (WK K) 1 m__law_right) := by
  have C__law_any_plant := ok__law_any_plant (P := P) (w := w) G
  have C__law_dot := ok__law_dot (P := P) (w := w) G
  have C__law_draw := ok__law_draw (P := P) (w := w) G
  have C__law_moved := ok__law_moved (P := P) (w := w) G
  have C__law_readings := ok__law_readings (P := P) (w := w) G
  have C__law_row_of := ok__law_row_of (P := P) (w := w) G
  have C__law_same := ok__law_same (P := P) (w := w) G 16
  have C__law_up_to := ok__law_up_to (P := P) (w := w) G
  have C_is_safe_row := ok_is_safe_row (P := P) (w := w) G
  have C_moved := ok_moved (P := P) (w := w) G
  have C_readings_of := ok_readings_of (P := P) (w := w) G
  have C_within_drive := ok_within_drive (P := P) (w := w) G
  obtain ⟨fd, F⟩ := G.f__law_right
  have S := S__law_right
  have h := fn_D (P := P) (w := w) (mg := mg) (base := base) (W := WK K) (k := 20) (f := b__law_right) F S
  have h2 : FnG P w K mg base 21 (He.fAd K ("_law_right", none)) fd ["_law_well_here"] (spD (WK K) 1 m__law_right) := by
    refine h ?_
    intro A outer s H E hr hG
    exact (dss_cons (dset 1 S.nd (de_call (C__law_any_plant.mono (by decide)) hr hG rfl (da_cons (dv 0) da_nil)))
  (dss_cons (dset 2 S.nd (de_callB call_len dc_len rfl G.b_len boot_len' (da_cons (de_ix rfl (dv 1) de_int (fun _ _ => rfl)) da_nil)))
  (dss_cons (ds_for .never rfl (di_rng1 rfl G.b_range (da_cons de_int da_nil)) (dgn 3 S.nd)
  (dss_cons (ds_asg (de_tup (da_cons (de_call (C__law_row_of.mono (by decide)) hr hG rfl (da_cons (dv 0) (da_cons (dv 2) da_nil))) (da_cons (de_call (C__law_row_of.mono (by decide)) hr hG rfl (da_cons (dv 0) (da_cons (dv 2) da_nil))) (da_cons (de_sub (de_call (C__law_draw.mono (by decide)) hr hG rfl (da_cons (dv 0) (da_cons de_int da_nil))) de_int) da_nil)))) (dg_tup (n := 3) rfl rfl (dgs_cons (dgn 6 S.nd) (dgs_cons (dgn 7 S.nd) (dgs_cons (dgn 8 S.nd) dgs_nil)))))
  (dss_cons (ds_if (dt_cmp (op_eqA hr.units) dop_eq (dv 3) de_int (nomark _))
  (dss_one (dset 8 S.nd (de_sub (de_call (C__law_draw.mono (by decide)) hr hG rfl (da_cons (dv 0) (da_cons de_int da_nil))) de_int))) dss_nil)
  (dss_cons (ds_for .never rfl (di_rng1 rfl G.b_range (da_cons (de_callB call_len dc_len rfl G.b_len boot_len' (da_cons (de_ix rfl (dv 1) de_int (fun _ _ => rfl)) da_nil)) da_nil)) (dgn 4 S.nd)
  (dss_cons (dset 9 S.nd (de_call (C__law_moved.mono (by decide)) hr hG rfl (da_cons (de_ix rfl (de_ix rfl (dv 1) de_int (fun _ _ => rfl)) (dv 4) (fun _ _ => rfl)) (da_cons (dv 6) (da_cons (dv 8) (da_cons (dv 7) da_nil))))))
  (dss_cons (dset 10 S.nd (de_tup (da_cons (de_call (C_moved.mono (by decide)) hr hG rfl (da_cons (dv 1) (da_cons (dv 4) (da_cons (dv 6) (da_cons (dv 8) (da_cons (dv 7) da_nil)))))) (da_cons (de_call (C_moved.mono (by decide)) hr hG rfl (da_cons (dv 1) (da_cons (dv 4) (da_cons (dv 6) (da_cons (dv 8) (da_cons (dv 7) da_nil)))))) da_nil))))
  (dss_one (ds_if (dt_not (dt_val (de_call (C__law_same.mono (by decide)) hr hG rfl (da_cons (dv 10) (da_cons (de_tup (da_cons (dv 9) (da_cons (dv 9) da_nil))) da_nil)))))
  (dss_one (ds_ret de_bl)) dss_nil)))))
  (dss_cons (dset 5 S.nd (de_callB (cr_all rfl) dc_all rfl G.b_all boot_all' (da_cons (de_lc rfl S.nd (own := [("_law_each", 11), ("_law_bound", 12)]) (di_seq rfl (de_ix rfl (dv 1) de_int (fun _ _ => rfl))) (blkOk_by (by kernel_rfl)) (fun s H C cl fp => (dgw_tup (n := 2) rfl rfl (dgsw_cons (dgwn 11 S.nd) (dgsw_cons (dgwn 12 S.nd) dgsw_nil)))) (fun s H C cl fp => dts_nil) (fun s H C cl fp => (de_call (C__law_up_to.mono (by decide)) hr hG rfl (da_cons (de_call (C__law_dot.mono (by decide)) hr hG rfl (da_cons (dv 11) (da_cons (dv 6) da_nil))) (da_cons (dv 12) da_nil))))) da_nil)))
  (dss_cons (ds_if (dt_not (dt_val (de_call (C__law_same.mono (by decide)) hr hG rfl (da_cons (de_call (C_is_safe_row.mono (by decide)) hr hG rfl (da_cons (dv 1) (da_cons (dv 6) da_nil))) (da_cons (dv 5) da_nil)))))
  (dss_one (ds_ret de_bl)) dss_nil)
  (dss_cons (ds_if (dt_not (dt_val (de_call (C__law_same.mono (by decide)) hr hG rfl (da_cons (de_call (C_readings_of.mono (by decide)) hr hG rfl (da_cons (dv 1) (da_cons (dv 6) da_nil))) (da_cons (de_call (C__law_readings.mono (by decide)) hr hG rfl (da_cons (dv 1) (da_cons (dv 6) da_nil))) da_nil)))))
  (dss_one (ds_ret de_bl)) dss_nil)
  (dss_one (ds_if (dt_not (dt_val (de_call (C__law_same.mono (by decide)) hr hG rfl (da_cons (de_call (C_within_drive.mono (by decide)) hr hG rfl (da_cons (dv 1) (da_cons (dv 8) da_nil))) (da_cons (de_callB (call_max2 rfl) dc_max2 rfl G.b_max boot_max' (da_cons (de_ix rfl (de_ix rfl (dv 1) de_int (fun _ _ => rfl)) de_int (fun _ _ => rfl)) (da_cons (de_callB (call_min2 rfl) dc_min2 rfl G.b_min boot_min' (da_cons (de_ix rfl (de_ix rfl (dv 1) de_int (fun _ _ => rfl)) de_int (fun _ _ => rfl)) (da_cons (dv 8) da_nil))) da_nil))) da_nil)))))
  (dss_one (ds_ret de_bl)) dss_nil)))))))))
  (dss_one (ds_ret de_bl)))))
  exact ⟨fd, F, h2⟩
theorem ok__law_right (G : Gf K mg base) : Callee P w K mg base (WK K) 21 "_law_right" 1 m__law_right := by
  obtain ⟨fd, F, h⟩ := fn__law_right (P := P) (w := w) G
  exact callee_of (ps := ["_law_well_here"]) F h G.g__law_right fun _ _ _ _ _ _ us hl => match us, hl with | [_], _ => rfl
theorem S__law_well : FnScope ["_law_script", "_law_turn", "_law_mixed", "_law_cell", "_law_own"] ["_law_script", "_law_turn"] (defScope s__law_well) := ⟨rfl, rfl, rfl, by decide +kernel, rfl, by decide +kernel, by decide +kernel⟩
theorem fn__law_well (G : Gf K mg base) : ∃ fd, FunD K "_law_well" "_law_well" (defArgs s__law_well) (defBody s__law_well) (defScope s__law_well) [] [] (He.fAd K ("_law_well", none)) fd ∧ FnG P w K mg base 1 (He.fAd K ("_law_well", none)) fd ["_law_script", "_law_turn"] (spD (WK K) 2 m__law_well) := by
  obtain ⟨fd, F⟩ := G.f__law_well
  have S := S__law_well
  have h := fn_D (P := P) (w := w) (mg := mg) (base := base) (W := WK K) (k := 0) (f := b__law_well) F S
  have h2 : FnG P w K mg base 1 (He.fAd K ("_law_well", none)) fd ["_law_script", "_law_turn"] (spD (WK K) 2 m__law_well) := by
    refine h ?_
    intro A outer s H E hr hG
    exact (dss_cons (dset 2 S.nd (de_add rfl de_int (de_mul rfl de_int (dv 1))))
  (dss_cons (ds_for .never rfl (di_seq rfl (de_slice rfl (dv 0) do_0 (do_1 de_int))) (dgn 3 S.nd)
  (dss_one (dset 2 S.nd (de_mod (de_callTy call_int1 dc_int rfl G.b_int boot_int' (da_cons (de_add rfl (de_add rfl (de_mul rfl (dv 2) de_int) (de_mod (de_callTy call_int1 dc_int rfl G.b_int boot_int' (da_cons (dv 3) da_nil)) de_int)) de_int) da_nil)) de_int))))
  (dss_cons (dset 4 S.nd (de_if (dt_cmp op_lt dop_lt (dv 1) (de_callB call_len dc_len rfl G.b_len boot_len' (da_cons (dv 0) da_nil)) (nomark _)) (de_callTy call_int1 dc_int rfl G.b_int boot_int' (da_cons (de_ix rfl (dv 0) (dv 1) (fun _ _ => rfl)) da_nil)) de_int))
  (dss_cons (dset 2 S.nd (de_mod (de_callTy call_int1 dc_int rfl G.b_int boot_int' (da_cons (de_add rfl (de_add rfl (de_mul rfl (dv 2) de_int) (de_mul rfl (de_mod (de_callTy call_int1 dc_int rfl G.b_int boot_int' (da_cons (dv 4) da_nil)) de_int) de_int)) de_int) da_nil)) de_int))
  (dss_one (ds_ret (de_cell (da_cons (de_if (dt_w (dw_or (dt_cmp op_lt dop_lt (dv 4) de_int (nomark _)) (dw_or1 (dt_cmp op_ge dop_ge (dv 4) (de_pow de_int de_int) (nomark _))))) (de_callB call_abs dc_abs rfl G.b_abs boot_abs' (da_cons (dv 4) da_nil)) de_int) (da_cons (dv 2) (da_cons de_int da_nil))))))))))
  exact ⟨fd, F, h2⟩
theorem ok__law_well (G : Gf K mg base) : Callee P w K mg base (WK K) 1 "_law_well" 2 m__law_well := by
  obtain ⟨fd, F, h⟩ := fn__law_well (P := P) (w := w) G
  exact callee_of (ps := ["_law_script", "_law_turn"]) F h G.g__law_well fun _ _ _ _ _ _ us hl => match us, hl with | [_, _], _ => rfl
theorem S_law : FnScope ["_law_script", "_law_turn"] ["_law_script"] (defScope s_law) := ⟨rfl, rfl, rfl, by decide +kernel, rfl, by decide +kernel, by decide +kernel⟩
theorem fn_law (G : Gf K mg base) : ∃ fd, FunD K "law" "law" (defArgs s_law) (defBody s_law) (defScope s_law) [] [] (He.fAd K ("law", none)) fd ∧ FnG P w K mg base 22 (He.fAd K ("law", none)) fd ["_law_script"] (spD (WK K) 1 m_law) := by
  have C__law_right := ok__law_right (P := P) (w := w) G
  have C__law_well := ok__law_well (P := P) (w := w) G
  obtain ⟨fd, F⟩ := G.f_law
  have S := S_law
  have h := fn_D (P := P) (w := w) (mg := mg) (base := base) (W := WK K) (k := 21) (f := b_law) F S
  have h2 : FnG P w K mg base 22 (He.fAd K ("law", none)) fd ["_law_script"] (spD (WK K) 1 m_law) := by
    refine h ?_
    intro A outer s H E hr hG
    exact (dss_one (ds_ret (de_callB (cr_all rfl) dc_all rfl G.b_all boot_all' (da_cons (de_lc rfl S.nd (own := [("_law_turn", 1)]) (di_rng1 rfl G.b_range (da_cons (de_callB (call_max2 rfl) dc_max2 rfl G.b_max boot_max' (da_cons de_int (da_cons (de_callB (call_min2 rfl) dc_min2 rfl G.b_min boot_min' (da_cons (de_callB call_len dc_len rfl G.b_len boot_len' (da_cons (dv 0) da_nil)) (da_cons de_int da_nil))) da_nil))) da_nil)) (blkOk_by (by kernel_rfl)) (fun s H C cl fp => (dgwn 1 S.nd)) (fun s H C cl fp => dts_nil) (fun s H C cl fp => (de_call (C__law_right.mono (by decide)) hr hG rfl (da_cons (de_call (C__law_well.mono (by decide)) hr hG rfl (da_cons (dv 0) (da_cons (dv 1) da_nil))) da_nil)))) da_nil))))
  exact ⟨fd, F, h2⟩
theorem ok_law (G : Gf K mg base) : Callee P w K mg base (WK K) 22 "law" 1 m_law := by
  obtain ⟨fd, F, h⟩ := fn_law (P := P) (w := w) G
  exact callee_of (ps := ["_law_script"]) F h G.g_law fun _ _ _ _ _ _ us hl => match us, hl with | [_], _ => rfl
end
end Law
set_option Elab.async false
set_option linter.all false
set_option maxRecDepth 100000
set_option maxHeartbeats 1000000
namespace Law
open PySem PySem.Spec PyProof.Rows L2 GxR Gx Dn
/-- the well's three numbers -/
def wl (a b c : Int) : Cell := .lst [.int a, .int b, .int c]
structure WOk (t : Nat) (c : Cell) : Prop where
  ex : ∃ a b k : Int, c = wl a b k ∧ 0 ≤ a ∧ 0 ≤ b ∧ b < 2147483587 ∧ 0 ≤ k ∧ k ≤ t
theorem log2_mul {i j : Int} {n : Nat} (hi : i.natAbs < 2 ^ n) (hn : 0 < n) (h : n + j.natAbs.log2 < 1000001) : cMul i j = true := by
  have := PySem.Flt.log2_lt_of hn hi
  unfold cMul
  simp
  omega
theorem mod_pos {i j : Int} (h : 0 < j) : i.fmod j = i % j := Int.fmod_eq_emod_of_nonneg i (by omega)
theorem div_pos {i j : Int} (h : 0 < j) : i.fdiv j = i / j := Int.fdiv_eq_ediv_of_nonneg i (by omega)
theorem lt_pow {i : Int} {n : Nat} (h0 : 0 ≤ i) (h : i < 2 ^ n) : i.natAbs < 2 ^ n := by
  have : (i.natAbs : Int) = i := by omega
  have h2 : ((i.natAbs : Nat) : Int) < ((2 ^ n : Nat) : Int) := by rw [this]; push_cast; exact h
  exact_mod_cast h2
theorem cMul_of {i j : Int} (a b : Nat) (ha : 0 < a) (hb : 0 < b) (hi : i.natAbs < 2 ^ a) (hj : j.natAbs < 2 ^ b) (h : a + b ≤ 1000000) : cMul i j = true := by
  have x := PySem.Flt.log2_lt_of ha hi
  have y := PySem.Flt.log2_lt_of hb hj
  unfold cMul
  simp
  omega
theorem take_set {S : Sto} {n : Nat} {c : Cell} : List.take (List.length S) (List.set S n c) = List.set S n c := List.take_of_length_le (by simp)
theorem draw_spec {n : Nat} {S : Sto} {t : Nat} {c : Cell} {m : Int} (hc : S[n]? = some c) (hw : WOk t c) (ht : t < 2 ^ 200) (hm : 0 < m) (hm2 : m < 1073741824) :
    Ok (m__law_draw [.r n, .d (.int m)] S) fun x S' => ∃ (i : Int) (c' : Cell), x = .d (.int i) ∧ 0 ≤ i ∧ i < m ∧ S' = S.set n c' ∧ WOk (t + 1) c' := by
  obtain ⟨a, b, k, rfl, ha, hb, hb2, hk, hkt⟩ := hw.ex
  have hn : n < S.length := (List.getElem?_eq_some_iff.mp hc).1
  have hk2 : k < 2 ^ 200 := by
    have h1 : ((t : Nat) : Int) < ((2 ^ 200 : Nat) : Int) := by exact_mod_cast ht
    have e : ((2 ^ 200 : Nat) : Int) = 2 ^ 200 := by decide
    omega
  have k1 : k + 1 < 2 ^ 201 := by
    have : (2 : Int) ^ 200 + 1 < 2 ^ 201 := by decide
    omega
  have c2 : cMul 50021 (k + 1) = true := cMul_of 16 201 (by decide) (by decide) (by decide) (lt_pow (by omega) k1) (by decide)
  have c4 : cMul 19 (k + 1) = true := cMul_of 16 201 (by decide) (by decide) (by decide) (lt_pow (by omega) k1) (by decide)
  have hs : ∀ c : Cell, (S.set n c)[n]? = some c := fun c => List.getElem?_set_self hn
  generalize ex : (b + 50021 * (k + 1)) % 2147483497 = x
  have x0 : 0 ≤ x := by rw [← ex]; exact Int.emod_nonneg _ (by decide)
  have x1 : x < 2147483497 := by rw [← ex]; exact Int.emod_lt_of_pos _ (by decide)
  have y0 : 0 ≤ x % 7001 := Int.emod_nonneg _ (by decide)
  have y1 : x % 7001 < 7001 := Int.emod_lt_of_pos _ (by decide)
  have c3 : cMul x (x % 7001 + 20011) = true := cMul_of 32 17 (by decide) (by decide) (by omega) (by omega) (by decide)
  have cd : ∀ i : Int, cDiv i 769 = true := fun i => by unfold cDiv; decide
  unfold m__law_draw
  refine ok_fn ?_
  unfold b__law_draw
  simp (maxSteps := 20000) [hc, wl, ixN, hs, c2, c3, c4, cd, take_set, List.set_set, mod_pos, div_pos, ex, hm, hm2, Int.ne_of_gt hm]
  split
  · refine ⟨Int.emod_nonneg _ (by omega), Int.emod_lt_of_pos _ hm, _, rfl, ⟨_, _, _, rfl, Int.ediv_nonneg ha (by omega), hb, hb2, hk, by omega⟩⟩
  · refine ⟨Int.emod_nonneg _ (by omega), Int.emod_lt_of_pos _ hm, _, rfl, ⟨_, _, _, rfl, ha, Int.emod_nonneg _ (by decide), ?_, by omega, by omega⟩⟩
    exact Int.lt_trans (Int.emod_lt_of_pos _ (by decide)) (by decide)
/-! ### what the package's own looks say -/
def nob : D → Bool
  | .obj _ _ => false
  | _ => true
@[simp] theorem nob_int (i : Int) : nob (.int i) = true := rfl
@[simp] theorem nob_tup (ds : List D) : nob (.tup ds) = true := rfl
theorem gD_nob {b l : Nat} {d : D} (h : gD b l d = true) : nob d = true := by cases d <;> first | rfl | (simp [gD] at h)
theorem is_whole_eq {d : D} (S : Sto) (h : nob d = true) : m_is_whole [.d d] S = .ok (.d (.bl (wholeB d))) S := by
  refine ok_eq ?_
  unfold m_is_whole
  refine ok_fn ?_
  unfold b_is_whole
  cases d <;> simp [isi, wholeB]
  simp [nob] at h
theorem is_tuple_of_eq {d : D} {lo hi : Int} (S : Sto) (h : nob d = true) : m_is_tuple_of [.d d, .d (.int lo), .d (.int hi)] S = .ok (.d (.bl (tupB d lo hi))) S := by
  refine ok_eq ?_
  unfold m_is_tuple_of
  refine ok_fn ?_
  unfold b_is_tuple_of
  cases d <;> simp [isi, tupB]
  · split <;> rename_i c <;> simp [c]
  · simp [nob] at h
theorem is_whole_from_eq {d : D} {lo hi : Int} (S : Sto) (h : nob d = true) : m_is_whole_from [.d d, .d (.int lo), .d (.int hi)] S = .ok (.d (.bl (fromB d lo hi))) S := by
  refine ok_eq ?_
  unfold m_is_whole_from
  refine ok_fn ?_
  unfold b_is_whole_from
  cases d <;> simp [is_whole_eq, h, wholeB, fromB]
  split <;> rename_i c <;> simp [c]
theorem gD_pair {b l : Nat} {x y : D} (h : gD b l (.tup [x, y]) = true) : gD b l x = true ∧ gD b l y = true := by
  simp [gD, gDs] at h; exact h.2
theorem gD_items {b l : Nat} {ds : List D} (h : gD b l (.tup ds) = true) : ∀ d ∈ ds, gD b l d = true := by
  simp only [gD, Bool.and_eq_true] at h
  exact gDs_all.mp h.2
theorem fracB_else {ds : List D} (h : ds.length ≠ 2) : fracB (.tup ds) = false := by
  match ds, h with
  | [], _ => rfl
  | [x], _ => cases x <;> rfl
  | [x, y], h => exact absurd rfl h
  | x :: y :: z :: r, _ => cases x <;> cases y <;> rfl
theorem tup2 {ds : List D} : tupB (.tup ds) 2 2 = decide (ds.length = 2) := by
  simp only [tupB]
  rw [Bool.eq_iff_iff]
  simp
  omega
theorem is_fraction_eq {d : D} {b l : Nat} (S : Sto) (h : gD b l d = true) : m_is_fraction [.d d] S = .ok (.d (.bl (fracB d))) S := by
  have hn := gD_nob h
  refine ok_eq ?_
  unfold m_is_fraction
  refine ok_fn ?_
  unfold b_is_fraction
  cases d with
  | tup ds =>
    rcases pair_cases ds with ⟨x, y, rfl⟩ | hl
    · obtain ⟨hx, hy⟩ := gD_pair h
      have nx := gD_nob hx
      have ny := gD_nob hy
      simp [is_tuple_of_eq, hn, tup2, is_whole_eq, nx, ny]
      cases x <;> cases y <;> simp [wholeB, fracB]
      rename_i i j
      split <;> rename_i c <;> simp [c]
      omega
    · simp [is_tuple_of_eq, hn, tup2, hl, fracB_else hl]
  | _ => simp [is_tuple_of_eq, hn, tupB, fracB]
theorem is_row_of_eq {d : D} {n : Int} {b l : Nat} (S : Sto) (h : gD b l d = true) : m_is_row_of [.d (.int n), .d d] S = .ok (.d (.bl (rowB n d))) S := by
  have hn := gD_nob h
  refine ok_eq ?_
  unfold m_is_row_of
  refine ok_fn ?_
  unfold b_is_row_of
  cases d with
  | tup ds =>
    simp [isi]
    by_cases hl : (ds.length : Int) = n
    · simp [hl]
      refine ok_allG (ds := ds) (f := fracB) (by simp) (fun d hd => ?_) ?_
      · simp [wipeE, is_fraction_eq _ (gD_items h d hd)]
      · simp [rowB, hl]
    · simp [hl, rowB]
  | obj c fs => simp [nob] at hn
  | _ => simp [isi, rowB]
theorem is_wish_eq {d : D} {n : Int} {b l : Nat} (S : Sto) (h : gD b l d = true) : m_is_wish [.d (.int n), .d d] S = .ok (.d (.bl (wishB n d))) S := by
  have hn := gD_nob h
  refine ok_eq ?_
  unfold m_is_wish
  refine ok_fn ?_
  unfold b_is_wish
  cases d with
  | tup ds =>
    rcases pair_cases ds with ⟨x, y, rfl⟩ | hl
    · obtain ⟨hx, hy⟩ := gD_pair h
      simp [is_tuple_of_eq, hn, tup2, is_row_of_eq _ hx, is_fraction_eq _ hy, wishB]
      split <;> rename_i c <;> simp [c]
    · have e : wishB n (.tup ds) = false := by
        match ds, hl with
        | [], _ => rfl
        | [x], _ => rfl
        | [x, y], hl => exact absurd rfl hl
        | x :: y :: z :: r, _ => rfl
      simp [is_tuple_of_eq, hn, tup2, hl, e]
  | _ => simp [is_tuple_of_eq, hn, tupB, wishB]
/-! ### the law's own looks -/
theorem cDiv_of {i j : Int} {b : Nat} (h0 : j ≠ 0) (hb : 0 < b) (h : j.natAbs < 2 ^ b) (h9 : b ≤ 9000) : cDiv i j = true := by
  have := PySem.Flt.log2_lt_of hb h
  unfold cDiv
  simp
  exact ⟨h0, by omega⟩
/-- in lowest terms: what taking the common part out leaves alone -/
theorem lowest {a b : Int} (hb : 0 < b) : (a / (Nat.gcd a.natAbs b.natAbs : Nat) = a ∧ b / (Nat.gcd a.natAbs b.natAbs : Nat) = b) ↔ Nat.gcd a.natAbs b.natAbs = 1 := by
  constructor
  · rintro ⟨_, h⟩
    have g0 : 0 < Nat.gcd a.natAbs b.natAbs := Nat.gcd_pos_of_pos_right _ (by omega)
    generalize Nat.gcd a.natAbs b.natAbs = g at h g0
    by_cases hg : g = 1
    · exact hg
    · exfalso
      have h2 : (2 : Int) ≤ g := by omega
      have h3 : b / (g : Int) * g ≤ b := Int.ediv_mul_le b (by omega)
      rw [h] at h3
      have h4 : b * 2 ≤ b * g := Int.mul_le_mul_of_nonneg_left h2 (by omega)
      omega
  · intro h
    rw [h]
    simp
theorem py_tup_ints {a b : Int} : D.py (.tup [.int a, .int b]) = some (.tuple [.int a, .int b]) := by simp [D.py, pys]
theorem blsOf_map (f : D → Bool) : ∀ ds : List D, blsOf (ds.map fun d => D.bl (f d)) = some (ds.map f)
  | [] => rfl
  | d :: ds => by simp [blsOf, blsOf_map f ds]
end Law
set_option Elab.async false
set_option linter.all false
set_option maxRecDepth 100000
set_option maxHeartbeats 1000000
namespace Law
open PySem PySem.Spec PyProof.Rows L2 GxR Gx Dn
theorem WOk.mono {t t' : Nat} {c : Cell} (h : WOk t c) (l : t ≤ t') : WOk t' c := by
  obtain ⟨a, b, k, rfl, h1, h2, h3, h4, h5⟩ := h.ex
  exact ⟨a, b, k, rfl, h1, h2, h3, h4, by omega⟩
theorem atI_mem {α : Type} {xs : List α} {j : Int} (h0 : 0 ≤ j) (h1 : j < xs.length) : ∃ x, atI xs j = some x ∧ x ∈ xs := by
  obtain ⟨k, rfl⟩ := Int.eq_ofNat_of_zero_le h0
  rw [atI_cast]
  have h : k < xs.length := by omega
  exact ⟨xs[k], List.getElem?_eq_getElem h, List.getElem_mem h⟩
/-- a pair of small numbers -/
def numD (d : D) : Prop := ∃ a b : Int, d = .tup [.int a, .int b] ∧ a.natAbs < 64 ∧ b.natAbs < 64 ∧ 0 < b ∧ Nat.gcd a.natAbs b.natAbs = 1 ∧ b ∣ 12
theorem low_frac {i j : Int} (hj : 0 < j) : 0 < j / ((Nat.gcd i.natAbs j.natAbs : Nat) : Int) ∧ Nat.gcd (i / ((Nat.gcd i.natAbs j.natAbs : Nat) : Int)).natAbs (j / ((Nat.gcd i.natAbs j.natAbs : Nat) : Int)).natAbs = 1 := by
  have g0 : 0 < Int.gcd i j := Int.gcd_pos_of_ne_zero_right _ (by omega)
  exact ⟨Int.ediv_pos_of_pos_of_dvd hj (by omega) (Int.gcd_dvd_right ..), Int.gcd_ediv_gcd_ediv_gcd g0⟩
theorem numD_frac {d : D} (h : numD d) : fracB d = true := by
  obtain ⟨a, b, rfl, _, _, h1, h2, _⟩ := h
  simp [fracB, h1, h2]
theorem dvd_small {i j : Int} (h0 : 2 ≤ j) (h1 : j ≤ 4) : j / ((Nat.gcd i.natAbs j.natAbs : Nat) : Int) ∣ 12 := by
  have h : j ∣ 12 := by
    have : j = 2 ∨ j = 3 ∨ j = 4 := by omega
    rcases this with rfl | rfl | rfl <;> decide
  have g : ((Nat.gcd i.natAbs j.natAbs : Nat) : Int) ∣ j := Int.gcd_dvd_right ..
  exact Int.dvd_trans ⟨_, (Int.ediv_mul_cancel g).symm⟩ h
theorem div_small {a : Int} {g b : Nat} (h : a.natAbs < b) : (a / (g : Int)).natAbs < b := Nat.lt_of_le_of_lt (Int.natAbs_ediv_le_natAbs _ _) h
/-- drawn: a value with P, the well at n another -/
structure Dw (n : Nat) (S : Sto) (t : Nat) (P : D → Prop) (x : Val) (S' : Sto) : Prop where
  ex : ∃ d c', x = .d d ∧ P d ∧ S' = S.set n c' ∧ WOk t c'
def rowD (z : Nat) (d : D) : Prop := ∃ ds, d = .tup ds ∧ ds.length = z ∧ ∀ x ∈ ds, numD x
section
variable {n t : Nat} {S : Sto} {c : Cell}
theorem lt_of (hc : S[n]? = some c) : n < S.length := (List.getElem?_eq_some_iff.mp hc).1
theorem set_at (hc : S[n]? = some c) (d : Cell) : (S.set n d)[n]? = some d := List.getElem?_set_self (lt_of hc)
theorem set_same (hc : S[n]? = some c) : S.set n c = S := by
  apply List.ext_getElem?
  intro m
  by_cases hm : n = m
  · subst hm; rw [set_at hc, hc]
  · rw [List.getElem?_set_ne hm]
/-! a cell behind -/
theorem push_at {T : Sto} {L : Nat} (h : T.length = L) (d : Cell) : (T ++ [d])[L]? = some d := by subst h; simp
theorem push_in {T : Sto} {L m : Nat} (h : T.length = L) (hm : m < L) (d : Cell) : (T ++ [d])[m]? = T[m]? := List.getElem?_append_left (by omega)
theorem push_set {T : Sto} {L m : Nat} (h : T.length = L) (hm : m < L) (d e : Cell) : (T ++ [d]).set m e = T.set m e ++ [d] := by
  subst h; rw [List.set_append_left _ _ hm]
theorem push_put {T : Sto} {L : Nat} (h : T.length = L) (d e : Cell) : (T ++ [d]).set L e = T ++ [e] := by
  subst h; simp
theorem push_take {T : Sto} {L : Nat} (h : T.length = L) (R : Sto) : (T ++ R).take L = T := by
  subst h; simp
theorem cell_nil (env : Dn.Env) (S : Sto) : dCall oCell dNil env S = .ok (.r S.length) (S ++ [.lst []]) := (mkC_some [] S).trans (if_pos (show ([] : List D).length ≤ szL from Nat.zero_le _))
theorem asg_cell (i : Nat) (env : Dn.Env) (S : Sto) : dAsg (dCall oCell dNil) (dgName i) env S = .ok (.nx (env.set i (some (.r S.length)))) (S ++ [.lst []]) := by
  rw [dAsg_eq, cell_nil]
  rfl
theorem iRng1_sm {j : Int} (h : smallI j = true) (S : Sto) : iRng1 [.d (.int j)] S = .ok ⟨rngD 0 j.toNat, []⟩ S := by rw [iRng1_eq, h]; simp
end
end Law
set_option Elab.async false
set_option linter.all false
set_option maxRecDepth 100000
set_option maxHeartbeats 1000000
namespace Law
open PySem PySem.Spec PyProof.Rows L2 GxR Gx Dn
/-- ints below 2^b and tuples not longer than l, not deeper than h -/
def pD (b l : Nat) : Nat → D → Prop
  | 0, d => ∃ i : Int, d = .int i ∧ i.natAbs < 2 ^ b
  | h + 1, d => (∃ i : Int, d = .int i ∧ i.natAbs < 2 ^ b) ∨ ∃ ds, d = .tup ds ∧ ds.length ≤ l ∧ ∀ x ∈ ds, pD b l h x
theorem pD_int {b l : Nat} {i : Int} (hi : i.natAbs < 2 ^ b) : ∀ h, pD b l h (.int i)
  | 0 => ⟨i, rfl, hi⟩
  | h + 1 => .inl ⟨i, rfl, hi⟩
theorem pD_tup {b l h : Nat} {ds : List D} (hl : ds.length ≤ l) (hd : ∀ x ∈ ds, pD b l h x) : pD b l (h + 1) (.tup ds) := .inr ⟨ds, rfl, hl, hd⟩
theorem pD_up {b l : Nat} : ∀ {h : Nat} {d : D}, pD b l h d → pD b l (h + 1) d
  | 0, d, h => .inl h
  | h + 1, d, .inl e => .inl e
  | h + 1, d, .inr ⟨ds, e, hl, hx⟩ => .inr ⟨ds, e, hl, fun x m => pD_up (hx x m)⟩
theorem pD_le {b l h : Nat} {d : D} (p : pD b l h d) : ∀ k, pD b l (h + k) d
  | 0 => p
  | k + 1 => pD_up (pD_le p k)
theorem pD_wide {b l b' l' : Nat} (hb : b ≤ b') (hl : l ≤ l') : ∀ {h : Nat} {d : D}, pD b l h d → pD b' l' h d
  | 0, d, ⟨i, e, h⟩ => ⟨i, e, Nat.lt_of_lt_of_le h (Nat.pow_le_pow_right (by decide) hb)⟩
  | h + 1, d, .inl ⟨i, e, h'⟩ => .inl ⟨i, e, Nat.lt_of_lt_of_le h' (Nat.pow_le_pow_right (by decide) hb)⟩
  | h + 1, d, .inr ⟨ds, e, hl', hx⟩ => .inr ⟨ds, e, Nat.le_trans hl' hl, fun x m => pD_wide hb hl (hx x m)⟩
theorem pD_gD {b l : Nat} : ∀ {h : Nat} {d : D}, pD b l h d → gD b l d = true
  | 0, d, ⟨i, e, h⟩ => by subst e; simpa [gD] using h
  | h + 1, d, .inl ⟨i, e, h'⟩ => by subst e; simpa [gD] using h'
  | h + 1, d, .inr ⟨ds, e, hl, hx⟩ => by
    subst e
    simp only [gD, Bool.and_eq_true, decide_eq_true_eq]
    exact ⟨hl, gDs_all.mpr fun x m => pD_gD (hx x m)⟩
theorem pys_of {Q : PyData → Prop} : ∀ {ds : List D}, (∀ x ∈ ds, ∃ p, x.py = some p ∧ Q p) → ∃ ps, pys ds = some ps ∧ ps.length = ds.length ∧ ∀ p ∈ ps, Q p
  | [], _ => ⟨[], rfl, rfl, by simp⟩
  | d :: ds, h => by
    obtain ⟨p, e, q⟩ := h d List.mem_cons_self
    obtain ⟨ps, e2, l2, q2⟩ := pys_of fun x m => h x (List.mem_cons_of_mem _ m)
    refine ⟨p :: ps, by simp [pys, e, e2], by simp [l2], ?_⟩
    intro x hx
    simp at hx
    rcases hx with rfl | hx
    · exact q
    · exact q2 x hx
theorem can_all : ∀ {ps : List PyData}, (∀ p ∈ ps, p.canLay0 = true) → PyData.canLayAll0 ps = true
  | [], _ => by simp [PyData.canLayAll0]
  | p :: ps, h => by simp [PyData.canLayAll0, h p List.mem_cons_self, can_all fun x m => h x (List.mem_cons_of_mem _ m)]
theorem depth_all {k : Nat} : ∀ {ps : List PyData}, (∀ p ∈ ps, p.depth ≤ k) → PyData.depthAll ps ≤ k
  | [], _ => by simp [PyData.depthAll]
  | p :: ps, h => by
    have := h p List.mem_cons_self
    have := depth_all fun x m => h x (List.mem_cons_of_mem _ m)
    simp only [PyData.depthAll]
    omega
theorem pD_py {b l : Nat} : ∀ {h : Nat} {d : D}, pD b l h d → ∃ p, d.py = some p ∧ p.canLay0 = true ∧ p.depth ≤ h
  | 0, d, ⟨i, e, h⟩ => by subst e; exact ⟨.int i, by simp [D.py], by simp [PyData.canLay0], by simp [PyData.depth]⟩
  | h + 1, d, .inl ⟨i, e, h'⟩ => by subst e; exact ⟨.int i, by simp [D.py], by simp [PyData.canLay0], by simp [PyData.depth]⟩
  | h + 1, d, .inr ⟨ds, e, hl, hx⟩ => by
    subst e
    obtain ⟨ps, e2, l2, q⟩ := pys_of (Q := fun p => p.canLay0 = true ∧ p.depth ≤ h) fun x m => pD_py (hx x m)
    refine ⟨.tuple ps, by simp [D.py, e2], by simpa [PyData.canLay0] using can_all fun p m => (q p m).1, ?_⟩
    have := depth_all fun p m => (q p m).2
    simp only [PyData.depth]
    omega
theorem eqv_nil_t (ps : List PyData) : PyData.eqv (.tuple ps) (.tuple []) = decide (ps = []) := by cases ps <;> simp [PyData.eqv, PyData.eqvAll]
theorem eqv_nil_l (ps : List PyData) : PyData.eqv (.list ps) (.list []) = decide (ps = []) := by cases ps <;> simp [PyData.eqv, PyData.eqvAll]
/-- a tuple beside () -/
theorem ne_nil {neg : Bool} {b l h : Nat} {ds : List D} (hx : ∀ x ∈ ds, pD b l h x) (hh : h ≤ 60) (S : Sto) : oEqB neg (.d (.tup ds)) (.d (.tup [])) S = .ok (.d (.bl (xor neg (decide (ds = []))))) S := by
  obtain ⟨ps, e2, l2, q⟩ := pys_of (Q := fun p => p.canLay0 = true ∧ p.depth ≤ h) fun x m => pD_py (hx x m)
  have c := can_all fun p m => (q p m).1
  have dd := depth_all fun p m => (q p m).2
  have s1 : SeqAt.shaped (.tuple ps) = true := by simp [SeqAt.shaped, PyData.canLay0, c, PyData.depth]; omega
  have s2 : SeqAt.shaped (.tuple []) = true := by decide
  have en : (ps = []) = (ds = []) := propext (by rw [← List.length_eq_zero_iff, ← List.length_eq_zero_iff (l := ds), l2])
  simp only [oEqB, pyV, D.py, e2, pys, Option.map_some, s1, s2, Bool.and_self, if_true, eqv_nil_t, en]
/-- a place beside [] -/
theorem ne_cell {neg : Bool} {b l h L : Nat} {ds : List D} {S : Sto} (hL : S[L]? = some (.lst ds)) (hx : ∀ x ∈ ds, pD b l h x) (hh : h ≤ 60) : oEqB neg (.r L) (.d (.lst [])) S = .ok (.d (.bl (xor neg (decide (ds = []))))) S := by
  obtain ⟨ps, e2, l2, q⟩ := pys_of (Q := fun p => p.canLay0 = true ∧ p.depth ≤ h) fun x m => pD_py (hx x m)
  have c := can_all fun p m => (q p m).1
  have dd := depth_all fun p m => (q p m).2
  have s1 : SeqAt.shaped (.list ps) = true := by simp [SeqAt.shaped, PyData.canLay0, c, PyData.depth]; omega
  have s2 : SeqAt.shaped (.list []) = true := by decide
  have en : (ps = []) = (ds = []) := propext (by rw [← List.length_eq_zero_iff, ← List.length_eq_zero_iff (l := ds), l2])
  simp only [oEqB, pyV, hL, D.py, e2, pys, Option.map_some, s1, s2, Bool.and_self, if_true, eqv_nil_l, en]
theorem numD_pD {d : D} (h : numD d) : pD 8 102 1 d := by
  obtain ⟨a, b, rfl, ha, hb, _⟩ := h
  refine pD_tup (by simp) fun x hx => ?_
  simp at hx
  rcases hx with rfl | rfl
  · exact pD_int (by omega) 0
  · exact pD_int (by omega) 0
theorem rowD_pD {z : Nat} {d : D} (h : rowD z d) (hz : z ≤ 102) : pD 8 102 2 d := by
  obtain ⟨ds, rfl, hl, hx⟩ := h
  exact pD_tup (by omega) fun x m => numD_pD (hx x m)
def wishD (z : Nat) (d : D) : Prop := ∃ r f, d = .tup [r, f] ∧ rowD z r ∧ numD f
theorem wishD_pD {z : Nat} {d : D} (h : wishD z d) (hz : z ≤ 102) : pD 8 102 3 d := by
  obtain ⟨r, f, rfl, hr, hf⟩ := h
  refine pD_tup (by simp) fun x hx => ?_
  simp at hx
  rcases hx with rfl | rfl
  · exact rowD_pD hr hz
  · exact pD_up (numD_pD hf)
def lotD (z m : Nat) (d : D) : Prop := ∃ ws, d = .tup [.int z, .tup ws] ∧ ws.length ≤ m ∧ ∀ x ∈ ws, wishD z x
theorem lotD_pD {z m : Nat} {d : D} (h : lotD z m d) (hz : z ≤ 102) (hm : m ≤ 102) : pD 8 102 5 d := by
  obtain ⟨ws, rfl, hl, hx⟩ := h
  refine pD_tup (by simp) fun x hx' => ?_
  simp at hx'
  rcases hx' with rfl | rfl
  · exact pD_int (by simp; omega) 4
  · exact pD_tup (by omega) fun x m => wishD_pD (hx x m) hz
theorem rowD_row {z : Nat} {d : D} (h : rowD z d) : rowB z d = true := by
  obtain ⟨ds, rfl, hl, hx⟩ := h
  simp only [rowB, Bool.and_eq_true, decide_eq_true_eq, List.all_eq_true]
  exact ⟨by omega, fun x m => numD_frac (hx x m)⟩
theorem wishD_wish {z : Nat} {d : D} (h : wishD z d) : wishB z d = true := by
  obtain ⟨r, f, rfl, hr, hf⟩ := h
  simp [wishB, rowD_row hr, numD_frac hf]
theorem lotD_lot {z m : Nat} {d : D} {k : Int} (h : lotD z m d) (h0 : 1 ≤ z) (h1 : z ≤ 12) (hk : (m : Int) ≤ k) : lotB k d = true := by
  obtain ⟨ws, rfl, hl, hx⟩ := h
  simp only [lotB, Bool.and_eq_true, decide_eq_true_eq, List.all_eq_true]
  exact ⟨⟨⟨by omega, by omega⟩, by omega⟩, fun x m => wishD_wish (hx x m)⟩
section
variable {n t : Nat} {S : Sto} {c : Cell}
end
end Law
set_option Elab.async false
set_option linter.all false
set_option maxRecDepth 100000
set_option maxHeartbeats 2000000
namespace Law
open PySem PySem.Spec PyProof.Rows L2 GxR Gx Dn
theorem ok_lc2 {it : DIf} {g : DGf} {te : DEf} {vs : List Nat} {env : Dn.Env} {S S1 : Sto} {ds : List D} {f : D → D} {Q : Val → Sto → Prop} (hi : it env S = .ok ⟨ds, []⟩ S1) (hl : ds.length ≤ szL)
    (hf : ∀ d ∈ ds, ∀ c, Ok (g (.d d) (wipeE env vs) (S1 ++ [c])) fun env1 S2 => Ok (te env1 S2) fun z S3 => z = .d (f d) ∧ S3 = S1 ++ [c]) (q : Q (.d (.lst (ds.map f))) S1) : Ok (dLc it g dYes te vs env S) Q := by
  have e : dLc it g dYes te vs env S = dLc (fun _ T => .ok ⟨ds, []⟩ T) g dYes te vs env S1 := by
    unfold dLc
    rw [hi]
  rw [e]
  exact ok_lc (by rfl) hl hf q
theorem rng_mem {z : Nat} {d : D} (h : d ∈ rngD 0 z) : ∃ i : Int, d = .int i ∧ 0 ≤ i ∧ i < z := by
  simp [rngD] at h
  obtain ⟨i, hi, rfl⟩ := h
  exact ⟨_, rfl, by omega, by omega⟩
@[simp] theorem rng_len {z : Nat} : (rngD 0 z).length = z := by simp [rngD]
theorem sm_of {i : Int} (h0 : 0 ≤ i) (h : i < 1000000) : smallI i = true := by unfold smallI; simp; omega
section
variable {n t : Nat} {S : Sto} {c : Cell}
def unitF (way spot : Int) (d : D) : D := match d with
  | .int i => if i = spot then .tup [.int (1 - 2 * way), .int 1] else .tup [.int 0, .int 1]
  | _ => .non
def backF (d : D) : D := match d with
  | .tup [.int a, .int b] => .tup [.int (0 - a), .int b]
  | _ => .non
end
end Law
set_option Elab.async false
set_option linter.all false
set_option maxRecDepth 100000
set_option maxHeartbeats 2000000
namespace Law
open PySem PySem.Spec PyProof.Rows L2 GxR Gx Dn
theorem cutL_mem {α : Type} {xs : List α} {lo hi : Option Int} {x : α} (h : x ∈ cutL xs lo hi) : x ∈ xs := List.mem_of_mem_drop (List.mem_of_mem_take h)
theorem cutL_len {α : Type} {xs : List α} {lo hi : Option Int} : (cutL xs lo hi).length ≤ xs.length := by
  unfold cutL
  simp
  omega
theorem pow_up {b : Nat} : 2 ^ (b + 1) = 2 * 2 ^ b := by rw [Nat.pow_succ, Nat.mul_comm]
end Law
set_option Elab.async false
set_option linter.all false
set_option maxRecDepth 100000
set_option maxHeartbeats 2000000
namespace Law
open PySem PySem.Spec PyProof.Rows L2 GxR Gx Dn
/-! fractions -/
def dq (q : Rat) : D := .tup [.int q.num, .int (q.den : Int)]
structure qb (k : Nat) (q : Rat) : Prop where
  n : q.num.natAbs < 2 ^ k
  d : q.den < 2 ^ k
theorem qb_pos {k : Nat} {q : Rat} (h : qb k q) : 0 < k := by
  cases k with
  | zero => have := h.d; have := q.den_pos; omega
  | succ k => omega
theorem qb_mono {k l : Nat} {q : Rat} (h : qb k q) (hl : k ≤ l) : qb l q :=
  ⟨Nat.lt_of_lt_of_le h.n (Nat.pow_le_pow_right (by decide) hl), Nat.lt_of_lt_of_le h.d (Nat.pow_le_pow_right (by decide) hl)⟩
theorem dq_divInt {i j : Int} (hj : 0 < j) : D.tup [.int (i / (Nat.gcd i.natAbs j.natAbs : Nat)), .int (j / (Nat.gcd i.natAbs j.natAbs : Nat))] = dq (Rat.divInt i j) := by
  have hs : j.sign = 1 := Int.sign_eq_one_of_pos hj
  have g : j.gcd i = Nat.gcd i.natAbs j.natAbs := Nat.gcd_comm ..
  have e1 : (Rat.divInt i j).num = i / (Nat.gcd i.natAbs j.natAbs : Nat) := by rw [Rat.num_divInt, hs, g, Int.one_mul]
  have e2 : ((Rat.divInt i j).den : Int) = j / (Nat.gcd i.natAbs j.natAbs : Nat) := by
    rw [Rat.den_divInt, if_neg (by omega), g]
    have : (j.natAbs : Int) = j := by omega
    rw [Int.natCast_ediv, this]
  unfold dq
  rw [e1, e2]
theorem qb_divInt {i j : Int} {k : Nat} (hj : 0 < j) (h1 : i.natAbs < 2 ^ k) (h2 : j.natAbs < 2 ^ k) : qb k (Rat.divInt i j) := by
  refine ⟨?_, ?_⟩
  · rw [Rat.num_divInt, Int.sign_eq_one_of_pos hj, Int.one_mul]
    exact div_small h1
  · rw [Rat.den_divInt, if_neg (by omega)]
    exact Nat.lt_of_le_of_lt (Nat.div_le_self _ _) h2
theorem add_divInt (p q : Rat) : p + q = Rat.divInt (p.num * q.den + q.num * p.den) ((p.den : Int) * (q.den : Int)) := by
  rw [Rat.add_def', ← Rat.divInt_ofNat, Int.natCast_mul]
theorem mul_divInt (p q : Rat) : p * q = Rat.divInt (p.num * q.num) ((p.den : Int) * (q.den : Int)) := by
  rw [Rat.mul_def', ← Rat.divInt_ofNat, Int.natCast_mul]
theorem natAbs_mul_lt {a b : Int} {k l : Nat} (ha : a.natAbs < 2 ^ k) (hb : b.natAbs < 2 ^ l) : (a * b).natAbs < 2 ^ (k + l) := by
  rw [Int.natAbs_mul, Nat.pow_add]
  exact Nat.mul_lt_mul'' ha hb
theorem natAbs_add_lt {a b : Int} {k : Nat} (ha : a.natAbs < 2 ^ k) (hb : b.natAbs < 2 ^ k) : (a + b).natAbs < 2 ^ (k + 1) := by
  rw [Nat.pow_succ]; omega
theorem den_lt {q : Rat} {k : Nat} (h : qb k q) : ((q.den : Int)).natAbs < 2 ^ k := by simpa using h.d
theorem den0 (q : Rat) : 0 < (q.den : Int) := by have := q.den_pos; omega
theorem pow_le {a b : Nat} (h : a ≤ b) : 2 ^ a ≤ 2 ^ b := Nat.pow_le_pow_right (by decide) h
theorem lt_up {x a b : Nat} (h : x < 2 ^ a) (hl : a ≤ b) : x < 2 ^ b := Nat.lt_of_lt_of_le h (pow_le hl)
theorem qb_add {p q : Rat} {a b : Nat} (hp : qb a p) (hq : qb b q) : qb (a + b + 1) (p + q) := by
  rw [add_divInt]
  refine qb_divInt (Int.mul_pos (den0 p) (den0 q)) (natAbs_add_lt (natAbs_mul_lt hp.n (den_lt hq)) ?_) (lt_up (natAbs_mul_lt (den_lt hp) (den_lt hq)) (by omega))
  rw [Nat.add_comm a b]
  exact natAbs_mul_lt hq.n (den_lt hp)
theorem qb_mul {p q : Rat} {a b : Nat} (hp : qb a p) (hq : qb b q) : qb (a + b) (p * q) := by
  rw [mul_divInt]
  exact qb_divInt (Int.mul_pos (den0 p) (den0 q)) (natAbs_mul_lt hp.n hq.n) (natAbs_mul_lt (den_lt hp) (den_lt hq))
theorem qb_neg {p : Rat} {a : Nat} (hp : qb a p) : qb a (-p) := ⟨by simpa using hp.n, by simpa using hp.d⟩
theorem qb_zero : qb 1 (0 : Rat) := ⟨by decide, by decide⟩
theorem dq_frac (q : Rat) : fracB (dq q) = true := by
  have := q.reduced
  have h := den0 q
  simp [dq, fracB]
  exact ⟨q.den_pos, this⟩
theorem frac_dq {d : D} (h : fracB d = true) : ∃ q : Rat, d = dq q := by
  unfold fracB at h
  split at h
  · rename_i a b
    simp at h
    obtain ⟨k, rfl⟩ := Int.eq_ofNat_of_zero_le (Int.le_of_lt h.1)
    exact ⟨⟨a, k, by omega, by simpa using h.2⟩, rfl⟩
  · cases h
theorem numD_dq {d : D} (h : numD d) : ∃ q : Rat, d = dq q ∧ qb 6 q := by
  obtain ⟨a, b, rfl, ha, hb, h0, hg⟩ := h
  obtain ⟨k, rfl⟩ := Int.eq_ofNat_of_zero_le (Int.le_of_lt h0)
  exact ⟨⟨a, k, by omega, by simpa using hg.1⟩, rfl, by simpa using ha, by simpa using hb⟩
theorem dq_inj {p q : Rat} (h : dq p = dq q) : p = q := by
  unfold dq at h
  simp at h
  exact Rat.ext h.1 (by omega)
/-! the law's sums -/
theorem cM {i j : Int} {a b : Nat} (hi : i.natAbs < 2 ^ a) (hj : j.natAbs < 2 ^ b) (h : a + b ≤ 999990) : cMul i j = true :=
  cMul_of (a + 1) (b + 1) (by omega) (by omega) (lt_up hi (by omega)) (lt_up hj (by omega)) (by omega)
theorem upto_eq {p q : Rat} {a b : Nat} (S : Sto) (hp : qb a p) (hq : qb b q) (h : a + b ≤ 8000) : m__law_up_to [.d (dq p), .d (dq q)] S = .ok (.d (.bl (decide (p ≤ q)))) S := by
  refine ok_eq ?_
  unfold m__law_up_to
  refine ok_fn ?_
  unfold b__law_up_to
  have c1 := cM hp.n (den_lt hq) (by omega)
  have c2 := cM hq.n (den_lt hp) (by omega)
  simp [dq, c1, c2, Rat.le_iff]
def dotQ (l : List (Rat × Rat)) : Rat := l.foldl (fun a x => a + x.1 * x.2) 0
theorem dotQ_take {l : List (Rat × Rat)} {k : Nat} {x : Rat × Rat} (h : l[k]? = some x) : dotQ (l.take (k + 1)) = dotQ (l.take k) + x.1 * x.2 := by
  unfold dotQ
  rw [List.take_add_one, h, List.foldl_append]
  rfl
/-- the pairs of two rows, as zip tells them -/
def zipD (l : List (Rat × Rat)) : List D := l.map fun x => .tup [dq x.1, dq x.2]
theorem zip_eq (ps qs : List Rat) : ((ps.map dq).zip (qs.map dq)).map (fun p => D.tup [p.1, p.2]) = zipD (ps.zip qs) := by
  unfold zipD
  rw [List.zip_map, List.map_map]
  rfl
/-- what two rows are -/
inductive rows2 : D → D → List Rat → List Rat → Prop where
  | tt (ps qs : List Rat) : rows2 (.tup (ps.map dq)) (.tup (qs.map dq)) ps qs
  | ll (ps qs : List Rat) : rows2 (.lst (ps.map dq)) (.lst (qs.map dq)) ps qs
  | tl (ps qs : List Rat) : rows2 (.tup (ps.map dq)) (.lst (qs.map dq)) ps qs
theorem iZip_eq {x y : D} {ps qs : List Rat} (h : rows2 x y ps qs) (S : Sto) : Dn.iMx [.d x, .d y] S = .ok ⟨zipD (ps.zip qs), []⟩ S := by
  cases h <;> simp only [Dn.iMx, seqK, seqT, seqL, wtV, List.append_nil] <;> rw [zip_eq]
@[simp] theorem diMx_eq (As : DAf) (env : Dn.Env) (S : Sto) : diMx As env S = (As env S).bind fun xs S1 => Dn.iMx xs S1 := (rfl)
theorem dot_bound {l : List (Rat × Rat)} {k : Nat} (h : ∀ x ∈ l, qb k x.1 ∧ qb k x.2) : ∀ j, qb (1 + (2 * k + 2) * j) (dotQ (l.take j))
  | 0 => by simpa [dotQ] using qb_zero
  | j + 1 => by
    have ih := dot_bound h j
    cases e : l[j]? with
    | none =>
      have hl : l.length ≤ j := List.getElem?_eq_none_iff.mp e
      rw [List.take_of_length_le (by omega)]
      rw [List.take_of_length_le hl] at ih
      exact qb_mono ih (by rw [Nat.mul_add]; omega)
    | some x =>
      rw [dotQ_take e]
      have hx := h x (List.mem_of_getElem? e)
      exact qb_mono (qb_add ih (qb_mul hx.1 hx.2)) (by rw [Nat.mul_add]; omega)
/-! the program's sums -/
theorem fraction_eq {i j : Int} {b : Nat} (S : Sto) (hj : 0 < j) (hb : 0 < b) (hjb : j.natAbs < 2 ^ b) (h9 : b ≤ 9000) : m_fraction [.d (.int i), .d (.int j)] S = .ok (.d (dq (Rat.divInt i j))) S := by
  refine ok_eq ?_
  unfold m_fraction
  refine ok_fn ?_
  unfold b_fraction
  rw [← dq_divInt hj]
  generalize eg : Nat.gcd i.natAbs j.natAbs = g
  have g0 : 0 < g := by rw [← eg]; exact Nat.gcd_pos_of_pos_right _ (by omega)
  have gj : g ≤ j.natAbs := by rw [← eg]; exact Nat.gcd_le_right _ (by omega)
  have cg : ∀ x : Int, cDiv x g = true := fun x => cDiv_of (b := b) (by omega) hb (by simpa using Nat.lt_of_le_of_lt gj hjb) h9
  simp [eg, cg, div_pos (show (0 : Int) < (g : Int) by omega), szL]
theorem total_eq {p q : Rat} {a b : Nat} (S : Sto) (hp : qb a p) (hq : qb b q) (h : a + b ≤ 8000) : m_total [.d (dq p), .d (dq q)] S = .ok (.d (dq (p + q))) S := by
  refine ok_eq ?_
  unfold m_total
  refine ok_fn ?_
  unfold b_total
  have c1 := cM hp.n (den_lt hq) (by omega)
  have c2 := cM hq.n (den_lt hp) (by omega)
  have c3 := cM (den_lt hp) (den_lt hq) (by omega)
  simp [dq, c1, c2, c3]
  rw [fraction_eq (b := a + b + 1) S (Int.mul_pos (den0 p) (den0 q)) (by omega) (lt_up (natAbs_mul_lt (den_lt hp) (den_lt hq)) (by omega)) (by omega), ← add_divInt]
  simp [dq]
theorem is_up_to_eq {p q : Rat} {a b : Nat} (S : Sto) (hp : qb a p) (hq : qb b q) (h : a + b ≤ 8000) : m_is_up_to [.d (dq p), .d (dq q)] S = .ok (.d (.bl (decide (p ≤ q)))) S := by
  refine ok_eq ?_
  unfold m_is_up_to
  refine ok_fn ?_
  unfold b_is_up_to
  have c1 := cM hp.n (den_lt hq) (by omega)
  have c2 := cM hq.n (den_lt hp) (by omega)
  simp [dq, c1, c2, Rat.le_iff]
theorem step_div {t b f s u l : Int} (hb : 0 < b) (hu : 0 < u) (hl : 0 < l) : Rat.divInt (t * (u * l) + f * s * b) (b * (u * l)) = Rat.divInt t b + Rat.divInt f u * Rat.divInt s l := by
  have h1 : b ≠ 0 := by omega
  have h2 : u * l ≠ 0 := by have := Int.mul_pos hu hl; omega
  rw [Rat.divInt_mul_divInt, Rat.divInt_add_divInt _ _ h1 h2]
theorem product_of_eq {x y : D} {ps qs : List Rat} {k : Nat} (S : Sto) (h : rows2 x y ps qs) (hb : ∀ z ∈ ps.zip qs, qb k z.1 ∧ qb k z.2) (hl : (2 * k + 2) * (ps.zip qs).length ≤ 3000) (hk : k ≤ 1000) : m_product_of [.d x, .d y] S = .ok (.d (dq (dotQ (ps.zip qs)))) S := by
  refine ok_eq ?_
  unfold m_product_of
  refine ok_fn ?_
  unfold b_product_of
  simp [szL, iZip_eq h]
  obtain ⟨I, hI⟩ : ∃ I : Nat → Dn.Env → Sto → Prop, ∀ j env S', I j env S' ↔ ∃ (t b : Int) (e4 e5 e6 e7 e8 : Option Val), env = [some (.d x), some (.d y), some (.d (.int t)), some (.d (.int b)), e4, e5, e6, e7, e8] ∧ S' = S ∧ 0 < b ∧ Rat.divInt t b = dotQ ((ps.zip qs).take j) ∧
    t.natAbs < 2 ^ (1 + (2 * k + 2) * j) ∧ b.natAbs < 2 ^ (1 + (2 * k + 2) * j) := ⟨_, fun _ _ _ => Iff.rfl⟩
  refine ok_loop (I := I) ((hI _ _ _).mpr ⟨0, 1, _, _, _, _, _, rfl, rfl, by decide, by simp [dotQ], by simp, by simp⟩) (fun _ _ _ _ => wtOk_nil _) ?_ ?_
  · rintro j d env S' ed h'
    obtain ⟨t, b, e4, e5, e6, e7, e8, rfl, rfl, hb0, ht, b1, b2⟩ := (hI _ _ _).mp h'
    unfold zipD at ed
    rw [List.getElem?_map] at ed
    obtain ⟨z, ez, rfl⟩ := Option.map_eq_some_iff.mp ed
    have hz := hb z (List.mem_of_getElem? ez)
    have hj : j < (ps.zip qs).length := (List.getElem?_eq_some_iff.mp ez).1
    have hm : (2 * k + 2) * j ≤ 3000 := Nat.le_trans (Nat.mul_le_mul_left _ (Nat.le_of_lt hj)) hl
    have sh := natAbs_mul_lt (den_lt hz.1) (den_lt hz.2)
    have c1 := cM (den_lt hz.1) (den_lt hz.2) (by omega)
    have c2 := cM b1 sh (by omega)
    have c3 := cM hz.1.n hz.2.n (by omega)
    have c4 := cM (natAbs_mul_lt hz.1.n hz.2.n) b2 (by omega)
    have c5 := cM b2 sh (by omega)
    have e1 : (2 * k + 2) * (j + 1) = (2 * k + 2) * j + (2 * k + 2) := by rw [Nat.mul_add, Nat.mul_one]
    simp [dq]
    by_cases q1 : z.1 = 0
    · have v0 := q1
      simp [q1]
      refine (hI (j + 1) _ _).mpr ⟨t, b, _, _, _, _, _, rfl, rfl, hb0, ?_, lt_up b1 (by omega), lt_up b2 (by omega)⟩
      rw [dotQ_take ez, ht, v0, Rat.zero_mul, Rat.add_zero]
    · by_cases q2 : z.2 = 0
      · have v0 := q2
        simp [q1, q2]
        refine (hI (j + 1) _ _).mpr ⟨t, b, _, _, _, _, _, rfl, rfl, hb0, ?_, lt_up b1 (by omega), lt_up b2 (by omega)⟩
        rw [dotQ_take ez, ht, v0, Rat.mul_zero, Rat.add_zero]
      · simp [q1, q2, c1, c2, c3, c4, c5]
        refine (hI (j + 1) _ _).mpr ⟨_, _, _, _, _, _, _, rfl, rfl, Int.mul_pos hb0 (Int.mul_pos (den0 _) (den0 _)), ?_, ?_, ?_⟩
        · rw [step_div hb0 (den0 _) (den0 _), dotQ_take ez, ht, Rat.num_divInt_den, Rat.num_divInt_den]
        · refine lt_up (a := 1 + (2 * k + 2) * j + (k + k) + 1) (natAbs_add_lt (natAbs_mul_lt b1 sh) ?_) (by omega)
          exact lt_up (natAbs_mul_lt (natAbs_mul_lt hz.1.n hz.2.n) b2) (by omega)
        · exact lt_up (natAbs_mul_lt b2 sh) (by omega)
  · rintro env S' h'
    obtain ⟨t, b, e4, e5, e6, e7, e8, rfl, rfl, hb0, ht, b1, b2⟩ := (hI _ _ _).mp h'
    have e : (zipD (ps.zip qs)).length = (ps.zip qs).length := by simp [zipD]
    rw [e] at ht b1 b2
    rw [List.take_length] at ht
    simp
    rw [fraction_eq S' hb0 (by omega) b2 (by omega), ht]
    simp [dq]
end Law
set_option Elab.async false
set_option linter.all false
set_option maxRecDepth 100000
set_option maxHeartbeats 2000000
namespace Law
open PySem PySem.Spec PyProof.Rows L2 GxR Gx Dn
/-! what can be shown as a text: h deep, m long -/
structure shl (h m : Nat) (d : D) : Prop where
  ex : ∃ p, d.py = some p ∧ p.showable = true ∧ p.hasDict = false ∧ p.depth ≤ h ∧ p.shown.length ≤ m
theorem shl_int {i : Int} {k : Nat} (h : i.natAbs < 2 ^ k) (h0 : 0 < k) (hk : k ≤ 1900) : shl 0 (k + 1) (.int i) := by
  have hl := PySem.Flt.log2_lt_of h0 h
  refine ⟨.int i, by simp [D.py], by simp only [PyData.showable, decide_eq_true_eq]; omega, by simp only [PyData.hasDict], by simp [PyData.depth], ?_⟩
  have q := int_text_length_le h0 hl
  simp only [PyData.shown]
  rw [PySem.ofString_length]
  exact q
theorem shl_bl (b : Bool) : shl 0 5 (.bl b) := by
  refine ⟨.bool b, by simp [D.py], by simp only [PyData.showable], by simp only [PyData.hasDict], by simp [PyData.depth], ?_⟩
  cases b <;> decide +kernel
theorem shown_all : ∀ {ps : List PyData} {m : Nat}, (∀ p ∈ ps, p.shown.length ≤ m) → (PyData.shownAll ps).length = ps.length ∧ piled (PyData.shownAll ps) ≤ ps.length * (m + 2)
  | [], m, _ => by simp [PyData.shownAll, piled]
  | p :: ps, m, h => by
    obtain ⟨h1, h2⟩ := shown_all fun x hx => h x (List.mem_cons_of_mem _ hx)
    have := h p List.mem_cons_self
    refine ⟨by simp [PyData.shownAll, h1], ?_⟩
    simp only [PyData.shownAll, piled_cons, List.length_cons, Nat.add_mul, Nat.one_mul]
    omega
theorem show_all : ∀ {ps : List PyData}, (∀ p ∈ ps, p.showable = true ∧ p.hasDict = false) → PyData.showableAll ps = true ∧ PyData.hasDictAll ps = false
  | [], _ => by simp [PyData.showableAll, PyData.hasDictAll]
  | p :: ps, h => by
    obtain ⟨h1, h2⟩ := show_all fun x hx => h x (List.mem_cons_of_mem _ hx)
    have := h p List.mem_cons_self
    simp [PyData.showableAll, PyData.hasDictAll, h1, h2, this.1, this.2]
theorem shl_tup {h m : Nat} {ds : List D} (hx : ∀ x ∈ ds, shl h m x) : shl (h + 1) (ds.length * (m + 2) + 3) (.tup ds) := by
  obtain ⟨ps, e, el, q⟩ := pys_of (Q := fun p => p.showable = true ∧ p.hasDict = false ∧ p.depth ≤ h ∧ p.shown.length ≤ m) fun x hm => (hx x hm).ex
  obtain ⟨s1, s2⟩ := show_all fun p hp => ⟨(q p hp).1, (q p hp).2.1⟩
  obtain ⟨l1, l2⟩ := shown_all fun p hp => (q p hp).2.2.2
  have dd := depth_all fun p hp => (q p hp).2.2.1
  refine ⟨.tuple ps, by simp [D.py, e], by simpa only [PyData.showable] using s1, by simpa only [PyData.hasDict] using s2, by simp only [PyData.depth]; omega, ?_⟩
  simp only [PyData.shown, tupleText]
  rw [strLen_append, strLen_append]
  have e1 : ((if (PyData.shownAll ps).length == 1 then ",)" else ")" : String) : Str).length ≤ 2 := by split <;> decide
  have e2 : ("(" : Str).length = 1 := rfl
  have e3 : (Str.join ", " (PyData.shownAll ps)).length ≤ piled (PyData.shownAll ps) := by
    by_cases z : PyData.shownAll ps = []
    · rw [z]; decide
    · have := join_length_add _ z
      omega
  rw [el] at l2
  omega
theorem shl_up {h m h' m' : Nat} {d : D} (p : shl h m d) (hh : h ≤ h') (hm : m ≤ m') : shl h' m' d :=
  let ⟨⟨q, a, b, c, e, f⟩⟩ := p; ⟨q, a, b, c, Nat.le_trans e hh, Nat.le_trans f hm⟩
theorem shl_pair {h m : Nat} {x y : D} (hx : shl h m x) (hy : shl h m y) : shl (h + 1) (2 * (m + 2) + 3) (.tup [x, y]) :=
  shl_tup (ds := [x, y]) fun z hz => by
    simp at hz
    rcases hz with rfl | rfl
    · exact hx
    · exact hy
/-- what repr tells -/
theorem repr_of {h m : Nat} {d : D} (p : shl h m d) (hh : h ≤ 30) (hm : m ≤ szL) : ∃ s : Str, ∀ S, bRepr (.d d) S = .ok (.d (.str s)) S := by
  obtain ⟨q, a, b, c, e, f⟩ := p.ex
  refine ⟨q.shown, fun S => ?_⟩
  unfold bRepr
  simp only [pyV, a]
  rw [if_pos ⟨b, c, Nat.le_trans e hh, Nat.le_trans f hm⟩]
theorem repr_bl (a : Bool) (S : Sto) : bRepr (.d (.bl a)) S = .ok (.d (.str (PyData.bool a).shown)) S := by
  have h : (PyData.bool a).showable = true ∧ (PyData.bool a).hasDict = false ∧ (PyData.bool a).depth ≤ 30 ∧ (PyData.bool a).shown.length ≤ szL := by
    cases a <;> decide +kernel
  unfold bRepr
  simp only [pyV, D.py]
  rw [if_pos h]
end Law
set_option Elab.async false
set_option linter.all false
set_option maxRecDepth 100000
set_option maxHeartbeats 2000000
namespace Law
open PySem PySem.Spec PyProof.Rows L2 GxR Gx Dn
/-! lots of fractions -/
abbrev Wish := List Rat × Rat
def drow (xs : List Rat) : D := .tup (xs.map dq)
def dwish (w : Wish) : D := .tup [drow w.1, dq w.2]
def dlot (z : Nat) (ws : List Wish) : D := .tup [.int z, .tup (ws.map dwish)]
def inside (ws : List Wish) (xs : List Rat) : Bool := ws.all fun w => decide (dotQ (w.1.zip xs) ≤ w.2)
/-- each number below 2^k, each row of z -/
structure wb (z k : Nat) (w : Wish) : Prop where
  l : w.1.length = z
  r : ∀ q ∈ w.1, qb k q
  b : qb k w.2
theorem row_of {z k : Nat} {P : D → Prop} (hP : ∀ d, P d → ∃ q, d = dq q ∧ qb k q) : ∀ {ds : List D}, (∀ x ∈ ds, P x) → ∃ qs : List Rat, ds = qs.map dq ∧ ∀ q ∈ qs, qb k q
  | [], _ => ⟨[], rfl, by simp⟩
  | d :: ds, h => by
    obtain ⟨q, rfl, hq⟩ := hP d (h d List.mem_cons_self)
    obtain ⟨qs, rfl, hqs⟩ := row_of (z := z) hP fun x m => h x (List.mem_cons_of_mem _ m)
    refine ⟨q :: qs, rfl, fun x hx => ?_⟩
    simp at hx
    rcases hx with rfl | hx
    · exact hq
    · exact hqs x hx
theorem rowD_of {z : Nat} {d : D} (h : rowD z d) : ∃ qs : List Rat, d = drow qs ∧ qs.length = z ∧ ∀ q ∈ qs, qb 6 q := by
  obtain ⟨ds, rfl, hl, hx⟩ := h
  obtain ⟨qs, rfl, hq⟩ := row_of (z := z) (fun d hd => numD_dq hd) hx
  exact ⟨qs, rfl, by simpa using hl, hq⟩
theorem wishD_of {z : Nat} {d : D} (h : wishD z d) : ∃ w : Wish, d = dwish w ∧ wb z 6 w := by
  obtain ⟨r, f, rfl, hr, hf⟩ := h
  obtain ⟨qs, rfl, hl, hq⟩ := rowD_of hr
  obtain ⟨b, rfl, hb⟩ := numD_dq hf
  exact ⟨(qs, b), rfl, hl, hq, hb⟩
theorem wishes_of {z : Nat} : ∀ {ds : List D}, (∀ x ∈ ds, wishD z x) → ∃ ws : List Wish, ds = ws.map dwish ∧ ∀ w ∈ ws, wb z 6 w
  | [], _ => ⟨[], rfl, by simp⟩
  | d :: ds, h => by
    obtain ⟨w, rfl, hw⟩ := wishD_of (h d List.mem_cons_self)
    obtain ⟨ws, rfl, hws⟩ := wishes_of fun x m => h x (List.mem_cons_of_mem _ m)
    refine ⟨w :: ws, rfl, fun x hx => ?_⟩
    simp at hx
    rcases hx with rfl | hx
    · exact hw
    · exact hws x hx
theorem lotD_of {z m : Nat} {d : D} (h : lotD z m d) : ∃ ws : List Wish, d = dlot z ws ∧ ws.length ≤ m ∧ ∀ w ∈ ws, wb z 6 w := by
  obtain ⟨ds, rfl, hl, hx⟩ := h
  obtain ⟨ws, rfl, hw⟩ := wishes_of hx
  exact ⟨ws, rfl, by simpa using hl, hw⟩
theorem drow_row {z : Nat} {xs : List Rat} (h : xs.length = z) : rowB z (drow xs) = true := by
  simp only [drow, rowB, Bool.and_eq_true, decide_eq_true_eq, List.all_eq_true, List.length_map]
  refine ⟨by omega, fun x hx => ?_⟩
  obtain ⟨q, _, rfl⟩ := List.mem_map.mp hx
  exact dq_frac q
theorem dwish_wish {z k : Nat} {w : Wish} (h : wb z k w) : wishB z (dwish w) = true := by
  simp [dwish, wishB, drow_row h.l, dq_frac]
theorem dlot_lot {z k : Nat} {ws : List Wish} {m : Int} (h : ∀ w ∈ ws, wb z k w) (h0 : 1 ≤ z) (h1 : z ≤ 12) (hm : (ws.length : Int) ≤ m) : lotB m (dlot z ws) = true := by
  simp only [dlot, lotB, Bool.and_eq_true, decide_eq_true_eq, List.all_eq_true, List.length_map]
  refine ⟨⟨⟨by omega, by omega⟩, hm⟩, fun x hx => ?_⟩
  obtain ⟨w, hw, rfl⟩ := List.mem_map.mp hx
  exact dwish_wish (h w hw)
theorem qb_gD {k l : Nat} {q : Rat} (h : qb k q) (hl : 2 ≤ l) : gD k l (dq q) = true := by
  have := h.n
  have := h.d
  simp [dq, gD, gDs, hl]
  exact ⟨h.n, h.d⟩
theorem drow_gD {k l : Nat} {xs : List Rat} (h : ∀ q ∈ xs, qb k q) (hx : xs.length ≤ l) (hl : 2 ≤ l) : gD k l (drow xs) = true := by
  simp only [drow, gD, Bool.and_eq_true, decide_eq_true_eq, List.length_map]
  refine ⟨hx, gDs_all.mpr fun d hd => ?_⟩
  obtain ⟨q, hq, rfl⟩ := List.mem_map.mp hd
  exact qb_gD (h q hq) hl
theorem dwish_gD {z k l : Nat} {w : Wish} (h : wb z k w) (hz : z ≤ l) (hl : 2 ≤ l) : gD k l (dwish w) = true := by
  have a := drow_gD h.r (by rw [h.l]; exact hz) hl
  have b := qb_gD h.b hl
  simp [dwish, gD, gDs, hl, a, b]
theorem dlot_gD {z k l : Nat} {ws : List Wish} (h : ∀ w ∈ ws, wb z k w) (hz : z ≤ l) (hw : ws.length ≤ l) (hl : 2 ≤ l) (hk : z < 2 ^ k) : gD k l (dlot z ws) = true := by
  have a : gDs k l (ws.map dwish) = true := gDs_all.mpr fun d hd => by
    obtain ⟨w, hw, rfl⟩ := List.mem_map.mp hd
    exact dwish_gD (h w hw) hz hl
  simp [dlot, gD, gDs, hl, hw, hk, a]
theorem dq_shl {k : Nat} {q : Rat} (h : qb k q) (hk : k ≤ 1900) : shl 1 (2 * (k + 3) + 3) (dq q) :=
  shl_pair (m := k + 1) (shl_int h.n (qb_pos h) hk) (shl_int (den_lt h) (qb_pos h) hk)
theorem drow_shl {k z : Nat} {xs : List Rat} (h : ∀ q ∈ xs, qb k q) (hk : k ≤ 1900) (hz : xs.length = z) : shl 2 (z * (2 * (k + 3) + 5) + 3) (drow xs) := by
  have s := shl_tup (ds := xs.map dq) (h := 1) (m := 2 * (k + 3) + 3) fun d hd => by
    obtain ⟨q, hq, rfl⟩ := List.mem_map.mp hd
    exact dq_shl (h q hq) hk
  rw [List.length_map, hz] at s
  exact s
theorem dwish_shl {k z : Nat} {w : Wish} (h : wb z k w) (hk : k ≤ 100) (hz : z ≤ 12) : shl 3 6000 (dwish w) := by
  have h1 := drow_shl h.r (by omega) h.l
  have e : z * (2 * (k + 3) + 5) ≤ 12 * (2 * (k + 3) + 5) := Nat.mul_le_mul_right _ hz
  exact shl_up (shl_pair (m := 2700) (shl_up h1 (Nat.le_refl _) (by omega)) (shl_up (dq_shl h.b (by omega)) (by decide) (by omega))) (Nat.le_refl _) (by decide)
theorem dlot_shl {k z : Nat} {ws : List Wish} (h : ∀ w ∈ ws, wb z k w) (hk : k ≤ 100) (hz : z ≤ 12) (hw : ws.length ≤ 60) : shl 5 800000 (dlot z ws) := by
  have s := shl_tup (ds := ws.map dwish) (h := 3) (m := 6000) fun d hd => by
    obtain ⟨w, hw, rfl⟩ := List.mem_map.mp hd
    exact dwish_shl (h w hw) hk hz
  rw [List.length_map] at s
  have i : shl 0 11 (.int (z : Int)) := shl_int (k := 10) (by simp; omega) (by decide) (by decide)
  have e : ws.length * (6000 + 2) ≤ 60 * 6002 := Nat.mul_le_mul_right _ hw
  exact shl_up (shl_pair (h := 4) (m := 370000) (shl_up i (by decide) (by decide)) (shl_up s (by decide) (by omega))) (by decide) (by decide)
/-! the program's looks and sums on lots -/
@[simp] theorem diEnum_eq (As : DAf) (env : Dn.Env) (S : Sto) : diEnum As env S = (As env S).bind fun xs S1 => Dn.iEnum xs S1 := (rfl)
@[simp] theorem iEnum_tup (ds : List D) (S : Sto) : Dn.iEnum [.d (.tup ds)] S = .ok ⟨enD ds, []⟩ S := (rfl)
theorem enD_at {ds : List D} {i : Nat} {d : D} (h : (enD ds)[i]? = some d) : ∃ x, ds[i]? = some x ∧ d = .tup [.int i, x] := by
  unfold enD at h
  rw [List.getElem?_map] at h
  obtain ⟨p, hp, rfl⟩ := Option.map_eq_some_iff.mp h
  rw [List.getElem?_zip_eq_some] at hp
  have hi : i < ds.length := (List.getElem?_eq_some_iff.mp hp.2).1
  rw [rng_at hi] at hp
  exact ⟨p.2, hp.2, by cases p; simp at hp ⊢; exact hp.1.symm⟩
@[simp] theorem enD_len {ds : List D} : (enD ds).length = ds.length := by simp [enD, rngD]
theorem check_row_eq {xs : List Rat} {z : Nat} (S : Sto) {k : Nat} (h : ∀ q ∈ xs, qb k q) (hz : xs.length = z) : m_check_row [.d (.int z), .d (drow xs)] S = .ok (.d .non) S := by
  refine ok_eq ?_
  unfold m_check_row
  refine ok_fn ?_
  unfold b_check_row
  simp [drow, isi, hz]
  obtain ⟨I, hI⟩ : ∃ I : Nat → Dn.Env → Sto → Prop, ∀ j env S', I j env S' ↔ ∃ e2 e3, env = [some (.d (.int z)), some (.d (.tup (xs.map dq))), e2, e3] ∧ S' = S := ⟨_, fun _ _ _ => Iff.rfl⟩
  refine ok_loop (I := I) ((hI _ _ _).mpr ⟨none, none, rfl, rfl⟩) (fun _ _ _ _ => wtOk_nil _) ?_ ?_
  · rintro j d env S' ed h'
    obtain ⟨e2, e3, rfl, rfl⟩ := (hI _ _ _).mp h'
    obtain ⟨x, ex, rfl⟩ := enD_at ed
    obtain ⟨q, hq, rfl⟩ := List.mem_map.mp (List.mem_of_getElem? ex)
    simp [is_fraction_eq _ (qb_gD (h q hq) (Nat.le_refl 2)), dq_frac]
    exact (hI _ _ _).mpr ⟨_, _, rfl, rfl⟩
  · rintro env S' h'
    obtain ⟨e2, e3, rfl, rfl⟩ := (hI _ _ _).mp h'
    simp
theorem zip_qb {xs ys : List Rat} {k : Nat} (h : ∀ q ∈ xs, qb k q) (h' : ∀ q ∈ ys, qb k q) : ∀ z ∈ xs.zip ys, qb k z.1 ∧ qb k z.2 := fun z hz => by
  have := List.of_mem_zip (a := z.1) (b := z.2) (by simpa using hz)
  exact ⟨h _ this.1, h' _ this.2⟩
theorem zip_le {xs ys : List Rat} {z : Nat} (h : xs.length = z) : (xs.zip ys).length ≤ z := by simp; omega
theorem ok_allM {α : Type} {it : DIf} {g : DGf} {te : DEf} {vs : List Nat} {env : Dn.Env} {S : Sto} {e : α → D} {ws : List α} {f : α → Bool} {Q : Val → Sto → Prop} (hi : it env S = .ok ⟨ws.map e, []⟩ S)
    (hf : ∀ w ∈ ws, Ok (g (.d (e w)) (wipeE env vs) S) fun env1 S1 => Ok (te env1 S1) fun z S2 => z = .d (.bl (f w)) ∧ S2 = S) (q : Q (.d (.bl (ws.all f))) S) : Ok (dAllG it g te vs env S) Q := by
  have key : ∀ (es : List α), (∀ d ∈ es, d ∈ ws) → allLoop g te [] (wipeE env vs) (es.map e) S = .ok (.d (.bl (es.all f))) S := by
    intro es
    induction es with
    | nil => intro _; simp only [List.map_nil]; unfold allLoop; rw [if_pos (wtOk_nil _)]; rfl
    | cons d es ih =>
      intro hm
      simp only [List.map_cons]
      unfold allLoop
      rw [if_pos (wtOk_nil _)]
      obtain ⟨env1, S1, e1, z, S2, e2, rfl, rfl⟩ := hf d (hm d List.mem_cons_self)
      rw [e1]
      simp only [Out.bind_ok, e2]
      cases hb : f d with
      | true => simp only [List.all_cons, hb, Bool.true_and]; exact ih fun x hx => hm x (List.mem_cons_of_mem _ hx)
      | false => simp [hb]
  unfold dAllG
  rw [hi]
  simp only [Out.bind_ok]
  rw [key ws fun _ h => h]
  exact ok_ok.mpr q
theorem ok_lcM {α : Type} {it : DIf} {g : DGf} {te : DEf} {vs : List Nat} {env : Dn.Env} {S : Sto} {e : α → D} {ws : List α} {f : α → D} {Q : Val → Sto → Prop} (hi : it env S = .ok ⟨ws.map e, []⟩ S) (hl : ws.length ≤ szL)
    (hf : ∀ w ∈ ws, ∀ c, Ok (g (.d (e w)) (wipeE env vs) (S ++ [c])) fun env1 S1 => Ok (te env1 S1) fun z S2 => z = .d (f w) ∧ S2 = S ++ [c]) (q : Q (.d (.lst (ws.map f))) S) : Ok (dLc it g dYes te vs env S) Q := by
  have key : ∀ (es : List α) (acc : List D), (∀ d ∈ es, d ∈ ws) → acc.length + es.length ≤ szL → lcLoop g dYes te [] (wipeE env vs) S.length (es.map e) acc (S ++ [.lst acc]) = .ok (acc ++ es.map f) (S ++ [.lst (acc ++ es.map f)]) := by
    intro es
    induction es with
    | nil =>
      intro acc _ _
      simp only [List.map_nil]
      unfold lcLoop
      rw [if_pos ⟨wtOk_nil _, by simp⟩]
      simp
    | cons d es ih =>
      intro acc hm hz
      simp only [List.map_cons]
      unfold lcLoop
      rw [if_pos (wtOk_nil _)]
      obtain ⟨env1, S1, e1, z, S2, e2, rfl, rfl⟩ := hf d (hm d List.mem_cons_self) (.lst acc)
      rw [e1]
      simp only [Out.bind_ok, dYes, if_true, e2]
      rw [if_pos ⟨by simp at hz; omega, by simp⟩]
      have e3 : (S ++ [Cell.lst acc]).set S.length (.lst (acc ++ [f d])) = S ++ [.lst (acc ++ [f d])] := by simp
      rw [e3, ih (acc ++ [f d]) (fun x hx => hm x (List.mem_cons_of_mem _ hx)) (by simp at hz ⊢; omega)]
      simp
  unfold dLc
  rw [hi]
  simp only [Out.bind_ok]
  rw [key ws [] (fun _ h => h) (by simpa using hl)]
  simpa using q
end Law
set_option Elab.async false
set_option linter.all false
set_option maxRecDepth 100000
set_option maxHeartbeats 2000000
namespace Law
open PySem PySem.Spec PyProof.Rows L2 GxR Gx Dn
/-! Euclid by at most 9000 turns -/
def euB (B k f n : Nat) : Prop := (k = 0 ∧ f * n ≤ 2 ^ B) ∨ (0 < k ∧ n < f ∧ f * n * 2 ^ (k - 1) ≤ 2 ^ B)
theorem euB_next {B k f n : Nat} (h : euB B k f n) (hn : 0 < n) : euB B (k + 1) n (f % n) := by
  have l : f % n < n := Nat.mod_lt _ hn
  refine .inr ⟨by omega, l, ?_⟩
  simp only [Nat.add_sub_cancel]
  rcases h with ⟨rfl, h⟩ | ⟨hk, hlt, h⟩
  · have : n * (f % n) ≤ n * f := Nat.mul_le_mul_left _ (Nat.mod_le _ _)
    rw [Nat.mul_comm n f] at this
    simpa using Nat.le_trans this h
  · obtain ⟨m, rfl⟩ : ∃ m, k = m + 1 := ⟨k - 1, by omega⟩
    simp only [Nat.add_sub_cancel] at h
    have e : 2 * (f % n) ≤ f := by
      have := Nat.div_add_mod f n
      have d : 1 ≤ f / n := Nat.div_pos (by omega) hn
      have : n * 1 ≤ n * (f / n) := Nat.mul_le_mul_left _ d
      omega
    have : n * (2 * (f % n)) ≤ n * f := Nat.mul_le_mul_left _ e
    calc n * (f % n) * 2 ^ (m + 1) = n * (2 * (f % n)) * 2 ^ m := by rw [Nat.pow_succ]; ac_rfl
      _ ≤ n * f * 2 ^ m := Nat.mul_le_mul_right _ this
      _ = f * n * 2 ^ m := by rw [Nat.mul_comm n f]
      _ ≤ _ := h
theorem euB_end {B f n : Nat} (h : euB B 9000 f n) (hB : B < 8999) : n = 0 := by
  rcases h with ⟨h, _⟩ | ⟨_, hlt, h⟩
  · omega
  · by_cases hn : n = 0
    · exact hn
    · exfalso
      have h1 : 1 ≤ f * n := Nat.mul_pos (by omega) (by omega)
      have h2 : 1 * 2 ^ (9000 - 1) ≤ f * n * 2 ^ (9000 - 1) := Nat.mul_le_mul_right _ h1
      have h3 : 2 ^ (9000 - 1) ≤ 2 ^ B := by rw [Nat.one_mul] at h2; exact Nat.le_trans h2 h
      have := (Nat.pow_le_pow_iff_right (by decide : 1 < 2)).mp h3
      omega
theorem low_eq {i j : Int} {b : Nat} (S : Sto) (hj : 0 < j) (hb : 0 < b) (hib : i.natAbs < 2 ^ b) (hjb : j.natAbs < 2 ^ b) (h9 : b ≤ 4000) :
    m__law_low [.d (.int i), .d (.int j)] S = .ok (.d (dq (Rat.divInt i j))) S := by
  refine ok_eq ?_
  unfold m__law_low
  refine ok_fn ?_
  unfold b__law_low
  rw [← dq_divInt hj]
  generalize eg : Nat.gcd i.natAbs j.natAbs = g
  have g0 : 0 < g := by rw [← eg]; exact Nat.gcd_pos_of_pos_right _ (by omega)
  have gj : g ≤ j.natAbs := by rw [← eg]; exact Nat.gcd_le_right _ (by omega)
  have cg : ∀ x : Int, cDiv x g = true := fun x => cDiv_of (b := b) (by omega) hb (by simpa using Nat.lt_of_le_of_lt gj hjb) (by omega)
  have ej : j = (j.natAbs : Int) := by omega
  have ei : (if i < 0 then -i else i) = (i.natAbs : Int) := by split <;> omega
  have st : euB (b + b) 0 i.natAbs j.natAbs := .inl ⟨rfl, by rw [Nat.pow_add]; exact Nat.mul_le_mul (Nat.le_of_lt hib) (Nat.le_of_lt hjb)⟩
  have sm : smallI 9000 = true := by decide
  simp [sm]
  obtain ⟨Q, hQ⟩ : ∃ Q : Dn.Fl → Sto → Prop, ∀ fl S2, Q fl S2 ↔ ∃ e2 e4, fl = .nx [some (.d (.int i)), some (.d (.int j)), e2, some (.d (.int (g : Int))), e4] ∧ S2 = S := ⟨_, fun _ _ => Iff.rfl⟩
  refine Ok.mono (Q := Q) ?_ ?_
  · obtain ⟨I, hI⟩ : ∃ I : Nat → Dn.Env → Sto → Prop, ∀ k env S', I k env S' ↔ ∃ (f n : Nat) (e2 : Option Val), env = [some (.d (.int i)), some (.d (.int j)), e2, some (.d (.int (f : Int))), some (.d (.int (n : Int)))] ∧ S' = S ∧ Nat.gcd f n = g ∧ euB (b + b) k f n := ⟨_, fun _ _ _ => Iff.rfl⟩
    refine ok_loop (I := I) ((hI _ _ _).mpr ⟨i.natAbs, j.natAbs, _, by rw [ei, ← ej], rfl, eg, st⟩) (fun _ _ _ _ => wtOk_nil _) ?_ ?_
    · rintro k d env S' ed h
      obtain ⟨f, n, e2, rfl, rfl, hg, he⟩ := (hI _ _ _).mp h
      simp
      by_cases hn : n = 0
      · subst hn
        have hfg : f = g := by simpa using hg
        subst hfg
        simp
        exact (hQ _ _).mpr ⟨_, _, rfl, rfl⟩
      · have hn' : (0 : Int) < (n : Int) := by omega
        simp [hn, mod_pos hn']
        refine (hI _ _ _).mpr ⟨n, f % n, some (.d d), by simp, rfl, ?_, euB_next he (by omega)⟩
        rw [Nat.gcd_comm, ← hg]
        exact (Nat.gcd_rec n f ▸ Nat.gcd_comm _ _)
    · rintro env S' h
      obtain ⟨f, n, e2, rfl, rfl, hg, he⟩ := (hI _ _ _).mp h
      have hn : n = 0 := euB_end (B := b + b) (f := f) (by simpa [rngD] using he) (by omega)
      subst hn
      have hfg : f = g := by simpa using hg
      subst hfg
      exact (hQ _ _).mpr ⟨_, _, rfl, rfl⟩
  · rintro fl S2 h
    obtain ⟨e2, e4, rfl, rfl⟩ := (hQ _ _).mp h
    simp [cg, div_pos (show (0 : Int) < (g : Int) by omega), szL]
theorem plusL_eq {p q : Rat} {a b : Nat} (S : Sto) (hp : qb a p) (hq : qb b q) (h : a + b ≤ 3000) : m__law_plus [.d (dq p), .d (dq q)] S = .ok (.d (dq (p + q))) S := by
  refine ok_eq ?_
  unfold m__law_plus
  refine ok_fn ?_
  unfold b__law_plus
  have c1 := cM hp.n (den_lt hq) (by omega)
  have c2 := cM hq.n (den_lt hp) (by omega)
  have c3 := cM (den_lt hp) (den_lt hq) (by omega)
  simp [dq, c1, c2, c3]
  rw [low_eq (b := a + b + 1) S (Int.mul_pos (den0 p) (den0 q)) (by omega) (natAbs_add_lt (natAbs_mul_lt hp.n (den_lt hq)) (by rw [Nat.add_comm a b]; exact natAbs_mul_lt hq.n (den_lt hp))) (lt_up (natAbs_mul_lt (den_lt hp) (den_lt hq)) (by omega)) (by omega), ← add_divInt]
  simp [dq]
theorem timesL_eq {p q : Rat} {a b : Nat} (S : Sto) (hp : qb a p) (hq : qb b q) (h : a + b ≤ 3000) : m__law_times [.d (dq p), .d (dq q)] S = .ok (.d (dq (p * q))) S := by
  refine ok_eq ?_
  unfold m__law_times
  refine ok_fn ?_
  unfold b__law_times
  have c1 := cM hp.n hq.n (by omega)
  have c3 := cM (den_lt hp) (den_lt hq) (by omega)
  simp [dq, c1, c3]
  rw [low_eq (b := a + b + 1) S (Int.mul_pos (den0 p) (den0 q)) (by omega) (lt_up (natAbs_mul_lt hp.n hq.n) (by omega)) (lt_up (natAbs_mul_lt (den_lt hp) (den_lt hq)) (by omega)) (by omega), ← mul_divInt]
  simp [dq]
section
variable {n t : Nat} {S : Sto} {c : Cell}
/-- one of a tuple -/
theorem pick_spec {ds : List D} (hc : S[n]? = some c) (hw : WOk t c) (ht : t < 2 ^ 100) (h0 : ds ≠ []) (hl : ds.length < 1000000) :
    Ok (m__law_pick [.r n, .d (.tup ds)] S) (Dw n S (t + 1) (· ∈ ds)) := by
  unfold m__law_pick
  refine ok_fn ?_
  unfold b__law_pick
  simp
  have hp : 0 < ds.length := List.length_pos_iff.mpr h0
  refine (draw_spec hc hw (by omega) (by omega) (by omega)).mono ?_
  rintro _ _ ⟨i, c1, rfl, i0, i1, rfl, w1⟩
  obtain ⟨x, e, hx⟩ := atI_mem i0 i1
  simp [e, take_set]
  exact ⟨x, c1, rfl, hx, rfl, w1⟩
end
end Law
set_option Elab.async false
set_option linter.all false
set_option maxRecDepth 100000
set_option maxHeartbeats 2000000
namespace Law
open PySem PySem.Spec PyProof.Rows L2 GxR Gx Dn
/-- a comprehension whose items leave new places behind the list's -/
theorem ok_lcR {it : DIf} {g : DGf} {te : DEf} {vs : List Nat} {env : Dn.Env} {S : Sto} {ds : List D} {f : D → D} {Q : Val → Sto → Prop} (hi : it env S = .ok ⟨ds, []⟩ S) (hl : ds.length ≤ szL)
    (hf : ∀ d ∈ ds, ∀ c R, Ok (g (.d d) (wipeE env vs) (S ++ c :: R)) fun env1 S1 => Ok (te env1 S1) fun z S2 => ∃ R', z = .d (f d) ∧ S2 = S ++ c :: R') (q : Q (.d (.lst (ds.map f))) S) : Ok (dLc it g dYes te vs env S) Q := by
  have at_ : ∀ c R, (S ++ c :: R)[S.length]? = some c := fun c R => by simp
  have put : ∀ c c' R, (S ++ c :: R).set S.length c' = S ++ c' :: R := fun c c' R => by simp
  have key : ∀ (es acc : List D) (R : Sto), (∀ d ∈ es, d ∈ ds) → acc.length + es.length ≤ szL → ∃ R', lcLoop g dYes te [] (wipeE env vs) S.length es acc (S ++ .lst acc :: R) = .ok (acc ++ es.map f) (S ++ .lst (acc ++ es.map f) :: R') := by
    intro es
    induction es with
    | nil =>
      intro acc R _ _
      unfold lcLoop
      rw [if_pos ⟨wtOk_nil _, at_ _ _⟩]
      exact ⟨R, by simp⟩
    | cons d es ih =>
      intro acc R hm hz
      unfold lcLoop
      rw [if_pos (wtOk_nil _)]
      obtain ⟨env1, S1, e1, z, S2, e2, R', rfl, rfl⟩ := hf d (hm d List.mem_cons_self) (.lst acc) R
      rw [e1]
      simp only [Out.bind_ok, dYes, if_true, e2]
      rw [if_pos ⟨by simp at hz; omega, at_ _ _⟩, put]
      obtain ⟨R2, e3⟩ := ih (acc ++ [f d]) R' (fun x hx => hm x (List.mem_cons_of_mem _ hx)) (by simp at hz ⊢; omega)
      rw [e3]
      exact ⟨R2, by simp⟩
  unfold dLc
  rw [hi]
  simp only [Out.bind_ok]
  obtain ⟨R, e⟩ := key ds [] [] (fun _ h => h) (by simpa using hl)
  rw [e]
  simpa using q
theorem dFin_new {S : Sto} {c : Cell} : dFin S (.r S.length) (S ++ [c]) = .ok (.r S.length) (S ++ [c]) := by
  unfold dFin
  simp
/-- a new place -/
structure Nw (S : Sto) (P : Cell → Prop) (x : Val) (S' : Sto) : Prop where
  ex : ∃ c, x = .r S.length ∧ S' = S ++ [c] ∧ P c
theorem well_spec {ns : List Int} {k : Nat} {S : Sto} (hk : k ≤ 2) (hl : ns.length ≤ 63) : Ok (m__law_well [.d (.con (ns.map .int)), .d (.int k)] S) (Nw S (WOk 0)) := by
  have c1 : cMul 8111 k = true := cMul_of 16 8 (by decide) (by decide) (by decide) (by omega) (by decide)
  have cp : cPow 10 14 = true := by decide
  unfold m__law_well
  refine ok_fn ?_
  unfold b__law_well
  rw [dSeq_eq, ok_bind]
  obtain ⟨Q0, hQ0⟩ : ∃ Q : Dn.Fl → Sto → Prop, ∀ fl S2, Q fl S2 ↔ ∃ mx : Int, fl = .nx [some (.d (.con (ns.map .int))), some (.d (.int k)), some (.d (.int mx)), none, none] ∧ S2 = S ∧ 0 ≤ mx ∧ mx < 2147483497 := ⟨_, fun _ _ => Iff.rfl⟩
  refine Ok.mono (Q := Q0) ?_ ?_
  · simp [c1]
    exact (hQ0 _ _).mpr ⟨_, rfl, rfl, by omega, by omega⟩
  rintro fl S2 h
  obtain ⟨mx, rfl, rfl, m0, m1⟩ := (hQ0 _ _).mp h
  simp only [cont]
  rw [dSeq_eq, ok_bind]
  obtain ⟨Q1, hQ1⟩ : ∃ Q : Dn.Fl → Sto → Prop, ∀ fl S3, Q fl S3 ↔ ∃ (mx : Int) (e4 : Option Val), fl = .nx [some (.d (.con (ns.map .int))), some (.d (.int k)), some (.d (.int mx)), e4, none] ∧ S3 = S2 ∧ 0 ≤ mx ∧ mx < 2147483497 := ⟨_, fun _ _ => Iff.rfl⟩
  refine Ok.mono (Q := Q1) ?_ ?_
  · rw [dFor_eq, ok_bind]
    simp
    obtain ⟨I, hI⟩ : ∃ I : Nat → Dn.Env → Sto → Prop, ∀ i env S', I i env S' ↔ ∃ (mx : Int) (e4 : Option Val), env = [some (.d (.con (ns.map .int))), some (.d (.int k)), some (.d (.int mx)), e4, none] ∧ S' = S2 ∧ 0 ≤ mx ∧ mx < 2147483497 := ⟨_, fun _ _ _ => Iff.rfl⟩
    refine ok_loop (I := I) ((hI _ _ _).mpr ⟨_, _, rfl, rfl, m0, m1⟩) (fun _ _ _ _ => wtOk_nil _) ?_ ?_
    · rintro i d env S' ed h
      obtain ⟨sd, e4, rfl, rfl, s0, s1⟩ := (hI _ _ _).mp h
      obtain ⟨z, hz, rfl⟩ := List.mem_map.mp (cutL_mem (List.mem_of_getElem? ed))
      have c2 : cMul sd 40487 = true := cMul_of 32 16 (by decide) (by decide) (by omega) (by decide) (by decide)
      simp [c2]
      refine (hI _ _ _).mpr ⟨_, _, rfl, rfl, ?_, ?_⟩
      · rw [mod_pos (by decide)]; exact Int.emod_nonneg _ (by decide)
      · rw [mod_pos (by decide)]; exact Int.emod_lt_of_pos _ (by decide)
    · rintro env S' h
      obtain ⟨sd, e4, rfl, rfl, s0, s1⟩ := (hI _ _ _).mp h
      exact (hQ1 _ _).mpr ⟨_, _, rfl, rfl, s0, s1⟩
  rintro fl S3 h
  obtain ⟨sd, e4, rfl, rfl, s0, s1⟩ := (hQ1 _ _).mp h
  simp only [cont]
  rw [dSeq_eq, ok_bind]
  obtain ⟨Q2, hQ2⟩ : ∃ Q : Dn.Fl → Sto → Prop, ∀ fl S4, Q fl S4 ↔ ∃ own : Int, fl = .nx [some (.d (.con (ns.map .int))), some (.d (.int k)), some (.d (.int sd)), e4, some (.d (.int own))] ∧ S4 = S3 := ⟨_, fun _ _ => Iff.rfl⟩
  refine Ok.mono (Q := Q2) ?_ ?_
  · simp
    by_cases q : k < ns.length
    · obtain ⟨x, e, hx⟩ := atI_mem (xs := ns.map D.int) (j := (k : Int)) (by omega) (by simp; omega)
      obtain ⟨i, hi, rfl⟩ := List.mem_map.mp hx
      simp [q, e]
      exact (hQ2 _ _).mpr ⟨_, rfl, rfl⟩
    · simp [q]
      exact (hQ2 _ _).mpr ⟨_, rfl, rfl⟩
  rintro fl S4 h
  obtain ⟨own, rfl, rfl⟩ := (hQ2 _ _).mp h
  have m2 : 0 ≤ own.fmod 2147483543 := by rw [mod_pos (by decide)]; exact Int.emod_nonneg _ (by decide)
  have m3 : own.fmod 2147483543 < 2147483543 := by rw [mod_pos (by decide)]; exact Int.emod_lt_of_pos _ (by decide)
  have c2 : cMul sd 53 = true := cMul_of 32 16 (by decide) (by decide) (by omega) (by decide) (by decide)
  have c3 : cMul (own.fmod 2147483543) 30011 = true := cMul_of 32 16 (by decide) (by decide) (by omega) (by decide) (by decide)
  have fin : ∀ a b : Int, 0 ≤ a → Ok (dFin S4 (.r S4.length) (S4 ++ [.lst [.int a, .int (b.fmod 2147483497), .int 0]])) (Nw S4 (WOk 0)) := fun a b ha => by
    rw [dFin_new, ok_ok]
    refine ⟨_, rfl, rfl, a, _, 0, rfl, ha, ?_, ?_, by decide, by decide⟩
    · rw [mod_pos (by decide)]; exact Int.emod_nonneg _ (by decide)
    · rw [mod_pos (by decide)]; exact Int.lt_trans (Int.emod_lt_of_pos _ (by decide)) (by decide)
  simp [cont, c2, c3, cp, szL]
  by_cases q1 : own < 0
  · simp [q1]
    exact fin _ _ (by omega)
  · by_cases q2 : 100000000000000 ≤ own
    · simp [q1, q2]
      exact fin _ _ (by omega)
    · simp [q1, q2]
      exact fin _ _ (by omega)
end Law
set_option Elab.async false
set_option linter.all false
set_option maxRecDepth 100000
set_option maxHeartbeats 4000000
namespace Law
open PySem PySem.Spec PyProof.Rows L2 GxR Gx Dn
/-! a store with new cells behind -/
section
variable {S X : Sto} {n : Nat} {c : Cell}
theorem x_get (hn : n < S.length) : (S.set n c ++ X)[n]? = some c := by
  rw [List.getElem?_append_left (by simpa using hn)]
  exact List.getElem?_set_self hn
theorem x_set (hn : n < S.length) (d : Cell) : (S.set n c ++ X).set n d = S.set n d ++ X := by
  rw [List.set_append_left _ _ (by simpa using hn), List.set_set]
theorem x_at (i : Nat) : (S.set n c ++ X)[S.length + i]? = X[i]? := by
  rw [List.getElem?_append_right (by simp), List.length_set, Nat.add_sub_cancel_left]
theorem x_at0 : (S.set n c ++ X)[S.length]? = X[0]? := x_at 0
theorem x_put (i : Nat) (e : Cell) : (S.set n c ++ X).set (S.length + i) e = S.set n c ++ X.set i e := by
  rw [List.set_append_right _ _ (by simp), List.length_set, Nat.add_sub_cancel_left]
theorem x_put0 (e : Cell) : (S.set n c ++ X).set S.length e = S.set n c ++ X.set 0 e := x_put 0 e
theorem x_take : (S.set n c ++ X).take S.length = S.set n c := push_take (by simp) X
theorem x_len : (S.set n c ++ X).length = S.length + X.length := by simp
end
/-- an item has come, the store may be another -/
structure LcS (c : Cell) (P : D → Sto → Prop) (z : Val) (S2 : Sto) : Prop where
  ex : ∃ y T', z = .d y ∧ S2 = T' ++ [c] ∧ P y T'
theorem lcS_key {g : DGf} {te : DEf} {vs : List Nat} {env : Dn.Env} {S : Sto} {ds : List D} (I : Nat → List D → Sto → Prop) (hl : ds.length ≤ szL) (h0 : I 0 [] S)
    (hlen : ∀ i acc T, I i acc T → T.length = S.length ∧ acc.length = i)
    (hs : ∀ i d acc T c, ds[i]? = some d → I i acc T → Ok (g (.d d) (wipeE env vs) (T ++ [c])) fun env1 S1 => Ok (te env1 S1) (LcS c fun y T' => I (i + 1) (acc ++ [y]) T')) :
    ∃ acc T, I ds.length acc T ∧ lcLoop g dYes te [] (wipeE env vs) S.length ds [] (S ++ [.lst []]) = .ok acc (T ++ [.lst acc]) := by
  have key : ∀ (es : List D) (i : Nat) (acc : List D) (T : Sto), ds.drop i = es → i + es.length = ds.length → I i acc T → ∃ acc' T', I ds.length acc' T' ∧ lcLoop g dYes te [] (wipeE env vs) S.length es acc (T ++ [.lst acc]) = .ok acc' (T' ++ [.lst acc']) := by
    intro es
    induction es with
    | nil =>
      intro i acc T _ hn h
      have e : i = ds.length := by simpa using hn
      subst e
      have ht := (hlen _ _ _ h).1
      unfold lcLoop
      rw [if_pos ⟨wtOk_nil _, by rw [← ht]; simp⟩]
      exact ⟨acc, T, h, rfl⟩
    | cons d es ih =>
      intro i acc T e hn h
      have hi' : i < ds.length := by simp at hn; omega
      have ed : ds[i]? = some d := by
        rw [List.drop_eq_getElem_cons hi'] at e
        rw [List.getElem?_eq_getElem hi']
        exact congrArg some (List.cons.inj e).1
      have er : ds.drop (i + 1) = es := by
        rw [List.drop_eq_getElem_cons hi'] at e
        exact (List.cons.inj e).2
      obtain ⟨_, ha⟩ := hlen _ _ _ h
      unfold lcLoop
      rw [if_pos (wtOk_nil _)]
      obtain ⟨env1, S1, e1, z, S2, e2, ⟨y, T', rfl, rfl, h'⟩⟩ := hs i d acc T (.lst acc) ed h
      obtain ⟨ht, _⟩ := hlen _ _ _ h'
      rw [e1]
      simp only [Out.bind_ok, dYes, if_true, e2]
      rw [if_pos ⟨by rw [ha]; omega, by rw [← ht]; simp⟩, ← ht, push_put rfl, ht]
      exact ih (i + 1) (acc ++ [y]) T' er (by simp at hn; omega) h'
  exact key ds 0 [] S (by simp) (by simp) h0
theorem lcD_key {g : DGf} {te : DEf} {vs : List Nat} {env : Dn.Env} {S : Sto} {ds : List D} {n t st : Nat} {c : Cell} {P : D → Prop} (hl : ds.length ≤ szL) (hc : S[n]? = some c) (hw : WOk t c)
    (he : ∀ d ∈ ds, ∀ c' t' cell, WOk t' c' → t' ≤ t + st * ds.length → Ok (g (.d d) (wipeE env vs) (S.set n c' ++ [cell])) fun env1 S1 => Ok (te env1 S1) (Dw n (S.set n c' ++ [cell]) (t' + st) P)) :
    ∃ acc c', acc.length = ds.length ∧ (∀ y ∈ acc, P y) ∧ WOk (t + st * ds.length) c' ∧ lcLoop g dYes te [] (wipeE env vs) S.length ds [] (S ++ [.lst []]) = .ok acc (S.set n c' ++ [.lst acc]) := by
  have hn := lt_of hc
  obtain ⟨acc, T, ⟨c', rfl, e1, e2, e3⟩, e4⟩ := lcS_key (g := g) (te := te) (vs := vs) (env := env) (S := S) (ds := ds) (fun i acc T => ∃ c', T = S.set n c' ∧ acc.length = i ∧ (∀ y ∈ acc, P y) ∧ WOk (t + st * i) c') hl ⟨c, (set_same hc).symm, rfl, by simp, by simpa using hw⟩
    (fun i acc T ⟨c', e, h, _⟩ => ⟨by rw [e]; simp, h⟩) (fun i d acc T cell ed ⟨c', e, h, hp, w⟩ => by
      subst e
      have hi : i < ds.length := (List.getElem?_eq_some_iff.mp ed).1
      refine (he d (List.mem_of_getElem? ed) c' _ cell w (Nat.add_le_add_left (Nat.mul_le_mul_left _ (Nat.le_of_lt hi)) _)).mono fun env1 S1 h1 => h1.mono ?_
      rintro z S2 ⟨y, c2, rfl, hy, rfl, w2⟩
      refine ⟨y, S.set n c2, rfl, by rw [x_set hn], c2, rfl, by simp [h], ?_, w2.mono (by rw [Nat.mul_add]; omega)⟩
      intro x hx
      rcases List.mem_append.mp hx with hx | hx
      · exact hp x hx
      · rw [List.mem_singleton.mp hx]; exact hy)
  exact ⟨acc, c', e1, e2, e3, e4⟩
/-- a comprehension whose items are drawn -/
theorem ok_lcD {it : DIf} {g : DGf} {te : DEf} {vs : List Nat} {env : Dn.Env} {S : Sto} {ds : List D} {n t st : Nat} {c : Cell} {P : D → Prop} {Q : Val → Sto → Prop} (hi : it env S = .ok ⟨ds, []⟩ S) (hl : ds.length ≤ szL) (hc : S[n]? = some c) (hw : WOk t c)
    (he : ∀ d ∈ ds, ∀ c' t' cell, WOk t' c' → t' ≤ t + st * ds.length → Ok (g (.d d) (wipeE env vs) (S.set n c' ++ [cell])) fun env1 S1 => Ok (te env1 S1) (Dw n (S.set n c' ++ [cell]) (t' + st) P))
    (q : ∀ acc c', acc.length = ds.length → (∀ y ∈ acc, P y) → WOk (t + st * ds.length) c' → Q (.d (.lst acc)) (S.set n c')) : Ok (dLc it g dYes te vs env S) Q := by
  obtain ⟨acc, c', e1, e2, e3, e4⟩ := lcD_key hl hc hw he
  unfold dLc
  rw [hi]
  simp only [Out.bind_ok]
  rw [e4]
  simp only [Out.bind_ok]
  rw [x_take]
  exact ok_ok.mpr (q acc c' e1 e2 e3)
theorem ok_lcCD {it : DIf} {g : DGf} {te : DEf} {vs : List Nat} {env : Dn.Env} {S : Sto} {ds : List D} {n t st : Nat} {c : Cell} {P : D → Prop} {Q : Val → Sto → Prop} (hi : it env S = .ok ⟨ds, []⟩ S) (hl : ds.length ≤ szL) (hc : S[n]? = some c) (hw : WOk t c)
    (he : ∀ d ∈ ds, ∀ c' t' cell, WOk t' c' → t' ≤ t + st * ds.length → Ok (g (.d d) (wipeE env vs) (S.set n c' ++ [cell])) fun env1 S1 => Ok (te env1 S1) (Dw n (S.set n c' ++ [cell]) (t' + st) P))
    (q : ∀ acc c', acc.length = ds.length → (∀ y ∈ acc, P y) → WOk (t + st * ds.length) c' → Q (.r S.length) (S.set n c' ++ [.lst acc])) : Ok (dLcC it g dYes te vs env S) Q := by
  obtain ⟨acc, c', e1, e2, e3, e4⟩ := lcD_key hl hc hw he
  unfold dLcC
  rw [hi]
  simp only [Out.bind_ok]
  rw [e4]
  simp only [Out.bind_ok]
  exact ok_ok.mpr (q acc c' e1 e2 e3)
/-- the same with the iterable drawn ahead: the store has changed by then -/
theorem ok_lcD2 {it : DIf} {g : DGf} {te : DEf} {vs : List Nat} {env : Dn.Env} {S S1 : Sto} {ds : List D} {n t st : Nat} {c : Cell} {P : D → Prop} {Q : Val → Sto → Prop} (hi : it env S = .ok ⟨ds, []⟩ S1) (hl : ds.length ≤ szL) (hc : S1[n]? = some c) (hw : WOk t c)
    (he : ∀ d ∈ ds, ∀ c' t' cell, WOk t' c' → t' ≤ t + st * ds.length → Ok (g (.d d) (wipeE env vs) (S1.set n c' ++ [cell])) fun env1 S2 => Ok (te env1 S2) (Dw n (S1.set n c' ++ [cell]) (t' + st) P))
    (q : ∀ acc c', acc.length = ds.length → (∀ y ∈ acc, P y) → WOk (t + st * ds.length) c' → Q (.d (.lst acc)) (S1.set n c')) : Ok (dLc it g dYes te vs env S) Q := by
  have e : dLc it g dYes te vs env S = dLc (fun _ T => .ok ⟨ds, []⟩ T) g dYes te vs env S1 := by
    unfold dLc
    rw [hi]
  rw [e]
  exact ok_lcD (by rfl) hl hc hw he q
end Law
set_option Elab.async false
set_option linter.all false
set_option maxRecDepth 100000
set_option maxHeartbeats 4000000
namespace Law
open PySem PySem.Spec PyProof.Rows L2 GxR Gx Dn
/-! plants as data -/
structure Md where
  A : List (List Rat)
  b : List Rat
  c : List Rat
structure Sn where
  row : List Rat
  lo : Rat
  hi : Rat
  first : Int
structure Dv where
  lo : Int
  hi : Int
  rest : Int
  holds : Int
  cuts : Int
structure Pl where
  ms : List Md
  no : List (Rat × Rat)
  st : List (Rat × Rat)
  se : List Sn
  dl : Int
  dr : Dv
  sf : List Wish
def dmode (m : Md) : D := .tup [.tup (m.A.map drow), drow m.b, drow m.c]
def dspan (p : Rat × Rat) : D := .tup [dq p.1, dq p.2]
def dsens (s : Sn) : D := .tup [drow s.row, dq s.lo, dq s.hi, .int s.first]
def ddrive (r : Dv) : D := .tup [.int r.lo, .int r.hi, .int r.rest, .int r.holds, .int r.cuts]
def dplant (P : Pl) : D := .tup [.tup (P.ms.map dmode), .tup (P.no.map dspan), .tup (P.st.map dspan), .tup (P.se.map dsens), .int P.dl, ddrive P.dr, .tup (P.sf.map dwish)]
structure rowP (z : Nat) (xs : List Rat) : Prop where
  l : xs.length = z
  q : ∀ x ∈ xs, qb 24 x
structure MdOk (z : Nat) (m : Md) : Prop where
  l : m.A.length = z
  a : ∀ r ∈ m.A, rowP z r
  b : rowP z m.b
  c : rowP z m.c
structure SpOk' (p : Rat × Rat) : Prop where
  a : qb 24 p.1
  b : qb 24 p.2
  le : p.1 ≤ p.2
structure SnOk (z : Nat) (s : Sn) : Prop where
  r : rowP z s.row
  a : qb 24 s.lo
  b : qb 24 s.hi
  le : s.lo + 1 ≤ s.hi
  f : s.first.natAbs < 2 ^ 24
structure DvOk (r : Dv) : Prop where
  a : r.lo.natAbs < 16
  b : r.hi.natAbs < 16
  r1 : r.lo ≤ r.rest
  r2 : r.rest ≤ r.hi
  h0 : 0 ≤ r.holds
  h1 : r.holds ≤ 3
  c0 : 0 ≤ r.cuts
  c1 : r.cuts ≤ 1
structure PlOk (z : Nat) (P : Pl) : Prop where
  z0 : 1 ≤ z
  z1 : z ≤ 3
  m0 : 1 ≤ P.ms.length
  m1 : P.ms.length ≤ 3
  m : ∀ m ∈ P.ms, MdOk z m
  nl : P.no.length = z
  n : ∀ p ∈ P.no, SpOk' p
  sl : P.st.length = z
  s : ∀ p ∈ P.st, SpOk' p
  e0 : 1 ≤ P.se.length
  e1 : P.se.length ≤ 2
  e : ∀ s ∈ P.se, SnOk z s
  d0 : 0 ≤ P.dl
  d1 : P.dl ≤ 2
  dr : DvOk P.dr
  f0 : 1 ≤ P.sf.length
  f1 : P.sf.length ≤ 6
  f : ∀ w ∈ P.sf, wb z 24 w
/-- a list of things that are data of a kind -/
theorem list_of {α : Type} {e : α → D} {P : α → Prop} : ∀ {ds : List D}, (∀ d ∈ ds, ∃ x, d = e x ∧ P x) → ∃ xs : List α, ds = xs.map e ∧ ∀ x ∈ xs, P x
  | [], _ => ⟨[], rfl, by simp⟩
  | d :: ds, h => by
    obtain ⟨x, e1, p⟩ := h d List.mem_cons_self
    obtain ⟨xs, e2, q⟩ := list_of fun y m => h y (List.mem_cons_of_mem _ m)
    refine ⟨x :: xs, by simp [e1, e2], fun y hy => ?_⟩
    rcases List.mem_cons.mp hy with rfl | hy
    · exact p
    · exact q y hy
/-! what stands in a tuple of literals -/
def intB (lo hi : Int) : D → Bool
  | .int a => decide (lo ≤ a) && decide (a ≤ hi)
  | _ => false
theorem int_lit {L : List D} {lo hi : Int} (h : L.all (intB lo hi) = true) {d : D} (hd : d ∈ L) : ∃ a : Int, d = .int a ∧ lo ≤ a ∧ a ≤ hi := by
  have k := List.all_eq_true.mp h d hd
  cases d <;> simp [intB] at k
  exact ⟨_, rfl, k.1, k.2⟩
theorem natL_lit {L : List D} {lo hi : Nat} (h : L.all (intB lo hi) = true) {d : D} (hd : d ∈ L) : ∃ k : Nat, d = .int k ∧ lo ≤ k ∧ k ≤ hi := by
  obtain ⟨a, rfl, h0, h1⟩ := int_lit h hd
  obtain ⟨k, rfl⟩ := Int.eq_ofNat_of_zero_le (show 0 ≤ a by omega)
  exact ⟨k, rfl, by omega, by omega⟩
def frB (m : Nat) : D → Bool
  | .tup [.int i, .int j] => decide (0 < j) && decide (i.natAbs < 2 ^ m) && decide (j.natAbs < 2 ^ m) && decide (Nat.gcd i.natAbs j.natAbs = 1)
  | _ => false
theorem fr_lit {L : List D} {m : Nat} (h : L.all (frB m) = true) {d : D} (hd : d ∈ L) : ∃ q, d = dq q ∧ qb m q := by
  have k := List.all_eq_true.mp h d hd
  unfold frB at k
  split at k
  · rename_i i j
    simp at k
    obtain ⟨⟨⟨h0, hi⟩, hj⟩, hg⟩ := k
    obtain ⟨k, rfl⟩ := Int.eq_ofNat_of_zero_le (Int.le_of_lt h0)
    exact ⟨⟨i, k, by omega, by simpa using hg⟩, rfl, ⟨hi, by simpa using hj⟩⟩
  · cases k
/-- from 1 on -/
def oneB : D → Bool
  | .tup [.int i, .int j] => decide (j ≤ i)
  | _ => false
theorem one_lit {L : List D} (h : L.all oneB = true) {q : Rat} (hd : dq q ∈ L) : 1 ≤ q := by
  have k := List.all_eq_true.mp h _ hd
  simp [dq, oneB] at k
  rw [Rat.le_iff]
  simpa using k
def frD (d : D) : Prop := ∃ q, d = dq q ∧ qb 24 q
theorem frD_int (i : Int) (h : i.natAbs < 2 ^ 24) : frD (.tup [.int i, .int 1]) := ⟨(i : Rat), by simp [dq], ⟨by simpa using h, by simp⟩⟩
theorem frD_of {i j : Int} (h0 : 0 < j) (hi : i.natAbs < 2 ^ 24) (hj : j.natAbs < 2 ^ 24) (hg : Nat.gcd i.natAbs j.natAbs = 1) : frD (.tup [.int i, .int j]) := by
  obtain ⟨k, rfl⟩ := Int.eq_ofNat_of_zero_le (Int.le_of_lt h0)
  exact ⟨⟨i, k, by omega, by simpa using hg⟩, rfl, ⟨hi, by simpa using hj⟩⟩
theorem rows_of {z : Nat} {ds : List D} (h : ∀ d ∈ ds, frD d) (hl : ds.length = z) : ∃ xs : List Rat, D.tup ds = drow xs ∧ rowP z xs := by
  obtain ⟨xs, rfl, q⟩ := list_of h
  exact ⟨xs, rfl, ⟨by simpa using hl, q⟩⟩
section
variable {n t : Nat} {S : Sto} {c : Cell}
theorem fraction_spec (hc : S[n]? = some c) (hw : WOk t c) (ht : t < 2 ^ 99) : Ok (m__law_fraction [.r n] S) (Dw n S (t + 3) frD) := by
  unfold m__law_fraction
  refine ok_fn ?_
  unfold b__law_fraction
  simp
  refine (draw_spec hc hw (by omega) (by decide) (by decide)).mono ?_
  rintro _ _ ⟨i, c1, rfl, i0, i1, rfl, w1⟩
  simp
  by_cases q1 : i = 19
  · simp [q1]
    refine (draw_spec (set_at hc c1) w1 (by omega) (by decide) (by decide)).mono ?_
    rintro _ _ ⟨j, c2, rfl, j0, j1, rfl, w2⟩
    simp
    refine (draw_spec (by simpa using set_at hc c2) w2 (by omega) (by decide) (by decide)).mono ?_
    rintro _ _ ⟨k, c3, rfl, k0, k1, rfl, w3⟩
    simp
    rw [low_eq (b := 24) _ (by omega) (by decide) (by omega) (by omega) (by decide)]
    simp [take_set, List.set_set]
    exact ⟨_, c3, rfl, ⟨_, rfl, qb_divInt (by omega) (by omega) (by omega)⟩, rfl, w3.mono (by omega)⟩
  · simp [q1]
    by_cases q2 : 16 < i
    · simp [q2]
      refine (draw_spec (set_at hc c1) w1 (by omega) (by decide) (by decide)).mono ?_
      rintro _ _ ⟨j, c2, rfl, j0, j1, rfl, w2⟩
      simp
      rw [low_eq (b := 24) _ (by omega) (by decide) (by omega) (by omega) (by decide)]
      simp [take_set, List.set_set]
      exact ⟨_, c2, rfl, ⟨_, rfl, qb_divInt (by omega) (by omega) (by omega)⟩, rfl, w2.mono (by omega)⟩
    · have cd : cDiv i 5 = true := by unfold cDiv; decide
      simp [q2, cd, szL, div_pos (show (0 : Int) < 5 by decide)]
      refine (draw_spec (set_at hc c1) w1 (by omega) (by decide) (by decide)).mono ?_
      rintro _ _ ⟨j, c2, rfl, j0, j1, rfl, w2⟩
      simp
      obtain ⟨m, hm, hx⟩ := atI_mem (xs := [D.int 1, .int 2, .int 4, .int 2]) (j := i / 5) (by omega) (by simp; omega)
      have hm2 : ∃ k : Int, m = .int k ∧ 0 < k ∧ k ≤ 4 := by
        simp at hx
        rcases hx with rfl | rfl | rfl | rfl <;> exact ⟨_, rfl, by decide, by decide⟩
      obtain ⟨k, rfl, k0, k1⟩ := hm2
      simp [hm]
      rw [low_eq (b := 24) _ (by omega) (by decide) (by omega) (by omega) (by decide)]
      simp [take_set, List.set_set]
      exact ⟨_, c2, rfl, ⟨_, rfl, qb_divInt (by omega) (by omega) (by omega)⟩, rfl, w2.mono (by omega)⟩
theorem unit_eq {z : Nat} {i : Int} (S : Sto) (hz : z ≤ 100) : ∃ xs, m__law_unit [.d (.int z), .d (.int i)] S = .ok (.d (drow xs)) S ∧ rowP z xs := by
  let f : D → D := fun d => match d with
    | .int j => if j = i then .tup [.int 1, .int 1] else .tup [.int 0, .int 1]
    | _ => .non
  have hf : ∀ d ∈ (rngD 0 z).map f, frD d := by
    intro d hd
    obtain ⟨y, hy, rfl⟩ := List.mem_map.mp hd
    obtain ⟨j, rfl, _⟩ := rng_mem hy
    show frD (if j = i then .tup [.int 1, .int 1] else .tup [.int 0, .int 1])
    split
    · exact frD_int 1 (by decide)
    · exact frD_int 0 (by decide)
  obtain ⟨xs, e, h⟩ := rows_of (z := z) hf (by simp)
  refine ⟨xs, ok_eq ?_, h⟩
  unfold m__law_unit
  refine ok_fn ?_
  unfold b__law_unit
  have sm : smallI (z : Int) = true := by unfold smallI; simp; omega
  simp
  refine ok_lc (ds := rngD 0 z) (f := f) (by simp [sm]) (by simp [rngD, szL]; omega) (fun d hd c => ?_) ?_
  · obtain ⟨j, rfl, _⟩ := rng_mem hd
    simp [wipeE]
    by_cases q : j = i
    · simp [q, f, szL]
    · simp [q, f, szL]
  · simp [e]
def spD (d : D) : Prop := ∃ p, d = dspan p ∧ SpOk' p
theorem pairs_spec {z : Nat} {m : Int} (hc : S[n]? = some c) (hw : WOk t c) (ht : t < 2 ^ 98) (hz : z ≤ 100) (h0 : 0 < m) (h1 : m < 1000) :
    Ok (m__law_pairs [.r n, .d (.int z), .d (.int m)] S) (Dw n S (t + 4 * z) fun d => ∃ ps : List (Rat × Rat), d = .tup (ps.map dspan) ∧ ps.length = z ∧ ∀ p ∈ ps, SpOk' p) := by
  have hn := lt_of hc
  unfold m__law_pairs
  refine ok_fn ?_
  unfold b__law_pairs
  have sm : smallI (z : Int) = true := by unfold smallI; simp; omega
  rw [dSeq_eq, asg_cell]
  simp [sm]
  have hl : ∀ c', (S.set n c').length = S.length := fun c' => by simp
  obtain ⟨I, hI⟩ : ∃ I : Nat → Dn.Env → Sto → Prop, ∀ k env S', I k env S' ↔ ∃ acc c' e4 e5, env = [some (.r n), some (.d (.int z)), some (.d (.int m)), some (.r S.length), e4, e5] ∧ S' = S.set n c' ++ [.lst acc] ∧ acc.length = k ∧ (∀ d ∈ acc, spD d) ∧ WOk (t + 4 * k) c' := ⟨_, fun _ _ _ => Iff.rfl⟩
  refine ok_loop (I := I) ((hI _ _ _).mpr ⟨[], c, _, _, rfl, by rw [set_same hc], rfl, by simp, hw⟩) (fun _ _ _ _ => wtOk_nil _) ?_ ?_
  · rintro k d env S' ed h
    obtain ⟨acc, c', e4, e5, rfl, rfl, hk, ha, w⟩ := (hI _ _ _).mp h
    have hkz : k < z := by simpa [rngD] using (List.getElem?_eq_some_iff.mp ed).1
    have third : ∀ j : Int, 0 ≤ j → j < 3 → ∃ i : Int, atI [D.int 1, .int 2, .int 4] j = some (.int i) ∧ 1 ≤ i ∧ i ≤ 4 := by
      intro j j0 j1
      obtain ⟨x, e, hx⟩ := atI_mem (xs := [D.int 1, .int 2, .int 4]) j0 (by simpa using j1)
      simp at hx
      rcases hx with rfl | rfl | rfl <;> exact ⟨_, e, by decide, by decide⟩
    simp [szL]
    refine (draw_spec (x_get hn) w (by omega) (by decide) (by decide)).mono ?_
    rintro _ _ ⟨i1, c1, rfl, a0, a1, rfl, w1⟩
    simp [x_set hn]
    refine (draw_spec (x_get hn) w1 (by omega) (by decide) (by decide)).mono ?_
    rintro _ _ ⟨i2, c2, rfl, b0, b1, rfl, w2⟩
    obtain ⟨f2, ef2, f20, f21⟩ := third i2 b0 b1
    simp [x_set hn, ef2]
    rw [low_eq (b := 24) _ (by omega) (by decide) (by omega) (by omega) (by decide)]
    simp [x_at0]
    refine (draw_spec (x_get hn) w2 (by omega) h0 (by omega)).mono ?_
    rintro _ _ ⟨i3, c3, rfl, g0, g1, rfl, w3⟩
    simp [x_set hn, szL]
    refine (draw_spec (x_get hn) w3 (by omega) (by decide) (by decide)).mono ?_
    rintro _ _ ⟨i4, c4, rfl, d0, d1, rfl, w4⟩
    obtain ⟨f4, ef4, f40, f41⟩ := third i4 d0 d1
    simp [x_set hn, ef4]
    rw [low_eq (b := 24) _ (by omega) (by decide) (by omega) (by omega) (by decide)]
    have q1 : qb 8 (Rat.divInt (i1 - 4) f2) := qb_divInt (by omega) (by omega) (by omega)
    have q2 : qb 11 (Rat.divInt i3 f4) := qb_divInt (by omega) (by omega) (by omega)
    have p0 : (0 : Rat) ≤ Rat.divInt i3 f4 := (Rat.divInt_nonneg_iff_of_pos_right (by omega)).mpr g0
    simp [plusL_eq _ q1 q2 (by omega), x_at0, x_put0, szL]
    refine ⟨by omega, (hI _ _ _).mpr ⟨acc ++ [dspan (Rat.divInt (i1 - 4) f2, Rat.divInt (i1 - 4) f2 + Rat.divInt i3 f4)], c4, _, _, rfl, rfl, by simp [hk], ?_, w4.mono (by omega)⟩⟩
    intro d hd
    simp at hd
    rcases hd with hd | rfl
    · exact ha d hd
    · refine ⟨_, rfl, ⟨qb_mono q1 (by omega), qb_mono (qb_add q1 q2) (by omega), ?_⟩⟩
      have := Rat.add_le_add_left (c := Rat.divInt (i1 - 4) f2) |>.mpr p0
      rw [Rat.add_zero] at this
      exact this
  · rintro env S' h
    obtain ⟨acc, c', e4, e5, rfl, rfl, hk, ha, w⟩ := (hI _ _ _).mp h
    simp [x_at0, x_take]
    simp [rngD] at hk
    obtain ⟨ps, rfl, hp⟩ := list_of ha
    exact ⟨_, c', rfl, ⟨ps, rfl, by simpa using hk, fun a b m => hp (a, b) m⟩, rfl, by simpa [rngD] using w⟩
end
end Law
set_option Elab.async false
set_option linter.all false
set_option maxRecDepth 100000
set_option maxHeartbeats 4000000
namespace Law
open PySem PySem.Spec PyProof.Rows L2 GxR Gx Dn
section
variable {n t : Nat} {S : Sto} {c : Cell}
theorem frD_mem {ds : List D} {d : D} (h : ∀ x ∈ ds, frD x) (hd : d ∈ ds) : frD d := h d hd
/-- a list with one place set -/
theorem frD_set {acc : List D} {i : Nat} {d : D} (h : ∀ x ∈ acc, frD x) (hd : frD d) : ∀ x ∈ acc.set i d, frD x := fun x hx => by
  rcases List.mem_or_eq_of_mem_set hx with hx | rfl
  · exact h x hx
  · exact hd
def someL : List D := [.tup [.int 0, .int 1], .tup [.int 1, .int 1], .tup [.int 1, .int 2], .tup [.int (-1), .int 2], .tup [.int 1, .int 4], .tup [.int 0, .int 1], .tup [.int 3, .int 4], .tup [.int (-1), .int 1]]
theorem frD_some : ∀ d ∈ someL, frD d := by
  exact fun d hd => fr_lit (by decide +kernel) hd
theorem mode_spec {z : Nat} (hc : S[n]? = some c) (hw : WOk t c) (ht : t < 2 ^ 97) (hz0 : 1 ≤ z) (hz : z ≤ 3) :
    Ok (m__law_mode [.r n, .d (.int z)] S) (Dw n S (t + 60) fun d => ∃ m, d = dmode m ∧ MdOk z m) := by
  have hn := lt_of hc
  unfold m__law_mode
  refine ok_fn ?_
  unfold b__law_mode
  have sm : smallI (z : Int) = true := by unfold smallI; simp; omega
  have zl : (rngD 0 z).length ≤ szL := by simp [rngD, szL]; omega
  rw [dSeq_eq, ok_bind]
  obtain ⟨Q0, hQ0⟩ : ∃ Q : Dn.Fl → Sto → Prop, ∀ fl S2, Q fl S2 ↔ fl = .nx [some (.r n), some (.d (.int z)), none, none, some (.d (.tup someL)), some (.r S.length), none, none] ∧ S2 = S ++ [.lst []] := ⟨_, fun _ _ => Iff.rfl⟩
  refine Ok.mono (Q := Q0) ?_ ?_
  · simp [cell_nil, szL]
    exact (hQ0 _ _).mpr ⟨rfl, rfl⟩
  rintro fl S2 h
  obtain ⟨rfl, rfl⟩ := (hQ0 _ _).mp h
  simp only [cont_nx]
  rw [dSeq_eq, ok_bind]
  obtain ⟨Q1, hQ1⟩ : ∃ Q : Dn.Fl → Sto → Prop, ∀ fl S2, Q fl S2 ↔ ∃ acc c' G e2 e6 e7, fl = .nx [some (.r n), some (.d (.int z)), e2, none, some (.d (.tup someL)), some (.r S.length), e6, e7] ∧ S2 = S.set n c' ++ (.lst acc :: G) ∧ acc.length = z ∧ (∀ d ∈ acc, ∃ xs, d = drow xs ∧ rowP z xs) ∧ WOk (t + 7 * z) c' := ⟨_, fun _ _ => Iff.rfl⟩
  refine Ok.mono (Q := Q1) ?_ ?_
  · rw [dFor_eq, ok_bind]
    simp [sm]
    obtain ⟨I, hI⟩ : ∃ I : Nat → Dn.Env → Sto → Prop, ∀ k env S2, I k env S2 ↔ ∃ acc c' G e2 e6 e7, env = [some (.r n), some (.d (.int z)), e2, none, some (.d (.tup someL)), some (.r S.length), e6, e7] ∧ S2 = S.set n c' ++ (.lst acc :: G) ∧ acc.length = k ∧ (∀ d ∈ acc, ∃ xs, d = drow xs ∧ rowP z xs) ∧ WOk (t + 7 * k) c' := ⟨_, fun _ _ _ => Iff.rfl⟩
    refine ok_loop (I := I) ((hI _ _ _).mpr ⟨[], c, [], _, _, _, rfl, by rw [set_same hc], rfl, by simp, by simpa using hw⟩) (fun _ _ _ _ => wtOk_nil _) ?_ ?_
    · rintro k d env S' ed h
      obtain ⟨acc, c', G, e2, e6, e7, rfl, rfl, hk, ha, w⟩ := (hI _ _ _).mp h
      have hkz : k < z := by simpa [rngD] using (List.getElem?_eq_some_iff.mp ed).1
      obtain ⟨i, rfl, i0, i1⟩ := rng_mem (List.mem_of_getElem? ed)
      obtain ⟨i, rfl⟩ := Int.eq_ofNat_of_zero_le i0
      obtain ⟨T, hT⟩ : ∃ T, T = S.set n c' ++ (.lst acc :: G) := ⟨_, rfl⟩
      have tn : T[n]? = some c' := by rw [hT]; exact x_get hn
      have tl : n < T.length := lt_of tn
      simp
      rw [← hT]
      refine ok_lcCD (n := n) (t := t + 7 * k) (st := 1) (c := c') (P := frD) (by simp [sm]) zl tn w (fun d hd c2 t2 cell w2 ht2 => ?_) ?_
      · simp [wipeE]
        refine (pick_spec (x_get tl) w2 (by simp at ht2; omega) (by simp [someL]) (by simp [someL])).mono ?_
        rintro _ _ ⟨x, c3, rfl, hx, rfl, w3⟩
        exact ⟨x, c3, rfl, frD_some x hx, rfl, w3⟩
      rintro row c2 hr1 hr2 w2
      simp at hr1 w2
      simp [szL]
      refine (fraction_spec (x_get tl) w2 (by omega)).mono ?_
      rintro _ _ ⟨x, c3, rfl, hx, rfl, w3⟩
      simp [x_set tl, szL]
      refine (pick_spec (x_get tl) w3 (by omega) (by simp) (by simp)).mono ?_
      rintro _ _ ⟨y, c4, rfl, hy, rfl, w4⟩
      have hy2 : frD y := by
        simp at hy
        rcases hy with rfl | rfl | rfl | rfl | rfl
        · exact frD_of (by decide) (by decide) (by decide) (by decide)
        · exact frD_of (by decide) (by decide) (by decide) (by decide)
        · exact frD_of (by decide) (by decide) (by decide) (by decide)
        · exact frD_of (by decide) (by decide) (by decide) (by decide)
        · exact hx
      have hir : i < row.length := by omega
      obtain ⟨xs, ex, hxs⟩ := rows_of (z := z) (frD_set (i := i) hr2 hy2) (by simpa using hr1)
      have ts : T.set n c4 = S.set n c4 ++ (.lst acc :: G) := by rw [hT, x_set hn]
      have hat : ∀ X : Sto, (T.set n c4 ++ X)[S.length]? = some (.lst acc) := fun X => by rw [ts, List.append_assoc, x_at0]; rfl
      have hput : ∀ (X : Sto) (e : Cell), (T.set n c4 ++ X).set S.length e = S.set n c4 ++ (e :: (G ++ X)) := fun X e => by rw [ts, List.append_assoc, x_put0]; rfl
      have hz2 : acc.length < 16777216 := by omega
      simp [x_set tl, x_at0, x_put0, ixN, hir, ex, hat, hput, szL, hz2]
      refine (hI (k + 1) _ _).mpr ⟨acc ++ [drow xs], c4, G ++ [.lst (row.set i y)], _, _, _, rfl, rfl, by simp [hk], ?_, w4.mono (by omega)⟩
      intro d hd
      simp at hd
      rcases hd with hd | rfl
      · exact ha d hd
      · exact ⟨xs, rfl, hxs⟩
    · rintro env S' h
      obtain ⟨acc, c', G, e2, e6, e7, rfl, rfl, hk, ha, w⟩ := (hI _ _ _).mp h
      simp [rngD] at hk w
      exact (hQ1 _ _).mpr ⟨acc, c', G, _, _, _, rfl, rfl, hk, ha, w⟩
  rintro fl S2 h
  obtain ⟨acc, c1, G, e2, e6, e7, rfl, rfl, hA, hA2, w1⟩ := (hQ1 _ _).mp h
  obtain ⟨T, hT⟩ : ∃ T, T = S.set n c1 ++ (.lst acc :: G) := ⟨_, rfl⟩
  have tn : T[n]? = some c1 := by rw [hT]; exact x_get hn
  have tl : n < T.length := lt_of tn
  have ts : ∀ c', T.set n c' = S.set n c' ++ (.lst acc :: G) := fun c' => by rw [hT, x_set hn]
  simp only [cont_nx]
  rw [← hT]
  simp
  refine ok_lcD (n := n) (t := t + 7 * z) (st := 1) (c := c1) (P := frD) (by simp [sm]) zl tn w1 (fun d hd c2 t2 cell w2 ht2 => ?_) ?_
  · simp [wipeE, szL]
    refine (pick_spec (x_get tl) w2 (by simp at ht2; omega) (by simp) (by simp)).mono ?_
    rintro _ _ ⟨x, c3, rfl, hx, rfl, w3⟩
    exact ⟨x, c3, rfl, fr_lit (by decide +kernel) hx, rfl, w3⟩
  rintro bs c2 hb1 hb2 w2
  simp at hb1 w2
  obtain ⟨b, eb, hb⟩ := rows_of (z := z) hb2 hb1
  have at5 : ∀ c', (T.set n c')[S.length]? = some (.lst acc) := fun c' => by rw [ts, x_at0]; rfl
  simp [at5, eb]
  refine ok_lcD (n := n) (t := t + 7 * z + z) (st := 1) (c := c2) (P := frD) (by simp [sm]) zl (by rw [ts]; exact x_get hn) w2 (fun d hd c3 t3 cell w3 ht3 => ?_) ?_
  · simp [wipeE, szL]
    refine (pick_spec (x_get (by simpa using tl)) w3 (by simp at ht3; omega) (by simp) (by simp)).mono ?_
    rintro _ _ ⟨x, c4, rfl, hx, rfl, w4⟩
    exact ⟨x, c4, rfl, fr_lit (by decide +kernel) hx, rfl, w4⟩
  rintro cs c3 hc1 hc2 w3
  simp at hc1 w3
  obtain ⟨cc, ec, hcc⟩ := rows_of (z := z) hc2 hc1
  obtain ⟨rs, ers, hrs⟩ := list_of hA2
  simp [ec, szL, ts, x_set hn, x_take]
  refine ⟨_, c3, rfl, ⟨⟨rs, b, cc⟩, by simp [dmode, ers], ⟨by rw [ers] at hA; simpa using hA, hrs, hb, hcc⟩⟩, rfl, w3.mono (by omega)⟩
theorem rat_le_step {p q : Rat} (h : 1 ≤ q) : p + 1 ≤ p + q := by
  have := (Rat.add_le_add_left (c := p)).mpr h
  exact this
theorem sensor_spec {z : Nat} (hc : S[n]? = some c) (hw : WOk t c) (ht : t < 2 ^ 97) (hz0 : 1 ≤ z) (hz : z ≤ 3) :
    Ok (m__law_sensor [.r n, .d (.int z)] S) (Dw n S (t + 10) fun d => ∃ s, d = dsens s ∧ SnOk z s) := by
  have hn := lt_of hc
  have sm : smallI (z : Int) = true := by unfold smallI; simp; omega
  have zl : (rngD 0 z).length ≤ szL := by simp [rngD, szL]; omega
  unfold m__law_sensor
  refine ok_fn ?_
  unfold b__law_sensor
  simp [-dIfS_eq]
  refine (draw_spec hc hw (by omega) (by omega) (by omega)).mono ?_
  rintro _ _ ⟨i, c1, rfl, i0, i1, rfl, w1⟩
  obtain ⟨u, eu, hu⟩ := unit_eq (z := z) (i := i) (S.set n c1) (by omega)
  simp [-dIfS_eq, eu]
  obtain ⟨Q0, hQ0⟩ : ∃ Q : Dn.Fl → Sto → Prop, ∀ fl S2, Q fl S2 ↔ ∃ r c' e3 e4 e5, fl = .nx [some (.r n), some (.d (.int z)), some (.d (drow r)), e3, e4, e5] ∧ S2 = S.set n c' ∧ rowP z r ∧ WOk (t + 2 + z) c' := ⟨_, fun _ _ => Iff.rfl⟩
  refine Ok.mono (Q := Q0) ?_ ?_
  · simp
    refine (draw_spec (set_at hc c1) w1 (by omega) (by decide) (by decide)).mono ?_
    rintro _ _ ⟨j, c2, rfl, j0, j1, rfl, w2⟩
    simp
    by_cases q : j = 0
    · simp [q]
      refine ok_lcD (n := n) (t := t + 2) (st := 1) (c := c2) (P := frD) (by simp [sm]) zl (set_at hc c2) w2 (fun d hd c3 t3 cell w3 ht3 => ?_) ?_
      · simp [wipeE, szL]
        refine (pick_spec (x_get (by simpa using hn)) w3 (by simp at ht3; omega) (by simp) (by simp)).mono ?_
        rintro _ _ ⟨x, c4, rfl, hx, rfl, w4⟩
        exact ⟨x, c4, rfl, fr_lit (by decide +kernel) hx, rfl, w4⟩
      rintro bs c3 hb1 hb2 w3
      simp at hb1 w3
      obtain ⟨b, eb, hb⟩ := rows_of (z := z) hb2 hb1
      simp [eb]
      exact (hQ0 _ _).mpr ⟨b, c3, _, _, _, rfl, by simp, hb, w3.mono (by omega)⟩
    · simp [q]
      exact (hQ0 _ _).mpr ⟨u, c2, _, _, _, rfl, by simp, hu, w2.mono (by omega)⟩
  rintro fl S2 h
  obtain ⟨r, c2, e3, e4, e5, rfl, rfl, hr, w2⟩ := (hQ0 _ _).mp h
  simp [szL]
  refine (pick_spec (set_at hc c2) w2 (by omega) (by simp) (by simp)).mono ?_
  rintro _ _ ⟨lo, c3, rfl, hlo, rfl, w3⟩
  have hlo2 : ∃ q, lo = dq q ∧ qb 4 q := fr_lit (by decide +kernel) hlo
  simp [szL]
  refine (pick_spec (set_at hc c3) w3 (by omega) (by simp) (by simp)).mono ?_
  rintro _ _ ⟨mo, c4, rfl, hmo, rfl, w4⟩
  have hmo2 : ∃ q, mo = dq q ∧ qb 10 q := fr_lit (by decide +kernel) hmo
  obtain ⟨lq, rfl, hlq2⟩ := hlo2
  obtain ⟨mq, rfl, hmq⟩ := hmo2
  have hm1 : 1 ≤ mq := one_lit (by decide +kernel) hmo
  have hlq : qb 24 lq := qb_mono hlq2 (by omega)
  simp [plusL_eq _ hlq hmq (by omega), szL]
  refine (draw_spec (set_at hc c4) w4 (by omega) (by decide) (by decide)).mono ?_
  rintro _ _ ⟨f, c5, rfl, f0, f1, rfl, w5⟩
  simp [szL, take_set]
  refine ⟨_, c5, rfl, ⟨⟨r, lq, lq + mq, f - 3⟩, rfl, ⟨hr, hlq, qb_mono (qb_add hlq2 hmq) (by omega), rat_le_step hm1, by simp; omega⟩⟩, rfl, w5.mono (by omega)⟩
theorem drive_spec (hc : S[n]? = some c) (hw : WOk t c) (ht : t < 2 ^ 97) : Ok (m__law_drive [.r n] S) (Dw n S (t + 10) fun d => ∃ r, d = ddrive r ∧ DvOk r) := by
  have hn := lt_of hc
  unfold m__law_drive
  refine ok_fn ?_
  unfold b__law_drive
  simp [szL]
  refine (pick_spec hc hw (by omega) (by simp) (by simp)).mono ?_
  rintro _ _ ⟨lo, c1, rfl, hlo, rfl, w1⟩
  obtain ⟨a, rfl, a0, a1⟩ : ∃ a : Int, lo = .int a ∧ -5 ≤ a ∧ a ≤ 0 := int_lit (by decide +kernel) hlo
  simp [szL]
  refine (pick_spec (set_at hc c1) w1 (by omega) (by simp) (by simp)).mono ?_
  rintro _ _ ⟨mo, c2, rfl, hmo, rfl, w2⟩
  obtain ⟨b, rfl, b0, b1⟩ : ∃ b : Int, mo = .int b ∧ 0 ≤ b ∧ b ≤ 5 := int_lit (by decide +kernel) hmo
  simp [szL]
  refine (draw_spec (set_at hc c2) w2 (by omega) (by omega) (by omega)).mono ?_
  rintro _ _ ⟨i, c3, rfl, i0, i1, rfl, w3⟩
  simp [szL]
  refine (pick_spec (set_at hc c3) w3 (by omega) (by simp) (by simp)).mono ?_
  rintro _ _ ⟨ho, c4, rfl, hho, rfl, w4⟩
  obtain ⟨h, rfl, h0, h1⟩ : ∃ h : Int, ho = .int h ∧ 0 ≤ h ∧ h ≤ 3 := int_lit (by decide +kernel) hho
  simp [szL]
  refine (draw_spec (set_at hc c4) w4 (by omega) (by decide) (by decide)).mono ?_
  rintro _ _ ⟨cu, c5, rfl, k0, k1, rfl, w5⟩
  simp [szL, take_set]
  exact ⟨_, c5, rfl, ⟨⟨a, a + b, a + i, h, cu⟩, rfl, ⟨by simp; omega, by simp; omega, by simp; omega, by simp; omega, h0, h1, k0, by simp; omega⟩⟩, rfl, w5.mono (by omega)⟩
end
end Law
set_option Elab.async false
set_option linter.all false
set_option maxRecDepth 100000
set_option maxHeartbeats 4000000
namespace Law
open PySem PySem.Spec PyProof.Rows L2 GxR Gx Dn
section
variable {n t : Nat} {S : Sto} {c : Cell}
theorem wish_D {z : Nat} {r : List Rat} {q : Rat} (hr : rowP z r) (hq : qb 24 q) : ∃ w : Wish, D.tup [drow r, dq q] = dwish w ∧ wb z 24 w := ⟨(r, q), rfl, ⟨hr.l, hr.q, hq⟩⟩
theorem plant_spec {z s : Nat} {dl : Int} (hc : S[n]? = some c) (hw : WOk t c) (ht : t < 2 ^ 95) (hz0 : 1 ≤ z) (hz : z ≤ 3) (hs0 : 1 ≤ s) (hs : s ≤ 2) (hd0 : 0 ≤ dl) (hd : dl ≤ 2) :
    Ok (m__law_plant [.r n, .d (.int z), .d (.int s), .d (.int dl)] S) (Dw n S (t + 400) fun d => ∃ P, d = dplant P ∧ PlOk z P) := by
  have hn := lt_of hc
  have sm : smallI (z : Int) = true := by unfold smallI; simp; omega
  have sms : smallI (s : Int) = true := by unfold smallI; simp; omega
  have zl : (rngD 0 z).length ≤ szL := by simp [rngD, szL]; omega
  have sl : (rngD 0 s).length ≤ szL := by simp [rngD, szL]; omega
  unfold m__law_plant
  refine ok_fn ?_
  unfold b__law_plant
  obtain ⟨kd, S1, ek, ⟨kd', c1, rfl, hkd, rfl, w1⟩⟩ := pick_spec (ds := [D.int 1, .int 2, .int 1, .int 3]) hc hw (by omega) (by simp) (by simp)
  obtain ⟨k, rfl, k0, k1⟩ : ∃ k : Nat, kd' = .int k ∧ 1 ≤ k ∧ k ≤ 3 := natL_lit (by decide +kernel) hkd
  have smk : smallI (k : Int) = true := by unfold smallI; simp; omega
  simp [-dFor_eq]
  refine ok_lcD2 (S1 := S.set n c1) (ds := rngD 0 k) (n := n) (t := t + 1) (st := 60) (c := c1) (P := fun d => ∃ m, d = dmode m ∧ MdOk z m) (by simp [ek, smk, szL]) (by simp [rngD, szL]; omega) (set_at hc c1) w1 (fun d hd c3 t3 cell w3 ht3 => ?_) ?_
  · simp [wipeE, szL]
    exact mode_spec (x_get (by simpa using hn)) w3 (by simp at ht3; omega) hz0 hz
  rintro ms c2 hm1 hm2 w2
  simp at hm1 w2
  simp [-dFor_eq, List.set_set]
  refine ok_lcD (n := n) (t := t + 1 + 60 * k) (st := 10) (c := c2) (P := fun d => ∃ s, d = dsens s ∧ SnOk z s) (by simp [sms]) sl (set_at hc c2) w2 (fun d hd c3 t3 cell w3 ht3 => ?_) ?_
  · simp [wipeE, szL]
    exact sensor_spec (x_get (by simpa using hn)) w3 (by simp at ht3; omega) hz0 hz
  rintro se c3 hs1 hs2 w3
  simp at hs1 w3
  obtain ⟨u, eu, hu⟩ := unit_eq (z := z) (i := 0) (S.set n c3) (by omega)
  simp [-dFor_eq, List.set_set, eu, szL]
  refine (pick_spec (set_at hc c3) w3 (by omega) (by simp) (by simp)).mono ?_
  rintro _ _ ⟨q0, c4, rfl, hq0, rfl, w4⟩
  obtain ⟨q, rfl, hq⟩ : frD q0 := fr_lit (by decide +kernel) hq0
  obtain ⟨W0, eW0, hW0⟩ := wish_D hu hq
  simp [-dFor_eq, List.set_set, szL, eW0]
  obtain ⟨Q0, hQ0⟩ : ∃ Q : Dn.Fl → Sto → Prop, ∀ fl S2, Q fl S2 ↔ ∃ acc c' e7 e8 e9, fl = .nx [some (.r n), some (.d (.int z)), some (.d (.int s)), some (.d (.int dl)), some (.d (.tup ms)), some (.d (.tup se)), some (.r S.length), e7, e8, e9] ∧ S2 = S.set n c' ++ [.lst acc] ∧ 1 ≤ acc.length ∧ acc.length ≤ 6 ∧ (∀ d ∈ acc, ∃ w, d = dwish w ∧ wb z 24 w) ∧ WOk (t + 300) c' := ⟨_, fun _ _ => Iff.rfl⟩
  refine Ok.mono (Q := Q0) ?_ ?_
  · rw [dFor_eq, ok_bind]
    simp [szL]
    refine (pick_spec (x_get hn) w4 (by omega) (by simp) (by simp)).mono ?_
    rintro _ _ ⟨md, c5, rfl, hmd, rfl, w5⟩
    obtain ⟨m, rfl, _, m1⟩ : ∃ m : Nat, md = .int m ∧ 0 ≤ m ∧ m ≤ 5 := natL_lit (by decide +kernel) hmd
    have smm : smallI (m : Int) = true := by unfold smallI; simp; omega
    simp [smm, x_set hn]
    obtain ⟨I, hI⟩ : ∃ I : Nat → Dn.Env → Sto → Prop, ∀ j env S2, I j env S2 ↔ ∃ acc c' e7 e8 e9, env = [some (.r n), some (.d (.int z)), some (.d (.int s)), some (.d (.int dl)), some (.d (.tup ms)), some (.d (.tup se)), some (.r S.length), e7, e8, e9] ∧ S2 = S.set n c' ++ [.lst acc] ∧ acc.length = 1 + j ∧ (∀ d ∈ acc, ∃ w, d = dwish w ∧ wb z 24 w) ∧ WOk (t + 1 + 60 * k + 10 * s + 1 + 1 + 4 * j) c' := ⟨_, fun _ _ _ => Iff.rfl⟩
    refine ok_loop (I := I) ((hI _ _ _).mpr ⟨[dwish W0], c5, _, _, _, rfl, rfl, rfl, by intro d hd; rw [List.mem_singleton.mp hd]; exact ⟨W0, rfl, hW0⟩, w5.mono (by omega)⟩) (fun _ _ _ _ => wtOk_nil _) ?_ ?_
    · rintro j d env S' ed h
      obtain ⟨acc, c', e7, e8, e9, rfl, rfl, hj, ha, w⟩ := (hI _ _ _).mp h
      have hjm : j < m := by simpa [rngD] using (List.getElem?_eq_some_iff.mp ed).1
      obtain ⟨i, rfl, i0, i1⟩ := rng_mem (List.mem_of_getElem? ed)
      obtain ⟨T, hT⟩ : ∃ T, T = S.set n c' ++ [.lst acc] := ⟨_, rfl⟩
      have tn : T[n]? = some c' := by rw [hT]; exact x_get hn
      have tl : n < T.length := lt_of tn
      have ts : ∀ c', T.set n c' = S.set n c' ++ [.lst acc] := fun c' => by rw [hT, x_set hn]
      simp
      rw [← hT]
      refine ok_lcD (n := n) (st := 1) (c := c') (P := frD) (by simp [sm]) zl tn w (fun d hd c2 t2 cell w2 ht2 => ?_) ?_
      · simp [wipeE, szL]
        refine (pick_spec (x_get tl) w2 (by simp at ht2; omega) (by simp) (by simp)).mono ?_
        rintro _ _ ⟨x, c3, rfl, hx, rfl, w3⟩
        exact ⟨x, c3, rfl, fr_lit (by decide +kernel) hx, rfl, w3⟩
      rintro bs c2 hb1 hb2 w2
      simp at hb1 w2
      obtain ⟨b, eb, hb⟩ := rows_of (z := z) hb2 hb1
      have hat : ∀ c', (T.set n c')[S.length]? = some (.lst acc) := fun c' => by rw [ts, x_at0]; rfl
      simp [eb, szL, hat]
      refine (pick_spec (set_at tn c2) w2 (by omega) (by simp) (by simp)).mono ?_
      rintro _ _ ⟨q1, c6, rfl, hq1, rfl, w6⟩
      obtain ⟨q, rfl, hq⟩ : frD q1 := fr_lit (by decide +kernel) hq1
      obtain ⟨W1, eW1, hW1⟩ := wish_D hb hq
      have hz2 : acc.length < 16777216 := by omega
      simp [ts, x_set hn, x_at0, x_put0, eW1, szL, hz2]
      refine (hI (j + 1) _ _).mpr ⟨acc ++ [dwish W1], c6, _, _, _, rfl, rfl, by simp [hj]; omega, ?_, w6.mono (by omega)⟩
      intro d hd
      simp at hd
      rcases hd with hd | rfl
      · exact ha d hd
      · exact ⟨W1, rfl, hW1⟩
    · rintro env S' h
      obtain ⟨acc, c', e7, e8, e9, rfl, rfl, hj, ha, w⟩ := (hI _ _ _).mp h
      simp [rngD] at hj w
      exact (hQ0 _ _).mpr ⟨acc, c', _, _, _, rfl, rfl, by omega, by omega, ha, w.mono (by omega)⟩
  rintro fl S2 h
  obtain ⟨acc, c5, e7, e8, e9, rfl, rfl, hA0, hA1, hA, w5⟩ := (hQ0 _ _).mp h
  simp
  refine (pairs_spec (x_get hn) w5 (by omega) (by omega) (by decide) (by decide)).mono ?_
  rintro _ _ ⟨no, c6, rfl, ⟨ns, rfl, hns, hns2⟩, rfl, w6⟩
  simp [x_set hn]
  refine (pairs_spec (x_get hn) w6 (by omega) (by omega) (by decide) (by decide)).mono ?_
  rintro _ _ ⟨st, c7, rfl, ⟨ss, rfl, hss, hss2⟩, rfl, w7⟩
  simp [x_set hn]
  refine (drive_spec (x_get hn) w7 (by omega)).mono ?_
  rintro _ _ ⟨dd, c8, rfl, ⟨dv, rfl, hdv⟩, rfl, w8⟩
  obtain ⟨mm, rfl, hmm⟩ := list_of hm2
  obtain ⟨sn, rfl, hsn⟩ := list_of hs2
  obtain ⟨wss, rfl, hwss⟩ := list_of hA
  simp at hm1 hs1 hA0 hA1
  simp [x_set hn, x_at0, szL, x_take]
  exact ⟨_, c8, rfl, ⟨⟨mm, ns, ss, sn, dl, dv, wss⟩, rfl, ⟨hz0, hz, by simp; omega, by simp; omega, hmm, hns, hns2, hss, hss2, by simp; omega, by simp; omega, hsn, hd0, hd, hdv, hA0, hA1, hwss⟩⟩, rfl, w8.mono (by omega)⟩
theorem any_plant_spec (hc : S[n]? = some c) (hw : WOk t c) (ht : t < 2 ^ 94) : Ok (m__law_any_plant [.r n] S) (Dw n S (t + 403) fun d => ∃ z P, d = dplant P ∧ PlOk z P) := by
  unfold m__law_any_plant
  refine ok_fn ?_
  unfold b__law_any_plant
  simp [szL]
  refine (pick_spec hc hw (by omega) (by simp) (by simp)).mono ?_
  rintro _ _ ⟨zd, c1, rfl, hz, rfl, w1⟩
  obtain ⟨z, rfl, z0, z1⟩ : ∃ k : Nat, zd = .int k ∧ 1 ≤ k ∧ k ≤ 3 := natL_lit (by decide +kernel) hz
  try simp [szL]
  refine (pick_spec (set_at hc c1) w1 (by omega) (by simp) (by simp)).mono ?_
  rintro _ _ ⟨sd, c2, rfl, hs, rfl, w2⟩
  obtain ⟨s, rfl, s0, s1⟩ : ∃ k : Nat, sd = .int k ∧ 1 ≤ k ∧ k ≤ 2 := natL_lit (by decide +kernel) hs
  try simp [szL]
  refine (pick_spec (set_at hc c2) w2 (by omega) (by simp) (by simp)).mono ?_
  rintro _ _ ⟨dd, c3, rfl, hd, rfl, w3⟩
  obtain ⟨dl, rfl, d0, d1⟩ : ∃ k : Int, dd = .int k ∧ 0 ≤ k ∧ k ≤ 2 := int_lit (by decide +kernel) hd
  try simp
  refine (plant_spec (set_at hc c3) w3 (by omega) z0 z1 s0 s1 d0 d1).mono ?_
  rintro _ _ ⟨p, c4, rfl, ⟨P, rfl, hP⟩, rfl, w4⟩
  simp [List.set_set, take_set]
  exact ⟨_, c4, rfl, ⟨z, P, rfl, hP⟩, rfl, w4.mono (by omega)⟩
end
end Law
set_option Elab.async false
set_option linter.all false
set_option maxRecDepth 100000
set_option maxHeartbeats 4000000
namespace Law
open PySem PySem.Spec PyProof.Rows L2 GxR Gx Dn
/-! bent values -/
structure pA (b l h : Nat) (d : D) : Prop where
  g : gD b l d = true
  ex : ∃ p, d.py = some p ∧ p.canLay0 = true ∧ p.depth ≤ h
theorem pA_mono {b l h b' l' h' : Nat} {d : D} (p : pA b l h d) (hb : b ≤ b') (hl : l ≤ l') (hh : h ≤ h') : pA b' l' h' d :=
  ⟨gD_mono hb hl d p.g, let ⟨q, e, c, k⟩ := p.ex; ⟨q, e, c, Nat.le_trans k hh⟩⟩
theorem gD_tup_of {b l : Nat} {ds : List D} (hl : ds.length ≤ l) (h : ∀ x ∈ ds, gD b l x = true) : gD b l (.tup ds) = true := by
  simp only [gD, Bool.and_eq_true, decide_eq_true_eq]
  exact ⟨hl, gDs_all.mpr h⟩
theorem gD_len {b l : Nat} {ds : List D} (h : gD b l (.tup ds) = true) : ds.length ≤ l := by
  simp only [gD, Bool.and_eq_true, decide_eq_true_eq] at h
  exact h.1
theorem pA_tup {b l h : Nat} {ds : List D} (hl : ds.length ≤ l) (hx : ∀ x ∈ ds, pA b l h x) : pA b l (h + 1) (.tup ds) := by
  refine ⟨gD_tup_of hl fun x m => (hx x m).g, ?_⟩
  obtain ⟨ps, e2, l2, q⟩ := pys_of (Q := fun p => p.canLay0 = true ∧ p.depth ≤ h) fun x m => (hx x m).ex
  refine ⟨.tuple ps, by simp [D.py, e2], by simpa [PyData.canLay0] using can_all fun p m => (q p m).1, ?_⟩
  have := depth_all fun p m => (q p m).2
  simp only [PyData.depth]
  omega
theorem pys_items {k : Nat} : ∀ {ds : List D} {ps : List PyData}, pys ds = some ps → PyData.canLayAll0 ps = true → PyData.depthAll ps ≤ k → ∀ x ∈ ds, ∃ p, x.py = some p ∧ p.canLay0 = true ∧ p.depth ≤ k
  | [], _, _, _, _ => by simp
  | d :: ds, ps, e, c, k1 => by
    simp only [pys] at e
    split at e
    · rename_i p qs e1 e2
      cases e
      simp only [PyData.canLayAll0, Bool.and_eq_true] at c
      simp only [PyData.depthAll] at k1
      intro x hx
      rcases List.mem_cons.mp hx with rfl | hx
      · exact ⟨p, e1, c.1, by omega⟩
      · exact pys_items e2 c.2 (by omega) x hx
    · cases e
theorem pA_items {b l h : Nat} {ds : List D} (p : pA b l h (.tup ds)) : ds.length ≤ l ∧ 1 ≤ h ∧ ∀ x ∈ ds, pA b l (h - 1) x := by
  obtain ⟨q, e, c, k⟩ := p.ex
  simp only [D.py] at e
  obtain ⟨ps, e2, rfl⟩ := Option.map_eq_some_iff.mp e
  simp only [PyData.canLay0] at c
  simp only [PyData.depth] at k
  exact ⟨gD_len p.g, by omega, fun x m => ⟨gD_items p.g x m, pys_items e2 c (by omega) x m⟩⟩
theorem pA_lst {b l h : Nat} {ds : List D} (p : pA b l h (.tup ds)) : pA b l h (.lst ds) := by
  obtain ⟨q, e, c, k⟩ := p.ex
  simp only [D.py] at e
  obtain ⟨ps, e2, rfl⟩ := Option.map_eq_some_iff.mp e
  refine ⟨p.g, .list ps, by simp [D.py, e2], c, k⟩
theorem pA_int {b l h : Nat} {i : Int} (hi : i.natAbs < 2 ^ b) : pA b l h (.int i) := ⟨by simpa [gD] using hi, .int i, by simp [D.py], by simp [PyData.canLay0], by simp [PyData.depth]⟩
theorem neA_nil {neg : Bool} {b l h : Nat} {ds : List D} (p : pA b l h (.tup ds)) (hh : h ≤ 60) (S : Sto) : oEqB neg (.d (.tup ds)) (.d (.tup [])) S = .ok (.d (.bl (xor neg (decide (ds = []))))) S := by
  obtain ⟨q, e, c, k⟩ := p.ex
  simp only [D.py] at e
  obtain ⟨ps, e2, rfl⟩ := Option.map_eq_some_iff.mp e
  have l2 : ps.length = ds.length := by
    clear c k p e
    induction ds generalizing ps with
    | nil => simp only [pys] at e2; cases e2; rfl
    | cons d ds ih =>
      simp only [pys] at e2
      split at e2
      · rename_i x y e3 e4
        cases e2
        simp [ih _ e4]
      · cases e2
  have s1 : SeqAt.shaped (.tuple ps) = true := by simp [SeqAt.shaped, c]; omega
  have s2 : SeqAt.shaped (.tuple []) = true := by decide
  have en : (ps = []) = (ds = []) := propext (by rw [← List.length_eq_zero_iff, ← List.length_eq_zero_iff (l := ds), l2])
  simp only [oEqB, pyV, D.py, e2, pys, Option.map_some, s1, s2, Bool.and_self, if_true, eqv_nil_t, en]
def isTup (d : D) : Bool := match d with
  | .tup _ => true
  | _ => false
theorem isTup_inv {d : D} (h : isTup d = true) : ∃ ds, d = .tup ds := by
  unfold isTup at h
  split at h
  · exact ⟨_, rfl⟩
  · cases h
theorem isi_tup {d : D} (h : nob d = true) : isi d .tup = some (isTup d) := by cases d <;> first | rfl | simp [nob] at h
def oddP : List D := [.non, .bl true, .bl false, .str "x", .tup [], .int 0, .int (-1), .tup [.int 1, .int 1], .tup [.int 2, .int 4], .tup [.int 1, .int (-1)], .tup [.int 0, .int 2], .tup [.tup [.int 0, .int 1]], .str "1", .tup [.int 1, .int 0]]
theorem oddP_pA {d : D} (h : d ∈ oddP) : pA 5 2 2 d := by
  have g : gD 5 2 d = true := gDs_all.mp (by decide +kernel : gDs 5 2 oddP = true) d h
  refine ⟨g, ?_⟩
  have k : oddP.all (fun d => match d.py with | some p => p.canLay0 && decide (p.depth ≤ 2) | none => false) = true := by decide +kernel
  have k2 := List.all_eq_true.mp k d h
  cases e : d.py with
  | none => simp [e] at k2
  | some p => simp [e] at k2; exact ⟨p, rfl, k2.1, k2.2⟩
theorem five_at {i : Int} (h0 : 0 ≤ i) (h1 : i < 5) : ∃ k : Int, atI [D.int 1, .int (-1), .int 2, .int (-4), .int 10] i = some (.int k) ∧ k.natAbs ≤ 10 := by
  obtain ⟨x, e, hx⟩ := atI_mem (xs := [D.int 1, .int (-1), .int 2, .int (-4), .int 10]) h0 (by simpa using h1)
  simp at hx
  rcases hx with rfl | rfl | rfl | rfl | rfl <;> exact ⟨_, e, by decide⟩
section
variable {n t : Nat} {S : Sto} {c : Cell}
end
end Law
set_option Elab.async false
set_option linter.all false
set_option maxRecDepth 100000
set_option maxHeartbeats 4000000
namespace Law
open PySem PySem.Spec PyProof.Rows L2 GxR Gx Dn
/-! what a plant is -/
def ratD : D → Rat
  | .tup [.int a, .int b] => Rat.divInt a b
  | _ => 0
@[simp] theorem ratD_dq (q : Rat) : ratD (dq q) = q := by simp [ratD, dq, Rat.num_divInt_den]
def modeB (n : Int) : D → Bool
  | .tup [.tup rows, b, c] => decide ((rows.length : Int) = n) && (rows ++ [b, c]).all (rowB n)
  | _ => false
def spanB : D → Bool
  | .tup [x, y] => (fracB x && fracB y) && decide (ratD x ≤ ratD y)
  | _ => false
def sensB (n : Int) : D → Bool
  | .tup [r, x, y, f] => rowB n r && (fracB x && fracB y) && decide (ratD x + 1 ≤ ratD y) && wholeB f
  | _ => false
def driveB : D → Bool
  | .tup [.int a, .int b, .int c, .int d, .int e] => decide (a ≤ c) && decide (c ≤ b) && (decide (0 ≤ d) && decide (d ≤ 3)) && (decide (0 ≤ e) && decide (e ≤ 1))
  | _ => false
def lenD : D → Int
  | .tup ds => ds.length
  | _ => 0
def allD (p : D → Bool) : D → Bool
  | .tup ds => ds.all p
  | _ => false
def plantB : D → Bool
  | .tup [ms, no, st, se, de, dr, sa] => (tupB no 1 3 && tupB ms 1 3 && tupB st (lenD no) (lenD no) && tupB se 1 2 && tupB sa 1 6) &&
      (allD (modeB (lenD no)) ms && allD spanB no && allD spanB st && allD (sensB (lenD no)) se && fromB de 0 2 && driveB dr && allD (wishB (lenD no)) sa)
  | _ => false
theorem len3 (ds : List D) : (∃ x y z, ds = [x, y, z]) ∨ ds.length ≠ 3 := by
  match ds with
  | [] => exact .inr (by simp)
  | [_] => exact .inr (by simp)
  | [_, _] => exact .inr (by simp)
  | [x, y, z] => exact .inl ⟨x, y, z, rfl⟩
  | _ :: _ :: _ :: _ :: _ => exact .inr (by simp)
theorem len4 (ds : List D) : (∃ x y z w, ds = [x, y, z, w]) ∨ ds.length ≠ 4 := by
  match ds with
  | [] => exact .inr (by simp)
  | x :: r => rcases len3 r with ⟨a, b, c, rfl⟩ | h
              · exact .inl ⟨x, a, b, c, rfl⟩
              · exact .inr (by simp; omega)
theorem len5 (ds : List D) : (∃ x y z w v, ds = [x, y, z, w, v]) ∨ ds.length ≠ 5 := by
  match ds with
  | [] => exact .inr (by simp)
  | x :: r => rcases len4 r with ⟨a, b, c, d, rfl⟩ | h
              · exact .inl ⟨x, a, b, c, d, rfl⟩
              · exact .inr (by simp; omega)
theorem len7 (ds : List D) : (∃ a b c d e f g, ds = [a, b, c, d, e, f, g]) ∨ ds.length ≠ 7 := by
  match ds with
  | [] => exact .inr (by simp)
  | [_] => exact .inr (by simp)
  | x :: y :: r => rcases len5 r with ⟨a, b, c, d, e, rfl⟩ | h
                   · exact .inl ⟨x, y, a, b, c, d, e, rfl⟩
                   · exact .inr (by simp; omega)
theorem tupLen {ds : List D} {k : Nat} : tupB (.tup ds) k k = decide (ds.length = k) := by
  simp only [tupB]
  rw [Bool.eq_iff_iff]
  simp
  omega
theorem tupB_inv {d : D} {lo hi : Int} (h : tupB d lo hi = true) : ∃ ds, d = .tup ds ∧ lo ≤ ds.length ∧ (ds.length : Int) ≤ hi := by
  cases d <;> simp [tupB] at h
  exact ⟨_, rfl, h.1, h.2⟩
theorem modeB_else {n : Int} {ds : List D} (h : ds.length ≠ 3) : modeB n (.tup ds) = false := by
  unfold modeB
  split
  · rename_i e; cases e; simp at h
  · rfl
theorem modeB_no {n : Int} {x y z : D} (h : tupB x n n = false) : modeB n (.tup [x, y, z]) = false := by
  unfold modeB
  split
  · rename_i rows b c e
    cases e
    simp only [tupB, Bool.and_eq_false_iff, decide_eq_false_iff_not] at h
    have : ¬ (rows.length : Int) = n := by omega
    simp [this]
  · rfl
theorem sensB_else {n : Int} {ds : List D} (h : ds.length ≠ 4) : sensB n (.tup ds) = false := by
  unfold sensB
  split
  · rename_i e; cases e; simp at h
  · rfl
theorem driveB_inv {d : D} (h : driveB d = true) : ∃ a b c e f, d = .tup [.int a, .int b, .int c, .int e, .int f] := by
  unfold driveB at h
  split at h
  · exact ⟨_, _, _, _, _, rfl⟩
  · cases h
theorem plantB_else {ds : List D} (h : ds.length ≠ 7) : plantB (.tup ds) = false := by
  unfold plantB
  split
  · rename_i e; cases e; simp at h
  · rfl
theorem qb_gD' {b l : Nat} {q : Rat} (h : gD b l (dq q) = true) : qb b q := by
  simp [gD, gDs, dq] at h
  exact ⟨h.2.1, h.2.2⟩
theorem gD_pos {b l : Nat} {q : Rat} (h : gD b l (dq q) = true) : 0 < b := qb_pos (qb_gD' h)
theorem rowB_two {d : D} : rowB 2 d = true ↔ ∃ p q : Rat, d = .tup [dq p, dq q] := by
  constructor
  · intro h
    cases d <;> simp [rowB] at h
    rename_i ds
    rcases pair_cases ds with ⟨x, y, rfl⟩ | hl
    · simp at h
      obtain ⟨p, rfl⟩ := frac_dq h.1
      obtain ⟨q, rfl⟩ := frac_dq h.2
      exact ⟨p, q, rfl⟩
    · exact absurd (by omega : ds.length = 2) hl
  · rintro ⟨p, q, rfl⟩
    simp [rowB, dq_frac]
theorem spanB_row {d : D} (h : spanB d = true) : rowB 2 d = true := by
  unfold spanB at h
  split at h
  · simp at h
    simp [rowB, h.1.1, h.1.2]
  · cases h
@[simp] theorem spanB_dq (p q : Rat) : spanB (.tup [dq p, dq q]) = decide (p ≤ q) := by simp [spanB, dq_frac]
theorem oIx_0 (x y : D) (S : Sto) : oIx (.d (.tup [x, y])) (.d (.int 0)) S = .ok (.d x) S := by simp
theorem is_span_eq {d : D} {b l : Nat} (S : Sto) (h : gD b l d = true) (hb : b ≤ 1000) : m_is_span [.d d] S = .ok (.d (.bl (spanB d))) S := by
  refine ok_eq ?_
  unfold m_is_span
  refine ok_fn ?_
  unfold b_is_span
  by_cases hr : rowB 2 d = true
  · obtain ⟨p, q, rfl⟩ := rowB_two.mp hr
    have g := gD_items h
    have qp := qb_gD' (g _ List.mem_cons_self)
    have qq := qb_gD' (g _ (List.mem_cons_of_mem _ List.mem_cons_self))
    simp [is_row_of_eq _ h, hr, is_up_to_eq _ qp qq (by omega)]
  · have e : spanB d = false := Bool.eq_false_iff.mpr fun z => hr (spanB_row z)
    simp [is_row_of_eq _ h, hr, e]
theorem is_mode_eq {d : D} {n : Int} {b l : Nat} (S : Sto) (h : gD b l d = true) (hl : l ≤ 1000) : m_is_mode [.d (.int n), .d d] S = .ok (.d (.bl (modeB n d))) S := by
  have hn := gD_nob h
  refine ok_eq ?_
  unfold m_is_mode
  refine ok_fn ?_
  unfold b_is_mode
  cases d with
  | tup ds =>
    rcases len3 ds with ⟨x, y, z, rfl⟩ | hl3
    · have g := gD_items h
      have gx := g x (by simp)
      have gy := g y (by simp)
      have gz := g z (by simp)
      have e3 : tupB (.tup [x, y, z]) 3 3 = true := by simp [tupB]
      have ec : cutL [x, y, z] (some 1) none = [y, z] := by simp [cutL, HT.sIx]
      by_cases c : tupB x n n = true
      · obtain ⟨rows, rfl, h0, h1⟩ := tupB_inv c
        have hr := gD_len gx
        have hz : rows.length + 2 ≤ 16777216 := by omega
        simp [is_tuple_of_eq, hn, e3, c, gD_nob gx, szL, hz, ec]
        refine ok_allG (ds := rows ++ [y, z]) (f := rowB n) (by simp [szL, hz, ec]) (fun d hd => ?_) ?_
        · have gd : gD b l d = true := by
            simp at hd
            rcases hd with hd | rfl | rfl
            · exact gD_items gx d hd
            · exact gy
            · exact gz
          simp [wipeE, is_row_of_eq _ gd]
        · have : (rows.length : Int) = n := by omega
          simp [modeB, this]
      · simp [is_tuple_of_eq, hn, e3, c, gD_nob gx, modeB_no (Bool.eq_false_iff.mpr c)]
    · have e3 : tupB (.tup ds) 3 3 = false := by
        rw [show tupB (.tup ds) 3 3 = decide (ds.length = 3) from tupLen (k := 3)]; simpa using hl3
      simp [is_tuple_of_eq, hn, e3, modeB_else hl3]
  | _ => simp [is_tuple_of_eq, hn, tupB, modeB]
theorem one_qb : qb 2 (1 : Rat) := ⟨by decide, by decide⟩
theorem dq_one : D.tup [.int 1, .int 1] = dq 1 := by simp [dq]
theorem sens_cases {n : Int} {r x y f : D} : sensB n (.tup [r, x, y, f]) = (rowB n r && rowB 2 (.tup [x, y]) && decide (ratD x + 1 ≤ ratD y) && wholeB f) := by
  simp [sensB, rowB]
theorem is_sensor_eq {d : D} {n : Int} {b l : Nat} (S : Sto) (h : gD b l d = true) (hb : b ≤ 1000) (hl : 4 ≤ l) : m_is_sensor [.d (.int n), .d d] S = .ok (.d (.bl (sensB n d))) S := by
  have hn := gD_nob h
  refine ok_eq ?_
  unfold m_is_sensor
  refine ok_fn ?_
  unfold b_is_sensor
  cases d with
  | tup ds =>
    rcases len4 ds with ⟨r, x, y, f, rfl⟩ | hl4
    · have g := gD_items h
      have gr := g r (by simp)
      have gx := g x (by simp)
      have gy := g y (by simp)
      have gf := g f (by simp)
      have gxy : gD b l (.tup [x, y]) = true := by simp [gD, gDs, gx, gy]; omega
      have e4 : tupB (.tup [r, x, y, f]) 4 4 = true := by simp [tupB]
      have ec : cutL [r, x, y, f] (some 1) (some 3) = [x, y] := by simp [cutL, HT.sIx]
      rw [sens_cases]
      by_cases c1 : rowB n r = true
      · by_cases c2 : rowB 2 (.tup [x, y]) = true
        · obtain ⟨p, q, e⟩ := rowB_two.mp c2
          simp at e
          obtain ⟨rfl, rfl⟩ := e
          have qp := qb_gD' gx
          have qq := qb_gD' gy
          simp [is_tuple_of_eq, hn, e4, is_row_of_eq _ gr, c1, ec, is_row_of_eq _ gxy, c2, szL]
          rw [dq_one, total_eq _ qp one_qb (by omega)]
          simp [is_up_to_eq _ (qb_add qp one_qb) qq (by omega)]
          by_cases c3 : p + 1 ≤ q
          · simp [c3, is_whole_eq _ (gD_nob gf)]
          · simp [c3]
        · simp [is_tuple_of_eq, hn, e4, is_row_of_eq _ gr, c1, ec, is_row_of_eq _ gxy, c2, szL]
      · simp [is_tuple_of_eq, hn, e4, is_row_of_eq _ gr, c1]
    · have e4 : tupB (.tup ds) 4 4 = false := by
        rw [show tupB (.tup ds) 4 4 = decide (ds.length = 4) from tupLen (k := 4)]; simpa using hl4
      simp [is_tuple_of_eq, hn, e4, sensB_else hl4]
  | _ => simp [is_tuple_of_eq, hn, tupB, sensB]
theorem whole_all {a b c d e : D} (h : [a, b, c, d, e].all wholeB = true) : ∃ i j k m o : Int, a = .int i ∧ b = .int j ∧ c = .int k ∧ d = .int m ∧ e = .int o := by
  have w : ∀ {x : D}, wholeB x = true → ∃ i, x = .int i := fun {x} hx => by cases x <;> simp [wholeB] at hx; exact ⟨_, rfl⟩
  simp at h
  obtain ⟨h1, h2, h3, h4, h5⟩ := h
  obtain ⟨i, rfl⟩ := w h1
  obtain ⟨j, rfl⟩ := w h2
  obtain ⟨k, rfl⟩ := w h3
  obtain ⟨m, rfl⟩ := w h4
  obtain ⟨o, rfl⟩ := w h5
  exact ⟨i, j, k, m, o, rfl, rfl, rfl, rfl, rfl⟩
theorem driveB_no5 {ds : List D} (h : ds.length ≠ 5) : driveB (.tup ds) = false := Bool.eq_false_iff.mpr fun z => by
  obtain ⟨_, _, _, _, _, e⟩ := driveB_inv z
  cases e
  simp at h
theorem driveB_noW {ds : List D} (h : ds.all wholeB = false) : driveB (.tup ds) = false := Bool.eq_false_iff.mpr fun z => by
  obtain ⟨_, _, _, _, _, e⟩ := driveB_inv z
  cases e
  simp [wholeB] at h
theorem is_drive_eq {d : D} {b l : Nat} (S : Sto) (h : gD b l d = true) : m_is_drive [.d d] S = .ok (.d (.bl (driveB d))) S := by
  have hn := gD_nob h
  refine ok_eq ?_
  unfold m_is_drive
  refine ok_fn ?_
  unfold b_is_drive
  cases d with
  | tup ds =>
    rcases len5 ds with ⟨x1, x2, x3, x4, x5, rfl⟩ | hl5
    · have g := gD_items h
      have e5 : tupB (.tup [x1, x2, x3, x4, x5]) 5 5 = true := by simp [tupB]
      simp [is_tuple_of_eq, hn, e5]
      refine ok_allG (ds := [x1, x2, x3, x4, x5]) (f := wholeB) (by simp) (fun d hd => ?_) ?_
      · simp [wipeE, is_whole_eq _ (gD_nob (g d hd))]
      · by_cases c : [x1, x2, x3, x4, x5].all wholeB = true
        · obtain ⟨i, j, k, m, o, rfl, rfl, rfl, rfl, rfl⟩ := whole_all c
          simp [wholeB, driveB]
          by_cases c1 : i ≤ k <;> by_cases c2 : k ≤ j <;> by_cases c3 : 0 ≤ m <;> by_cases c4 : m ≤ 3 <;> simp [c1, c2, c3, c4]
          all_goals by_cases c5 : 0 ≤ o <;> simp [c5]
        · have c' := Bool.eq_false_iff.mpr c
          rw [c']
          simp [driveB_noW c']
    · have e5 : tupB (.tup ds) 5 5 = false := by
        rw [show tupB (.tup ds) 5 5 = decide (ds.length = 5) from tupLen (k := 5)]; simpa using hl5
      simp [is_tuple_of_eq, hn, e5, driveB_no5 hl5]
  | _ => simp [is_tuple_of_eq, hn, tupB, driveB]
end Law
set_option Elab.async false
set_option linter.all false
set_option maxRecDepth 100000
set_option maxHeartbeats 8000000
namespace Law
open PySem PySem.Spec PyProof.Rows L2 GxR Gx Dn
theorem tupB7 {ds : List D} : tupB (.tup ds) 7 7 = decide (ds.length = 7) := tupLen (k := 7)
theorem is_right_plant_eq {d : D} {b l : Nat} (S : Sto) (h : gD b l d = true) (hb : b ≤ 1000) (hl4 : 4 ≤ l) (hl : l ≤ 1000) : m_is_right_plant [.d d] S = .ok (.d (.bl (plantB d))) S := by
  have hn := gD_nob h
  refine ok_eq ?_
  unfold m_is_right_plant
  refine ok_fn ?_
  unfold b_is_right_plant
  cases d with
  | tup ds =>
    rcases len7 ds with ⟨ms, no, st, se, de, dr, sa, rfl⟩ | hl7
    · have g := gD_items h
      have g1 := g ms (by simp)
      have g2 := g no (by simp)
      have g3 := g st (by simp)
      have g4 := g se (by simp)
      have g5 := g de (by simp)
      have g6 := g dr (by simp)
      have g7 := g sa (by simp)
      have e7 : tupB (.tup [ms, no, st, se, de, dr, sa]) 7 7 = true := by simp [tupB]
      by_cases c1 : tupB no 1 3 = true
      case neg => simp [is_tuple_of_eq, hn, e7, gD_nob g2, c1, plantB]
      by_cases c2 : tupB ms 1 3 = true
      case neg =>
        obtain ⟨ns, rfl, n0, n1⟩ := tupB_inv c1
        simp [is_tuple_of_eq, hn, e7, gD_nob g2, gD_nob g1, c1, c2, plantB]
      by_cases c3 : tupB st (lenD no) (lenD no) = true
      case neg =>
        obtain ⟨ns, rfl, n0, n1⟩ := tupB_inv c1
        simp [lenD] at c3
        simp [is_tuple_of_eq, hn, e7, gD_nob g2, gD_nob g1, gD_nob g3, c1, c2, c3, plantB, lenD]
      by_cases c4 : tupB se 1 2 = true
      case neg =>
        obtain ⟨ns, rfl, n0, n1⟩ := tupB_inv c1
        simp [lenD] at c3
        simp [is_tuple_of_eq, hn, e7, gD_nob g2, gD_nob g1, gD_nob g3, gD_nob g4, c1, c2, c3, c4, plantB, lenD]
      obtain ⟨ns, rfl, n0, n1⟩ := tupB_inv c1
      obtain ⟨mss, rfl, m0, m1⟩ := tupB_inv c2
      obtain ⟨sts, rfl, s0, s1⟩ := tupB_inv c3
      obtain ⟨ses, rfl, se0, se1⟩ := tupB_inv c4
      simp [lenD] at c3 s0 s1
      have hz : ns.length + sts.length ≤ 16777216 := by omega
      simp [is_tuple_of_eq, hn, e7, gD_nob g2, gD_nob g1, gD_nob g3, gD_nob g4, c1, c2, c3, c4]
      refine ok_allG (ds := mss) (f := modeB ns.length) (by simp) (fun d hd => by simp [wipeE, is_mode_eq _ (gD_items g1 d hd) hl]) ?_
      by_cases a1 : mss.all (modeB ns.length) = true
      case neg =>
        rw [Bool.eq_false_iff.mpr a1]
        simp [plantB, lenD, allD, Bool.eq_false_iff.mpr a1]
      rw [a1]
      simp
      refine ok_allG (ds := ns ++ sts) (f := spanB) (by simp [szL, hz]) (fun d hd => by
        have gd : gD b l d = true := by
          rcases List.mem_append.mp hd with hd | hd
          · exact gD_items g2 d hd
          · exact gD_items g3 d hd
        simp [wipeE, is_span_eq _ gd hb]) ?_
      by_cases a2 : (ns ++ sts).all spanB = true
      case neg =>
        rw [Bool.eq_false_iff.mpr a2]
        have r : plantB (.tup [.tup mss, .tup ns, .tup sts, .tup ses, de, dr, sa]) = false := Bool.eq_false_iff.mpr fun z => a2 (by
          simp only [plantB, lenD, Bool.and_eq_true] at z
          rw [List.all_append, Bool.and_eq_true]
          exact ⟨z.2.1.1.1.1.1.2, z.2.1.1.1.1.2⟩)
        simp [r]
      rw [a2]
      have a2' : ns.all spanB = true ∧ sts.all spanB = true := by rw [List.all_append, Bool.and_eq_true] at a2; exact a2
      simp
      refine ok_allG (ds := ses) (f := sensB ns.length) (by simp) (fun d hd => by simp [wipeE, is_sensor_eq _ (gD_items g4 d hd) hb hl4]) ?_
      by_cases a3 : ses.all (sensB ns.length) = true
      case neg =>
        rw [Bool.eq_false_iff.mpr a3]
        simp [plantB, lenD, allD, Bool.eq_false_iff.mpr a3]
      rw [a3]
      simp [is_whole_from_eq, gD_nob g5]
      by_cases a4 : fromB de 0 2 = true
      case neg => simp [a4, plantB]
      simp [a4, is_drive_eq _ g6]
      by_cases a5 : driveB dr = true
      case neg => simp [a5, plantB]
      simp [a5, is_tuple_of_eq, gD_nob g7]
      by_cases a6 : tupB sa 1 6 = true
      case neg => simp [a6, plantB]
      obtain ⟨sas, rfl, _, _⟩ := tupB_inv a6
      simp [a6]
      refine ok_allG (ds := sas) (f := wishB ns.length) (by simp) (fun d hd => by simp [wipeE, is_wish_eq _ (gD_items g7 d hd)]) ?_
      simp [plantB, lenD, c1, c2, c3, c4, a6, allD, a1, a2'.1, a2'.2, a3, a4, a5]
    · have e7 : tupB (.tup ds) 7 7 = false := by rw [tupB7]; simpa using hl7
      simp [is_tuple_of_eq, hn, e7, plantB_else hl7]
  | _ => simp [is_tuple_of_eq, hn, tupB, plantB]
/-! the law's own looks -/
end Law
set_option Elab.async false
set_option linter.all false
set_option maxRecDepth 100000
set_option maxHeartbeats 4000000
namespace Law
open PySem PySem.Spec PyProof.Rows L2 GxR Gx Dn
theorem dq_pA {q : Rat} (h : qb 24 q) : pA 24 8 1 (dq q) := pA_tup (h := 0) (by simp) fun x hx => by
  simp at hx
  rcases hx with rfl | rfl
  · exact pA_int h.n
  · exact pA_int (by simpa using h.d)
theorem drow_pA {z : Nat} {xs : List Rat} (h : rowP z xs) (hz : z ≤ 8) : pA 24 8 2 (drow xs) := pA_tup (by simp [h.l]; exact hz) fun x hx => by
  obtain ⟨q, hq, rfl⟩ := List.mem_map.mp hx
  exact dq_pA (h.q q hq)
theorem up_pA {h h' : Nat} {d : D} (p : pA 24 8 h d) (hh : h ≤ h') : pA 24 8 h' d := pA_mono p (Nat.le_refl _) (Nat.le_refl _) hh
theorem maps_pA {α : Type} {e : α → D} {xs : List α} {h : Nat} (hl : xs.length ≤ 8) (hx : ∀ x ∈ xs, pA 24 8 h (e x)) : pA 24 8 (h + 1) (.tup (xs.map e)) := pA_tup (by simpa using hl) fun x m => by
  obtain ⟨y, hy, rfl⟩ := List.mem_map.mp m
  exact hx y hy
theorem plant_pA {z : Nat} {P : Pl} (h : PlOk z P) : pA 24 8 6 (dplant P) := by
  have hz := h.z1
  have hm := h.m1
  have h3 := h.nl
  have h4 := h.sl
  have h5 := h.e1
  have h6 := h.f1
  refine pA_tup (h := 5) (by simp) fun x hx => ?_
  simp at hx
  rcases hx with rfl | rfl | rfl | rfl | rfl | rfl | rfl
  · refine maps_pA (h := 4) (by omega) fun m hm => ?_
    have k := h.m m hm
    refine pA_tup (h := 3) (by simp) fun y hy => ?_
    simp at hy
    rcases hy with rfl | rfl | rfl
    · exact maps_pA (h := 2) (by rw [k.l]; omega) fun r hr => drow_pA (k.a r hr) (by omega)
    · exact up_pA (drow_pA k.b (by omega)) (by omega)
    · exact up_pA (drow_pA k.c (by omega)) (by omega)
  · refine up_pA (h := 3) (maps_pA (h := 2) (by omega) fun p hp => ?_) (by omega)
    have k := h.n p hp
    exact pA_tup (h := 1) (by simp) fun y hy => by
      simp at hy
      rcases hy with rfl | rfl
      · exact dq_pA k.a
      · exact dq_pA k.b
  · refine up_pA (h := 3) (maps_pA (h := 2) (by omega) fun p hp => ?_) (by omega)
    have k := h.s p hp
    exact pA_tup (h := 1) (by simp) fun y hy => by
      simp at hy
      rcases hy with rfl | rfl
      · exact dq_pA k.a
      · exact dq_pA k.b
  · refine up_pA (h := 4) (maps_pA (h := 3) (by omega) fun p hp => ?_) (by omega)
    have k := h.e p hp
    exact pA_tup (h := 2) (by simp) fun y hy => by
      simp at hy
      rcases hy with rfl | rfl | rfl | rfl
      · exact drow_pA k.r (by omega)
      · exact up_pA (dq_pA k.a) (by omega)
      · exact up_pA (dq_pA k.b) (by omega)
      · exact pA_int k.f
  · have a := h.d0
    have b := h.d1
    exact pA_int (by omega)
  · have k := h.dr
    have k1 := k.a
    have k2 := k.b
    have k3 := k.r1
    have k4 := k.r2
    have k5 := k.h0
    have k6 := k.h1
    have k7 := k.c0
    have k8 := k.c1
    exact pA_tup (h := 4) (by simp) fun y hy => by
      simp at hy
      rcases hy with rfl | rfl | rfl | rfl | rfl <;> exact pA_int (by omega)
  · refine up_pA (h := 4) (maps_pA (h := 3) (by omega) fun w hw => ?_) (by omega)
    have k := h.f w hw
    exact pA_tup (h := 2) (by simp) fun y hy => by
      simp at hy
      rcases hy with rfl | rfl
      · exact drow_pA ⟨k.l, k.r⟩ (by omega)
      · exact up_pA (dq_pA k.b) (by omega)
/-! two truths -/
theorem same_bl {k : Nat} {x y : Bool} (S : Sto) : m__law_same (k + 1) [.d (.bl x), .d (.bl y)] S = .ok (.d (.bl (x == y))) S := by
  refine ok_eq ?_
  show Ok (dFn 4 (b__law_same (fun _ => m__law_same k) k) [.d (.bl x), .d (.bl y)] S) _
  refine ok_fn ?_
  unfold b__law_same
  cases x <;> cases y <;> simp [isi, oEqB, pyV, D.py, SeqAt.shaped, PyData.canLay0, PyData.depth, PyData.eqv, Dn.isNon]
end Law
set_option Elab.async false
set_option linter.all false
set_option maxRecDepth 100000
set_option maxHeartbeats 4000000
namespace Law
open PySem PySem.Spec PyProof.Rows L2 GxR Gx Dn
theorem dotL_eq {x y : D} {ps qs : List Rat} {k : Nat} (S : Sto) (h : rows2 x y ps qs) (hb : ∀ z ∈ ps.zip qs, qb k z.1 ∧ qb k z.2) (hl : (2 * k + 2) * (ps.zip qs).length ≤ 1000) (hk : k ≤ 400) : m__law_dot [.d x, .d y] S = .ok (.d (dq (dotQ (ps.zip qs)))) S := by
  refine ok_eq ?_
  unfold m__law_dot
  refine ok_fn ?_
  unfold b__law_dot
  simp [szL, iZip_eq h]
  obtain ⟨I, hI⟩ : ∃ I : Nat → Dn.Env → Sto → Prop, ∀ j env S', I j env S' ↔ ∃ e3 e4, env = [some (.d x), some (.d y), some (.d (dq (dotQ ((ps.zip qs).take j)))), e3, e4] ∧ S' = S := ⟨_, fun _ _ _ => Iff.rfl⟩
  refine ok_loop (I := I) ((hI _ _ _).mpr ⟨none, none, by simp [dotQ, dq], rfl⟩) (fun _ _ _ _ => wtOk_nil _) ?_ ?_
  · rintro j d env S' ed h'
    obtain ⟨e3, e4, rfl, rfl⟩ := (hI _ _ _).mp h'
    unfold zipD at ed
    rw [List.getElem?_map] at ed
    obtain ⟨z, ez, rfl⟩ := Option.map_eq_some_iff.mp ed
    have hz := hb z (List.mem_of_getElem? ez)
    have hj : j < (ps.zip qs).length := (List.getElem?_eq_some_iff.mp ez).1
    have hB := dot_bound hb j
    have hm : (2 * k + 2) * j ≤ 1000 := Nat.le_trans (Nat.mul_le_mul_left _ (Nat.le_of_lt hj)) hl
    simp [timesL_eq _ hz.1 hz.2 (by omega), plusL_eq _ hB (qb_mul hz.1 hz.2) (by omega)]
    exact (hI (j + 1) _ _).mpr ⟨_, _, by rw [dotQ_take ez], rfl⟩
  · rintro env S' h'
    obtain ⟨e3, e4, rfl, rfl⟩ := (hI _ _ _).mp h'
    have e : (zipD (ps.zip qs)).length = (ps.zip qs).length := by simp [zipD]
    rw [e, List.take_length]
    simp [dq]
theorem dotQ_snoc {xs ys : List Rat} {a b : Rat} (h : xs.length = ys.length) : dotQ ((xs ++ [a]).zip (ys ++ [b])) = dotQ (xs.zip ys) + a * b := by
  rw [List.zip_append h]
  unfold dotQ
  rw [List.foldl_append]
  rfl
/-! drawn plants are plants -/
theorem mode_ok {z : Nat} {m : Md} (h : MdOk z m) : modeB z (dmode m) = true := by
  simp only [modeB, dmode, List.length_map, h.l, decide_true, Bool.true_and, List.all_eq_true]
  intro d hd
  simp at hd
  rcases hd with ⟨r, hr, rfl⟩ | rfl | rfl
  · exact drow_row (h.a r hr).l
  · exact drow_row h.b.l
  · exact drow_row h.c.l
theorem sens_ok {z : Nat} {s : Sn} (h : SnOk z s) : sensB z (dsens s) = true := by
  simp [sensB, dsens, drow_row h.r.l, dq_frac, h.le, wholeB]
theorem plant_ok {z : Nat} {P : Pl} (h : PlOk z P) : plantB (dplant P) = true := by
  have z0 := h.z0
  have z1 := h.z1
  have m0 := h.m0
  have m1 := h.m1
  have nl := h.nl
  have sl := h.sl
  have e0 := h.e0
  have e1 := h.e1
  have f0 := h.f0
  have f1 := h.f1
  have d0 := h.d0
  have d1 := h.d1
  have r := h.dr
  have t1 : tupB (.tup (P.no.map dspan)) 1 3 = true := by simp [tupB]; omega
  have t2 : tupB (.tup (P.ms.map dmode)) 1 3 = true := by simp [tupB]; omega
  have t3 : tupB (.tup (P.st.map dspan)) (lenD (.tup (P.no.map dspan))) (lenD (.tup (P.no.map dspan))) = true := by simp [tupB, lenD]; omega
  have t4 : tupB (.tup (P.se.map dsens)) 1 2 = true := by simp [tupB]; omega
  have t5 : tupB (.tup (P.sf.map dwish)) 1 6 = true := by simp [tupB]; omega
  have el : lenD (.tup (P.no.map dspan)) = (z : Int) := by simp [lenD, nl]
  have a1 : allD (modeB (lenD (.tup (P.no.map dspan)))) (.tup (P.ms.map dmode)) = true := by
    rw [el]
    simp only [allD, List.all_map, List.all_eq_true, Function.comp_def]
    exact fun m hm => mode_ok (h.m m hm)
  have a2 : allD spanB (.tup (P.no.map dspan)) = true := by
    simp only [allD, List.all_map, List.all_eq_true, Function.comp_def]
    intro p hp
    simp [dspan, (h.n p hp).le]
  have a3 : allD spanB (.tup (P.st.map dspan)) = true := by
    simp only [allD, List.all_map, List.all_eq_true, Function.comp_def]
    intro p hp
    simp [dspan, (h.s p hp).le]
  have a4 : allD (sensB (lenD (.tup (P.no.map dspan)))) (.tup (P.se.map dsens)) = true := by
    rw [el]
    simp only [allD, List.all_map, List.all_eq_true, Function.comp_def]
    exact fun s hs => sens_ok (h.e s hs)
  have a5 : fromB (.int P.dl) 0 2 = true := by simp [fromB, d0, d1]
  have a6 : driveB (ddrive P.dr) = true := by simp [driveB, ddrive, r.r1, r.r2, r.h0, r.h1, r.c0, r.c1]
  have a7 : allD (wishB (lenD (.tup (P.no.map dspan)))) (.tup (P.sf.map dwish)) = true := by
    rw [el]
    simp only [allD, List.all_map, List.all_eq_true, Function.comp_def]
    exact fun w hw => dwish_wish (h.f w hw)
  simp only [plantB, dplant, t1, t2, t3, t4, t5, a1, a2, a3, a4, a5, a6, a7, Bool.and_self]
theorem check_plant_eq {z : Nat} {P : Pl} (S : Sto) (h : PlOk z P) : m_check_plant [.d (dplant P)] S = .ok (.d .non) S := by
  refine ok_eq ?_
  unfold m_check_plant
  refine ok_fn ?_
  unfold b_check_plant
  simp [is_right_plant_eq _ (plant_pA h).g (by decide) (by decide) (by decide), plant_ok h]
theorem ix_plant {P : Pl} (S : Sto) : oIx (.d (dplant P)) (.d (.int 0)) S = .ok (.d (.tup (P.ms.map dmode))) S ∧ oIx (.d (dplant P)) (.d (.int 1)) S = .ok (.d (.tup (P.no.map dspan))) S ∧ oIx (.d (dplant P)) (.d (.int 2)) S = .ok (.d (.tup (P.st.map dspan))) S ∧
    oIx (.d (dplant P)) (.d (.int 3)) S = .ok (.d (.tup (P.se.map dsens))) S ∧ oIx (.d (dplant P)) (.d (.int 5)) S = .ok (.d (ddrive P.dr)) S ∧ oIx (.d (dplant P)) (.d (.int 6)) S = .ok (.d (.tup (P.sf.map dwish))) S :=
  ⟨(rfl), (rfl), (rfl), (rfl), (rfl), (rfl)⟩
theorem ix0 {P : Pl} (S : Sto) : oIx (.d (dplant P)) (.d (.int 0)) S = .ok (.d (.tup (P.ms.map dmode))) S := (ix_plant S).1
theorem ix1 {P : Pl} (S : Sto) : oIx (.d (dplant P)) (.d (.int 1)) S = .ok (.d (.tup (P.no.map dspan))) S := (ix_plant S).2.1
theorem ix2 {P : Pl} (S : Sto) : oIx (.d (dplant P)) (.d (.int 2)) S = .ok (.d (.tup (P.st.map dspan))) S := (ix_plant S).2.2.1
theorem ix3 {P : Pl} (S : Sto) : oIx (.d (dplant P)) (.d (.int 3)) S = .ok (.d (.tup (P.se.map dsens))) S := (ix_plant S).2.2.2.1
theorem ix5 {P : Pl} (S : Sto) : oIx (.d (dplant P)) (.d (.int 5)) S = .ok (.d (ddrive P.dr)) S := (ix_plant S).2.2.2.2.1
theorem ix6 {P : Pl} (S : Sto) : oIx (.d (dplant P)) (.d (.int 6)) S = .ok (.d (.tup (P.sf.map dwish))) S := (ix_plant S).2.2.2.2.2
/-! moved -/
def movedQ (m : Md) (xs : List Rat) (u : Int) (ws : List Rat) : List Rat := (m.A.zip (m.b.zip (m.c.zip ws))).map fun r => dotQ (r.1.zip xs) + r.2.1 * (u : Rat) + (r.2.2.1 + r.2.2.2)
theorem movedQ_at {m : Md} {xs ws r : List Rat} {u : Int} {b c w : Rat} {k : Nat} (h1 : m.A[k]? = some r) (h2 : m.b[k]? = some b) (h3 : m.c[k]? = some c) (h4 : ws[k]? = some w) : (movedQ m xs u ws)[k]? = some (dotQ (r.zip xs) + b * (u : Rat) + (c + w)) := by
  have e1 : (m.c.zip ws)[k]? = some (c, w) := by rw [List.getElem?_zip_eq_some]; exact ⟨h3, h4⟩
  have e2 : (m.b.zip (m.c.zip ws))[k]? = some (b, c, w) := by rw [List.getElem?_zip_eq_some]; exact ⟨h2, e1⟩
  have e3 : (m.A.zip (m.b.zip (m.c.zip ws)))[k]? = some (r, b, c, w) := by rw [List.getElem?_zip_eq_some]; exact ⟨h1, e2⟩
  simp [movedQ, List.getElem?_map, e3]
theorem movedQ_len {m : Md} {xs ws : List Rat} {u : Int} {z : Nat} (hm : MdOk z m) (hw : rowP z ws) : (movedQ m xs u ws).length = z := by
  simp [movedQ, hm.l, hm.b.l, hm.c.l, hw.l]
theorem at_of {α : Type} {xs : List α} {k z : Nat} (hl : xs.length = z) (hk : k < z) : ∃ x, xs[k]? = some x ∧ x ∈ xs := by
  have h : k < xs.length := by omega
  exact ⟨xs[k], List.getElem?_eq_getElem h, List.getElem_mem h⟩
theorem take_at {α β : Type} {xs : List α} {f : α → β} {k : Nat} {x : α} (h : xs[k]? = some x) : (xs.take (k + 1)).map f = (xs.take k).map f ++ [f x] := by
  rw [List.take_add_one, h]
  simp
theorem dq_intL (u : Int) : D.tup [.int u, .int 1] = dq (u : Rat) := by simp [dq]
theorem qb_intL {u : Int} (h : u.natAbs < 2 ^ 24) : qb 24 (u : Rat) := ⟨by simpa using h, by simp⟩
@[simp] theorem diT4_eq (As : DAf) (env : Dn.Env) (S : Sto) : diT4 As env S = (As env S).bind fun xs S1 => Dn.iT4 xs S1 := (rfl)
@[simp] theorem iT4_tup (a b c d : List D) (S : Sto) : Dn.iT4 [.d (.tup a), .d (.tup b), .d (.tup c), .d (.tup d)] S = .ok ⟨zipT4 a b c d, []⟩ S := (rfl)
/-- a cell behind the store -/
theorem c_at {S : Sto} (c : Cell) : (S ++ [c])[S.length]? = some c := by simp
theorem c_put {S : Sto} (c d : Cell) : (S ++ [c]).set S.length d = S ++ [d] := by simp
theorem c_take {S : Sto} (c : Cell) : (S ++ [c]).take S.length = S := by simp
theorem dots_qb {z : Nat} {r xs : List Rat} (hr : rowP z r) (hx : rowP z xs) (hz : z ≤ 3) : qb 160 (dotQ (r.zip xs)) := by
  have zb := zip_qb hr.q hx.q
  have d := dot_bound zb (r.zip xs).length
  rw [List.take_length] at d
  have l := zip_le (ys := xs) hr.l
  exact qb_mono d (by omega)
theorem moved_on_eq {z : Nat} {m : Md} {xs ws : List Rat} {u : Int} (S : Sto) (hm : MdOk z m) (hx : rowP z xs) (hw : rowP z ws) (hu : u.natAbs < 2 ^ 24) (hz : z ≤ 3) :
    m_moved_on [.d (dmode m), .d (drow xs), .d (.int u), .d (drow ws)] S = .ok (.d (drow (movedQ m xs u ws))) S := by
  refine ok_eq ?_
  unfold m_moved_on
  refine ok_fn ?_
  unfold b_moved_on
  have ml := movedQ_len (xs := xs) (u := u) hm hw
  rw [dSeq_eq, asg_cell]
  have i0 : oIx (.d (dmode m)) (.d (.int 0)) = fun S => .ok (.d (.tup (m.A.map drow))) S := by funext S; simp [dmode]
  have i1 : oIx (.d (dmode m)) (.d (.int 1)) = fun S => .ok (.d (.tup (m.b.map dq))) S := by funext S; simp [dmode, drow]
  have i2 : oIx (.d (dmode m)) (.d (.int 2)) = fun S => .ok (.d (.tup (m.c.map dq))) S := by funext S; simp [dmode, drow]
  simp [i0, i1, i2]
  rw [show drow ws = .tup (ws.map dq) from rfl]
  simp
  have zlen : (zipT4 (m.A.map drow) (m.b.map dq) (m.c.map dq) (ws.map dq)).length = z := by rw [zipT4_len]; simp [hm.l, hm.b.l, hm.c.l, hw.l]
  obtain ⟨I, hI⟩ : ∃ I : Nat → Dn.Env → Sto → Prop, ∀ j env S', I j env S' ↔ ∃ e5 e6 e7 e8, env = [some (.d (dmode m)), some (.d (drow xs)), some (.d (.int u)), some (.d (.tup (ws.map dq))), some (.r S.length), e5, e6, e7, e8] ∧ S' = S ++ [.lst (((movedQ m xs u ws).take j).map dq)] := ⟨_, fun _ _ _ => Iff.rfl⟩
  refine ok_loop (I := I) ((hI 0 _ _).mpr ⟨_, _, _, _, rfl, by simp⟩) (fun _ _ _ _ => wtOk_nil _) ?_ ?_
  · rintro k d env S' ed h'
    obtain ⟨e5, e6, e7, e8, rfl, rfl⟩ := (hI _ _ _).mp h'
    have hk : k < z := by rw [← zlen]; exact (List.getElem?_eq_some_iff.mp ed).1
    obtain ⟨r, er, hr⟩ := at_of hm.l hk
    obtain ⟨b, eb, hb⟩ := at_of hm.b.l hk
    obtain ⟨c, ec, hc⟩ := at_of hm.c.l hk
    obtain ⟨w, ew, hw'⟩ := at_of hw.l hk
    have e4 := zipT4_at (i := k) (ds1 := m.A.map drow) (ds2 := m.b.map dq) (ds3 := m.c.map dq) (ds4 := ws.map dq) (d1 := drow r) (d2 := dq b) (d3 := dq c) (d4 := dq w) (by simp [er]) (by simp [eb]) (by simp [ec]) (by simp [ew])
    rw [e4] at ed
    cases ed
    have hrow := hm.a r hr
    have qbb := hm.b.q b hb
    have qbc := hm.c.q c hc
    have qbw := hw.q w hw'
    have hl1 : r.length = xs.length := by rw [hrow.l, hx.l]
    have zb : ∀ y ∈ (r ++ [b]).zip (xs ++ [(u : Rat)]), qb 24 y.1 ∧ qb 24 y.2 := zip_qb (fun q hq => by
      rcases List.mem_append.mp hq with hq | hq
      · exact hrow.q q hq
      · rw [List.mem_singleton.mp hq]; exact qbb) (fun q hq => by
      rcases List.mem_append.mp hq with hq | hq
      · exact hx.q q hq
      · rw [List.mem_singleton.mp hq]; exact qb_intL hu)
    have ll : ((r ++ [b]).zip (xs ++ [(u : Rat)])).length ≤ 4 := by simp [hrow.l, hx.l]; omega
    have p := fun T : Sto => product_of_eq T (rows2.tt (r ++ [b]) (xs ++ [(u : Rat)])) zb (by omega) (by decide)
    simp only [dotQ_snoc hl1] at p
    have qd := dots_qb hrow hx hz
    have qs := qb_add qd (qb_mul qbb (qb_intL hu))
    have e1 : ∀ T, oAdd (.d (drow r)) (.d (.tup [dq b])) T = .ok (.d (.tup ((r ++ [b]).map dq))) T := fun T => by
      have : r.length + 1 ≤ 16777216 := by rw [hrow.l]; omega
      simp [drow, szL, this]
    have e2 : ∀ T, oAdd (.d (drow xs)) (.d (.tup [dq (u : Rat)])) T = .ok (.d (.tup ((xs ++ [(u : Rat)]).map dq))) T := fun T => by
      have : xs.length + 1 ≤ 16777216 := by rw [hx.l]; omega
      simp [drow, szL, this]
    have hz2 : min k z < 16777216 := by omega
    simp [szL, dq_intL, e1, e2]
    simp only [List.map_append, List.map_cons, List.map_nil] at p
    simp [p, total_eq _ qbc qbw (by omega), total_eq _ qs (qb_add qbc qbw) (by omega), ml, hz2, szL]
    refine (hI (k + 1) _ _).mpr ⟨_, _, _, _, rfl, ?_⟩
    rw [take_at (movedQ_at er eb ec ew)]
    simp
  · rintro env S' h'
    obtain ⟨e5, e6, e7, e8, rfl, rfl⟩ := (hI _ _ _).mp h'
    rw [zlen, List.take_of_length_le (by omega)]
    simp [drow]
end Law
set_option Elab.async false
set_option linter.all false
set_option maxRecDepth 100000
set_option maxHeartbeats 4000000
namespace Law
open PySem PySem.Spec PyProof.Rows L2 GxR Gx Dn
theorem atI_map {α : Type} {e : α → D} {xs : List α} {k : Nat} {x : α} (h : xs[k]? = some x) : atI (xs.map e) (k : Int) = some (e x) := by
  rw [atI_cast]
  simp [h]
theorem l_moved_eq {z : Nat} {m : Md} {xs ws : List Rat} {u : Int} (S : Sto) (hm : MdOk z m) (hx : rowP z xs) (hw : rowP z ws) (hu : u.natAbs < 2 ^ 24) (hz : z ≤ 3) :
    m__law_moved [.d (dmode m), .d (drow xs), .d (.int u), .d (drow ws)] S = .ok (.d (drow (movedQ m xs u ws))) S := by
  refine ok_eq ?_
  unfold m__law_moved
  refine ok_fn ?_
  unfold b__law_moved
  have ml := movedQ_len (xs := xs) (u := u) hm hw
  have sm : smallI (z : Int) = true := by unfold smallI; simp; omega
  have hxl : (drow xs) = .tup (xs.map dq) := rfl
  rw [dSeq_eq, asg_cell]
  have i0 : oIx (.d (dmode m)) (.d (.int 0)) = fun S => .ok (.d (.tup (m.A.map drow))) S := by funext S; simp [dmode]
  have i1 : oIx (.d (dmode m)) (.d (.int 1)) = fun S => .ok (.d (.tup (m.b.map dq))) S := by funext S; simp [dmode, drow]
  have i2 : oIx (.d (dmode m)) (.d (.int 2)) = fun S => .ok (.d (.tup (m.c.map dq))) S := by funext S; simp [dmode, drow]
  rw [show drow ws = .tup (ws.map dq) from rfl, hxl]
  simp [hx.l, sm]
  obtain ⟨I, hI⟩ : ∃ I : Nat → Dn.Env → Sto → Prop, ∀ j env S', I j env S' ↔ ∃ e5 e6, env = [some (.d (dmode m)), some (.d (.tup (xs.map dq))), some (.d (.int u)), some (.d (.tup (ws.map dq))), some (.r S.length), e5, e6] ∧ S' = S ++ [.lst (((movedQ m xs u ws).take j).map dq)] := ⟨_, fun _ _ _ => Iff.rfl⟩
  refine ok_loop (I := I) ((hI 0 _ _).mpr ⟨_, _, rfl, by simp⟩) (fun _ _ _ _ => wtOk_nil _) ?_ ?_
  · rintro k d env S' ed h'
    obtain ⟨e5, e6, rfl, rfl⟩ := (hI _ _ _).mp h'
    have hk : k < z := by simpa [rngD] using (List.getElem?_eq_some_iff.mp ed).1
    have ek : d = .int (k : Int) := by
      simp [rngD, List.getElem?_range', hk] at ed
      exact ed.symm
    subst ek
    obtain ⟨r, er, hr⟩ := at_of hm.l hk
    obtain ⟨b, eb, hb⟩ := at_of hm.b.l hk
    obtain ⟨c, ec, hc⟩ := at_of hm.c.l hk
    obtain ⟨w, ew, hw'⟩ := at_of hw.l hk
    have hrow := hm.a r hr
    have qbb := hm.b.q b hb
    have qbc := hm.c.q c hc
    have qbw := hw.q w hw'
    have zb := zip_qb hrow.q hx.q
    have ll := zip_le (ys := xs) hrow.l
    have p := fun T : Sto => dotL_eq T (rows2.tt r xs) zb (by omega) (by decide)
    have qd := dots_qb hrow hx hz
    have qm := qb_mul qbb (qb_intL hu)
    have qs := qb_add qd qm
    have a0 := atI_map (e := drow) er
    have a1 := atI_map (e := dq) eb
    have a2 := atI_map (e := dq) ec
    have a3 := atI_map (e := dq) ew
    have hz2 : min k z < 16777216 := by omega
    simp only [drow] at a0
    simp [i0, i1, i2, drow, a0, a1, a2, a3, p, dq_intL, timesL_eq _ qbb (qb_intL hu) (by omega), plusL_eq _ qd qm (by omega), plusL_eq _ qbc qbw (by omega), plusL_eq _ qs (qb_add qbc qbw) (by omega), szL, ml, hz2]
    refine (hI (k + 1) _ _).mpr ⟨_, _, rfl, ?_⟩
    rw [take_at (movedQ_at er eb ec ew)]
    simp
  · rintro env S' h'
    obtain ⟨e5, e6, rfl, rfl⟩ := (hI _ _ _).mp h'
    have e : (rngD 0 z).length = z := by simp
    rw [e, List.take_of_length_le (by omega)]
    simp [drow]
/-! what a row shows -/
def readD (xs : List Rat) (s : Sn) : D := .tup [.int (-(-(dotQ (s.row.zip xs) + s.lo).num / ((dotQ (s.row.zip xs) + s.lo).den : Int))), .int ((dotQ (s.row.zip xs) + s.hi).num / ((dotQ (s.row.zip xs) + s.hi).den : Int))]
theorem cDiv_den {q : Rat} {b : Nat} (h : qb b q) (hb : b ≤ 9000) (i : Int) : cDiv i (q.den : Int) = true := cDiv_of (b := b) (by have := q.den_pos; omega) (qb_pos h) (den_lt h) hb
theorem readings_at_eq {z : Nat} {P : Pl} {xs : List Rat} (S : Sto) (h : PlOk z P) (hx : rowP z xs) : m_readings_at [.d (dplant P), .d (drow xs)] S = .ok (.d (.tup (P.se.map (readD xs)))) S := by
  have hz := h.z1
  refine ok_eq ?_
  unfold m_readings_at
  refine ok_fn ?_
  unfold b_readings_at
  rw [dSeq_eq, asg_cell]
  simp [ix3]
  obtain ⟨I, hI⟩ : ∃ I : Nat → Dn.Env → Sto → Prop, ∀ j env S', I j env S' ↔ ∃ e3 e4 e5 e6 e7 e8 e9, env = [some (.d (dplant P)), some (.d (drow xs)), some (.r S.length), e3, e4, e5, e6, e7, e8, e9] ∧ S' = S ++ [.lst ((P.se.take j).map (readD xs))] := ⟨_, fun _ _ _ => Iff.rfl⟩
  refine ok_loop (I := I) ((hI 0 _ _).mpr ⟨_, _, _, _, _, _, _, rfl, by simp⟩) (fun _ _ _ _ => wtOk_nil _) ?_ ?_
  · rintro k d env S' ed h'
    obtain ⟨e3, e4, e5, e6, e7, e8, e9, rfl, rfl⟩ := (hI _ _ _).mp h'
    rw [List.getElem?_map] at ed
    obtain ⟨s, es, rfl⟩ := Option.map_eq_some_iff.mp ed
    have hs := h.e s (List.mem_of_getElem? es)
    have hk : k < P.se.length := (List.getElem?_eq_some_iff.mp es).1
    have e1 := h.e1
    have zb := zip_qb hs.r.q hx.q
    have ll := zip_le (ys := xs) hs.r.l
    have p := fun T : Sto => product_of_eq T (rows2.tt s.row xs) zb (by omega) (by decide)
    have qd := dots_qb hs.r hx hz
    have q1 := qb_add qd hs.a
    have q2 := qb_add qd hs.b
    have hz2 : min k P.se.length < 16777216 := by omega
    simp [dsens]
    simp only [drow]
    simp [p, total_eq _ qd hs.a (by omega), total_eq _ qd hs.b (by omega)]
    have o0 : ∀ (q : Rat) (T : Sto), oIx (.d (dq q)) (.d (.int 0)) T = .ok (.d (.int q.num)) T := fun q T => by simp [dq]
    have o1 : ∀ (q : Rat) (T : Sto), oIx (.d (dq q)) (.d (.int 1)) T = .ok (.d (.int (q.den : Int))) T := fun q T => by simp [dq]
    simp [o0, o1, cDiv_den q1 (by decide), cDiv_den q2 (by decide), div_pos (den0 _), szL, hz2]
    refine (hI (k + 1) _ _).mpr ⟨_, _, _, _, _, _, _, rfl, ?_⟩
    rw [take_at es]
    simp [readD]
  · rintro env S' h'
    obtain ⟨e3, e4, e5, e6, e7, e8, e9, rfl, rfl⟩ := (hI _ _ _).mp h'
    rw [List.length_map, List.take_of_length_le (Nat.le_refl _)]
    simp
theorem l_readings_eq {z : Nat} {P : Pl} {xs : List Rat} (S : Sto) (h : PlOk z P) (hx : rowP z xs) : m__law_readings [.d (dplant P), .d (drow xs)] S = .ok (.d (.tup (P.se.map (readD xs)))) S := by
  have hz := h.z1
  refine ok_eq ?_
  unfold m__law_readings
  refine ok_fn ?_
  unfold b__law_readings
  rw [dSeq_eq, asg_cell]
  simp [ix3]
  obtain ⟨I, hI⟩ : ∃ I : Nat → Dn.Env → Sto → Prop, ∀ j env S', I j env S' ↔ ∃ e3 e4 e5, env = [some (.d (dplant P)), some (.d (drow xs)), some (.r S.length), e3, e4, e5] ∧ S' = S ++ [.lst ((P.se.take j).map (readD xs))] := ⟨_, fun _ _ _ => Iff.rfl⟩
  refine ok_loop (I := I) ((hI 0 _ _).mpr ⟨_, _, _, rfl, by simp⟩) (fun _ _ _ _ => wtOk_nil _) ?_ ?_
  · rintro k d env S' ed h'
    obtain ⟨e3, e4, e5, rfl, rfl⟩ := (hI _ _ _).mp h'
    rw [List.getElem?_map] at ed
    obtain ⟨s, es, rfl⟩ := Option.map_eq_some_iff.mp ed
    have hs := h.e s (List.mem_of_getElem? es)
    have hk : k < P.se.length := (List.getElem?_eq_some_iff.mp es).1
    have e1 := h.e1
    have zb := zip_qb hs.r.q hx.q
    have ll := zip_le (ys := xs) hs.r.l
    have p := fun T : Sto => dotL_eq T (rows2.tt s.row xs) zb (by omega) (by decide)
    have qd := dots_qb hs.r hx hz
    have q1 := qb_add qd hs.a
    have q2 := qb_add qd hs.b
    have hz2 : min k P.se.length < 16777216 := by omega
    have o0 : ∀ (q : Rat) (T : Sto), oIx (.d (dq q)) (.d (.int 0)) T = .ok (.d (.int q.num)) T := fun q T => by simp [dq]
    have o1 : ∀ (q : Rat) (T : Sto), oIx (.d (dq q)) (.d (.int 1)) T = .ok (.d (.int (q.den : Int))) T := fun q T => by simp [dq]
    simp [dsens]
    simp only [drow]
    simp [p, plusL_eq _ qd hs.a (by omega), plusL_eq _ qd hs.b (by omega)]
    simp [o0, o1, cDiv_den q1 (by decide), cDiv_den q2 (by decide), div_pos (den0 _), szL, hz2]
    refine (hI (k + 1) _ _).mpr ⟨_, _, _, rfl, ?_⟩
    rw [take_at es]
    simp [readD]
  · rintro env S' h'
    obtain ⟨e3, e4, e5, rfl, rfl⟩ := (hI _ _ _).mp h'
    rw [List.length_map, List.take_of_length_le (Nat.le_refl _)]
    simp
end Law
set_option Elab.async false
set_option linter.all false
set_option maxRecDepth 100000
set_option maxHeartbeats 4000000
namespace Law
open PySem PySem.Spec PyProof.Rows L2 GxR Gx Dn
theorem check_rowP {z : Nat} {xs : List Rat} (S : Sto) (h : rowP z xs) : m_check_row [.d (.int z), .d (drow xs)] S = .ok (.d .non) S := check_row_eq S h.q h.l
theorem check_plant_row_eq {z : Nat} {P : Pl} {xs : List Rat} (S : Sto) (h : PlOk z P) (hx : rowP z xs) : m_check_plant_row [.d (dplant P), .d (drow xs)] S = .ok (.d .non) S := by
  refine ok_eq ?_
  unfold m_check_plant_row
  refine ok_fn ?_
  unfold b_check_plant_row
  simp [check_plant_eq _ h, ix1, h.nl, check_rowP _ hx]
theorem readings_of_eq {z : Nat} {P : Pl} {xs : List Rat} (S : Sto) (h : PlOk z P) (hx : rowP z xs) : m_readings_of [.d (dplant P), .d (drow xs)] S = .ok (.d (.tup (P.se.map (readD xs)))) S := by
  refine ok_eq ?_
  unfold m_readings_of
  refine ok_fn ?_
  unfold b_readings_of
  simp [check_plant_row_eq _ h hx, readings_at_eq _ h hx]
theorem is_whole_int (i : Int) (S : Sto) : m_is_whole [.d (.int i)] S = .ok (.d (.bl true)) S := is_whole_eq S rfl
theorem is_index_eq {i : Int} {n : Int} (S : Sto) : m_is_index [.d (.int i), .d (.int n)] S = .ok (.d (.bl (decide (0 ≤ i) && decide (i < n)))) S := by
  refine ok_eq ?_
  unfold m_is_index
  refine ok_fn ?_
  unfold b_is_index
  simp [is_whole_int]
  split <;> rename_i c <;> simp [c]
theorem moved_eq {z k : Nat} {P : Pl} {m : Md} {xs ws : List Rat} {u : Int} (S : Sto) (h : PlOk z P) (hk : P.ms[k]? = some m) (hx : rowP z xs) (hw : rowP z ws) (hu : u.natAbs < 2 ^ 24) :
    m_moved [.d (dplant P), .d (.int (k : Int)), .d (drow xs), .d (.int u), .d (drow ws)] S = .ok (.d (drow (movedQ m xs u ws))) S := by
  have hm := h.m m (List.mem_of_getElem? hk)
  have hl : k < P.ms.length := (List.getElem?_eq_some_iff.mp hk).1
  refine ok_eq ?_
  unfold m_moved
  refine ok_fn ?_
  unfold b_moved
  have a0 := atI_map (e := dmode) hk
  simp [check_plant_eq _ h, ix0, ix1, is_index_eq, hl, h.nl, check_rowP _ hx, check_rowP _ hw, is_whole_int, a0, moved_on_eq _ hm hx hw hu h.z1]
theorem safe_at_eq {z : Nat} {P : Pl} {xs : List Rat} (S : Sto) (h : PlOk z P) (hx : rowP z xs) : m_is_safe_at [.d (dplant P), .d (drow xs)] S = .ok (.d (.bl (inside P.sf xs))) S := by
  have hz := h.z1
  refine ok_eq ?_
  unfold m_is_safe_at
  refine ok_fn ?_
  unfold b_is_safe_at
  simp [ix6]
  refine ok_allM (e := dwish) (ws := P.sf) (f := fun w => decide (dotQ (w.1.zip xs) ≤ w.2)) (by simp [ix6]) (fun w hw => ?_) ?_
  · have hb := h.f w hw
    have zb := zip_qb hb.r hx.q
    have ll := zip_le (ys := xs) hb.l
    have p := fun T : Sto => product_of_eq T (rows2.tt w.1 xs) zb (by omega) (by decide)
    have qd := dots_qb (r := w.1) ⟨hb.l, hb.r⟩ hx hz
    simp [wipeE, dwish, drow, p, is_up_to_eq _ qd hb.b (by omega)]
  · simp [inside]
theorem safe_row_eq {z : Nat} {P : Pl} {xs : List Rat} (S : Sto) (h : PlOk z P) (hx : rowP z xs) : m_is_safe_row [.d (dplant P), .d (drow xs)] S = .ok (.d (.bl (inside P.sf xs))) S := by
  refine ok_eq ?_
  unfold m_is_safe_row
  refine ok_fn ?_
  unfold b_is_safe_row
  simp [check_plant_row_eq _ h hx, safe_at_eq _ h hx]
def within (r : Dv) (u : Int) : Int := if u < r.lo then r.lo else if r.hi < u then r.hi else u
theorem within_drive_eq {z : Nat} {P : Pl} {u : Int} (S : Sto) (h : PlOk z P) : m_within_drive [.d (dplant P), .d (.int u)] S = .ok (.d (.int (within P.dr u))) S := by
  have r := h.dr
  have r1 := r.r1
  have r2 := r.r2
  have e : m_driven_by [.d (dplant P), .d (.int u)] S = .ok (.d (.int (within P.dr u))) S := by
    refine ok_eq ?_
    unfold m_driven_by
    refine ok_fn ?_
    unfold b_driven_by
    have ec : cutL [D.int P.dr.lo, .int P.dr.hi, .int P.dr.rest, .int P.dr.holds, .int P.dr.cuts] none (some 2) = [.int P.dr.lo, .int P.dr.hi] := by simp [cutL, HT.sIx]
    simp [ix5, ddrive, ec, szL]
    unfold within
    split <;> split <;> (try split) <;> (try split) <;> omega
  refine ok_eq ?_
  unfold m_within_drive
  refine ok_fn ?_
  unfold b_within_drive
  simp [check_plant_eq _ h, is_whole_int, e]
/-! a value and itself -/
theorem same_self {b l : Nat} (hl : l ≤ 1000) : ∀ {h : Nat} {d : D} {k : Nat}, pD b l h d → h < k → ∀ S : Sto, m__law_same k [.d d, .d d] S = .ok (.d (.bl true)) S := by
  intro h
  induction h with
  | zero =>
    rintro d k ⟨i, rfl, _⟩ hk S
    obtain ⟨m, rfl⟩ : ∃ m, k = m + 1 := ⟨k - 1, by omega⟩
    refine ok_eq ?_
    show Ok (dFn 4 (b__law_same (fun _ => m__law_same m) m) [.d (.int i), .d (.int i)] S) _
    refine ok_fn ?_
    unfold b__law_same
    simp [isi, Dn.isNon, oEqB, pyV, D.py, SeqAt.shaped, PyData.canLay0, PyData.depth, PyData.eqv]
  | succ h ih =>
    intro d k hp hk S
    obtain ⟨m, rfl⟩ : ∃ m, k = m + 1 := ⟨k - 1, by omega⟩
    refine ok_eq ?_
    show Ok (dFn 4 (b__law_same (fun _ => m__law_same m) m) [.d d, .d d] S) _
    refine ok_fn ?_
    unfold b__law_same
    rcases hp with ⟨i, rfl, _⟩ | ⟨ds, rfl, hds, hx⟩
    · simp [isi, Dn.isNon, oEqB, pyV, D.py, SeqAt.shaped, PyData.canLay0, PyData.depth, PyData.eqv]
    · simp [isi]
      refine ok_lc (ds := (ds.zip ds).map fun p => D.tup [p.1, p.2]) (f := fun _ => .bl true) (by simp [Dn.iMx, seqK, seqT, wtV]) (by simp [szL]; omega) (fun d hd c => ?_) ?_
      · obtain ⟨⟨x, y⟩, hxy, rfl⟩ := List.mem_map.mp hd
        have e : x = y ∧ x ∈ ds := by
          obtain ⟨j, ej⟩ := List.mem_iff_getElem?.mp hxy
          rw [List.getElem?_zip_eq_some] at ej
          have := ej.1.symm.trans ej.2
          exact ⟨by simpa using this, List.mem_of_getElem? ej.1⟩
        obtain ⟨rfl, hm⟩ := e
        simp [wipeE, ih (hx x hm) (by omega : h < m)]
      · have e : ∀ (L : List D) (S : Sto), bAll (.d (.lst (L.map fun _ => D.bl true))) S = .ok (.d (.bl true)) S := fun L S => by
          have := blsOf_map (fun _ => true) L
          simp only [bAll, seqL, this, Option.bind_some]
          simp
        simp only [e]
        simp
section
variable {n t : Nat} {S : Sto} {c : Cell}
theorem row_of_spec {z : Nat} (hc : S[n]? = some c) (hw : WOk t c) (ht : t < 2 ^ 98) (hz : z ≤ 3) : Ok (m__law_row_of [.r n, .d (.int z)] S) (Dw n S (t + 3 * z) fun d => ∃ xs, d = drow xs ∧ rowP z xs) := by
  have hn := lt_of hc
  have sm : smallI (z : Int) = true := by unfold smallI; simp; omega
  have zl : (rngD 0 z).length ≤ szL := by simp [rngD, szL]; omega
  unfold m__law_row_of
  refine ok_fn ?_
  unfold b__law_row_of
  simp
  refine ok_lcD (n := n) (t := t) (st := 3) (c := c) (P := frD) (by simp [sm]) zl hc hw (fun d hd c2 t2 cell w2 ht2 => ?_) ?_
  · simp [wipeE]
    exact fraction_spec (x_get hn) w2 (by simp at ht2; omega)
  rintro bs c2 hb1 hb2 w2
  simp at hb1 w2
  obtain ⟨b, eb, hb⟩ := rows_of (z := z) hb2 hb1
  simp [eb, take_set]
  exact ⟨_, c2, rfl, ⟨b, rfl, hb⟩, rfl, w2⟩
end
end Law
set_option Elab.async false
set_option linter.all false
set_option maxRecDepth 100000
set_option maxHeartbeats 8000000
namespace Law
open PySem PySem.Spec PyProof.Rows L2 GxR Gx Dn
theorem pD_dq {q : Rat} {b : Nat} (h : qb b q) : pD b 8 1 (dq q) := pD_tup (by simp) fun x hx => by
  simp at hx
  rcases hx with rfl | rfl
  · exact pD_int h.n 0
  · exact pD_int (by simpa using h.d) 0
theorem movedQ_qb {z : Nat} {m : Md} {xs ws : List Rat} {u : Int} (hm : MdOk z m) (hx : rowP z xs) (hw : rowP z ws) (hu : u.natAbs < 2 ^ 24) (hz : z ≤ 3) : ∀ q ∈ movedQ m xs u ws, qb 300 q := fun q hq => by
  obtain ⟨k, hk⟩ := List.mem_iff_getElem?.mp hq
  have hl : k < z := by rw [← movedQ_len (xs := xs) (u := u) hm hw]; exact (List.getElem?_eq_some_iff.mp hk).1
  obtain ⟨r, er, hr⟩ := at_of hm.l hl
  obtain ⟨b, eb, hb⟩ := at_of hm.b.l hl
  obtain ⟨c, ec, hc⟩ := at_of hm.c.l hl
  obtain ⟨w, ew, hw'⟩ := at_of hw.l hl
  rw [movedQ_at er eb ec ew] at hk
  cases hk
  exact qb_mono (qb_add (qb_add (dots_qb (hm.a r hr) hx hz) (qb_mul (hm.b.q b hb) (qb_intL hu))) (qb_add (hm.c.q c hc) (hw.q w hw'))) (by omega)
theorem pD_moved {z : Nat} {m : Md} {xs ws : List Rat} {u : Int} (hm : MdOk z m) (hx : rowP z xs) (hw : rowP z ws) (hu : u.natAbs < 2 ^ 24) (hz : z ≤ 3) : pD 300 8 2 (drow (movedQ m xs u ws)) := pD_tup (by simp [movedQ_len hm hw]; omega) fun x hx' => by
  obtain ⟨q, hq, rfl⟩ := List.mem_map.mp hx'
  exact pD_dq (movedQ_qb hm hx hw hu hz q hq)
theorem div_bits {i j : Int} {b : Nat} (h : i.natAbs < 2 ^ b) (hj : 0 < j) : (i / j).natAbs < 2 ^ b := by
  obtain ⟨k, rfl⟩ := Int.eq_ofNat_of_zero_le (Int.le_of_lt hj)
  exact div_small h
theorem pD_reads {z : Nat} {P : Pl} {xs : List Rat} (h : PlOk z P) (hx : rowP z xs) : pD 300 8 2 (.tup (P.se.map (readD xs))) := pD_tup (by have := h.e1; simp; omega) fun x hx' => by
  obtain ⟨s, hs, rfl⟩ := List.mem_map.mp hx'
  have hs := h.e s hs
  have qd := dots_qb hs.r hx h.z1
  have q1 := qb_mono (qb_add qd hs.a) (by omega : 160 + 24 + 1 ≤ 300)
  have q2 := qb_mono (qb_add qd hs.b) (by omega : 160 + 24 + 1 ≤ 300)
  unfold readD
  refine pD_tup (by simp) fun y hy => ?_
  simp only [List.mem_cons, List.not_mem_nil, or_false] at hy
  rcases hy with rfl | rfl
  · refine pD_int ?_ 0
    rw [Int.natAbs_neg]
    exact div_bits (by rw [Int.natAbs_neg]; exact q1.n) (den0 _)
  · exact pD_int (div_bits q2.n (den0 _)) 0
section
variable {n t : Nat} {S : Sto} {c : Cell}
theorem right_spec (hc : S[n]? = some c) (hw : WOk t c) (ht : t < 2 ^ 90) : Ok (m__law_right [.r n] S) (Dw n S (t + 1000) (· = .bl true)) := by
  have hn := lt_of hc
  unfold m__law_right
  refine ok_fn ?_
  unfold b__law_right
  simp [-dFor_eq]
  refine (any_plant_spec hc hw (by omega)).mono ?_
  rintro _ _ ⟨p, c1, rfl, ⟨z, P, rfl, hP⟩, rfl, w1⟩
  have hz := hP.z1
  have hz0 := hP.z0
  have hm1 := hP.m1
  simp [-dFor_eq, ix2, hP.sl]
  rw [dFor_eq, ok_bind]
  have sm4 : smallI 4 = true := by decide
  simp [-dFor_eq, sm4]
  obtain ⟨I, hI⟩ : ∃ I : Nat → Dn.Env → Sto → Prop, ∀ k env S', I k env S' ↔ ∃ c' e3 e4 e5 e6 e7 e8 e9 e10 e11 e12, env = [some (.r n), some (.d (dplant P)), some (.d (.int (z : Int))), e3, e4, e5, e6, e7, e8, e9, e10, e11, e12] ∧ S' = S.set n c' ∧ WOk (t + 403 + 30 * k) c' := ⟨_, fun _ _ _ => Iff.rfl⟩
  refine ok_loop (I := I) ((hI 0 _ _).mpr ⟨c1, _, _, _, _, _, _, _, _, _, _, rfl, rfl, by simpa using w1⟩) (fun _ _ _ _ => wtOk_nil _) ?_ ?_
  · rintro k d env S' ed h
    obtain ⟨c2, e3, e4, e5, e6, e7, e8, e9, e10, e11, e12, rfl, rfl, w2⟩ := (hI _ _ _).mp h
    have hk : k < 4 := by simpa [rngD] using (List.getElem?_eq_some_iff.mp ed).1
    obtain ⟨tn, rfl, _, _⟩ := rng_mem (List.mem_of_getElem? ed)
    simp [-dFor_eq, -dIfS_eq]
    refine (row_of_spec (set_at hc c2) w2 (by omega) hz).mono ?_
    rintro _ _ ⟨xd, c3, rfl, ⟨xs, rfl, hx⟩, rfl, w3⟩
    simp [-dFor_eq, -dIfS_eq, List.set_set]
    refine (row_of_spec (set_at hc c3) w3 (by omega) hz).mono ?_
    rintro _ _ ⟨wd, c4, rfl, ⟨ws, rfl, hw'⟩, rfl, w4⟩
    simp [-dFor_eq, -dIfS_eq, List.set_set]
    refine (draw_spec (set_at hc c4) w4 (by omega) (by decide) (by decide)).mono ?_
    rintro _ _ ⟨u0, c5, rfl, u00, u01, rfl, w5⟩
    simp [-dFor_eq, -dIfS_eq, List.set_set, szL]
    obtain ⟨Q0, hQ0⟩ : ∃ Q : Dn.Fl → Sto → Prop, ∀ fl S2, Q fl S2 ↔ ∃ (u : Int) (c' : Cell), fl = .nx [some (.r n), some (.d (dplant P)), some (.d (.int (z : Int))), some (.d (.int tn)), e4, e5, some (.d (drow xs)), some (.d (drow ws)), some (.d (.int u)), e9, e10, e11, e12] ∧ S2 = S.set n c' ∧ u.natAbs < 2 ^ 24 ∧ WOk (t + 403 + 30 * k + 3 * z + 3 * z + 2) c' := ⟨_, fun _ _ => Iff.rfl⟩
    refine Ok.mono (Q := Q0) ?_ ?_
    · simp
      by_cases q : tn = 3
      · simp [q]
        refine (draw_spec (set_at hc c5) w5 (by omega) (by decide) (by decide)).mono ?_
        rintro _ _ ⟨u1, c6, rfl, u10, u11, rfl, w6⟩
        simp
        exact (hQ0 _ _).mpr ⟨_, c6, by rw [q], rfl, by omega, w6.mono (by omega)⟩
      · simp [q]
        exact (hQ0 _ _).mpr ⟨_, c5, rfl, rfl, by omega, w5.mono (by omega)⟩
    rintro fl S2 h
    obtain ⟨u, c6, rfl, rfl, hu, w6⟩ := (hQ0 _ _).mp h
    simp only [cont_nx]
    rw [dSeq_eq, ok_bind]
    obtain ⟨Q1, hQ1⟩ : ∃ Q : Dn.Fl → Sto → Prop, ∀ fl S2, Q fl S2 ↔ ∃ e4 e9 e10, fl = .nx [some (.r n), some (.d (dplant P)), some (.d (.int (z : Int))), some (.d (.int tn)), e4, e5, some (.d (drow xs)), some (.d (drow ws)), some (.d (.int u)), e9, e10, e11, e12] ∧ S2 = S.set n c6 := ⟨_, fun _ _ => Iff.rfl⟩
    refine Ok.mono (Q := Q1) ?_ ?_
    · rw [dFor_eq, ok_bind]
      have smm : smallI (P.ms.length : Int) = true := by unfold smallI; simp; omega
      simp [ix0, smm]
      obtain ⟨J, hJ⟩ : ∃ I : Nat → Dn.Env → Sto → Prop, ∀ j env S', I j env S' ↔ ∃ e4 e9 e10, env = [some (.r n), some (.d (dplant P)), some (.d (.int (z : Int))), some (.d (.int tn)), e4, e5, some (.d (drow xs)), some (.d (drow ws)), some (.d (.int u)), e9, e10, e11, e12] ∧ S' = S.set n c6 := ⟨_, fun _ _ _ => Iff.rfl⟩
      refine ok_loop (I := J) ((hJ 0 _ _).mpr ⟨_, _, _, rfl, rfl⟩) (fun _ _ _ _ => wtOk_nil _) ?_ ?_
      · rintro j d env S' ed h
        obtain ⟨e4, e9, e10, rfl, rfl⟩ := (hJ _ _ _).mp h
        have hj : j < P.ms.length := by simpa [rngD] using (List.getElem?_eq_some_iff.mp ed).1
        have ej : d = .int (j : Int) := by
          simp [rngD, List.getElem?_range', hj] at ed
          exact ed.symm
        subst ej
        obtain ⟨m, em, hm⟩ := at_of rfl hj
        have hmm := hP.m m hm
        have a0 := atI_map (e := dmode) em
        have same := fun T : Sto => same_self (l := 8) (b := 300) (by decide) (h := 3) (k := 16) (d := .tup [drow (movedQ m xs u ws), drow (movedQ m xs u ws)]) (pD_tup (by simp) fun x hx' => by
          simp at hx'
          rw [hx']
          exact pD_moved hmm hx hw' hu hz) (by decide) T
        simp [ix0, a0, l_moved_eq _ hmm hx hw' hu hz, moved_eq _ hP em hx hw' hu, szL, same]
        exact (hJ (j + 1) _ _).mpr ⟨_, _, _, rfl, rfl⟩
      · rintro env S' h
        obtain ⟨e4, e9, e10, rfl, rfl⟩ := (hJ _ _ _).mp h
        exact (hQ1 _ _).mpr ⟨_, _, _, rfl, rfl⟩
    rintro fl S2 h
    obtain ⟨e4, e9, e10, rfl, rfl⟩ := (hQ1 _ _).mp h
    have f1 := hP.f1
    simp [ix6]
    refine ok_lcM (e := dwish) (ws := P.sf) (f := fun w => .bl (decide (dotQ (w.1.zip xs) ≤ w.2))) (by simp [ix6]) (by simp [szL]; omega) (fun w hw => fun c => ?_) ?_
    · have hb := hP.f w hw
      have zb := zip_qb hb.r hx.q
      have ll := zip_le (ys := xs) hb.l
      have p := fun T : Sto => dotL_eq T (rows2.tt w.1 xs) zb (by omega) (by decide)
      have qd := dots_qb (r := w.1) ⟨hb.l, hb.r⟩ hx hz
      simp only [drow] at *
      simp [wipeE, dwish, drow, p, upto_eq _ qd hb.b (by omega)]
    have eb : bAll (.d (.lst (P.sf.map fun w => .bl (decide (dotQ (w.1.zip xs) ≤ w.2))))) (S.set n c6) = .ok (.d (.bl (inside P.sf xs))) (S.set n c6) := by
      have e : ∀ L : List Wish, blsOf (L.map fun w => D.bl (decide (dotQ (w.1.zip xs) ≤ w.2))) = some (L.map fun w => decide (dotQ (w.1.zip xs) ≤ w.2)) := fun L => by
        induction L with
        | nil => rfl
        | cons a L ih => simp only [List.map_cons, blsOf, ih, Option.map_some]
      simp only [bAll, seqL, e, Option.bind_some]
      simp [inside, List.all_map, Function.comp_def]
    simp only [eb]
    have rs := fun T : Sto => same_self (l := 8) (b := 300) (by decide) (k := 16) (pD_reads hP hx) (by decide) T
    have hwi := hP.dr
    have r1 := hwi.r1
    have r2 := hwi.r2
    have ew : (if P.dr.lo < (if u < P.dr.hi then u else P.dr.hi) then (if u < P.dr.hi then u else P.dr.hi) else P.dr.lo) = within P.dr u := by
      unfold within
      split <;> split <;> (try split) <;> (try split) <;> omega
    have dn := fun (v : Int) (hv : v.natAbs < 2 ^ 300) (T : Sto) => same_self (l := 8) (b := 300) (by decide) (h := 0) (k := 16) (d := .int v) ⟨v, rfl, hv⟩ (by decide) T
    simp [safe_row_eq _ hP hx, same_bl (k := 15), readings_of_eq _ hP hx, l_readings_eq _ hP hx, rs, within_drive_eq _ hP, ix5, ddrive]
    have wb : (within P.dr u).natAbs < 2 ^ 300 := lt_up (a := 25) (by
      have := hwi.a
      have := hwi.b
      unfold within
      split <;> (try split) <;> omega) (by decide)
    rw [ew]
    simp [dn _ wb]
    exact (hI (k + 1) _ _).mpr ⟨c6, _, _, _, _, _, _, _, _, _, _, rfl, rfl, w6.mono (by omega)⟩
  · rintro env S' h
    obtain ⟨c2, e3, e4, e5, e6, e7, e8, e9, e10, e11, e12, rfl, rfl, w2⟩ := (hI _ _ _).mp h
    simp [take_set]
    exact ⟨_, c2, rfl, rfl, rfl, w2.mono (by simp [rngD])⟩
end
end Law
set_option Elab.async false
set_option linter.all false
set_option maxRecDepth 100000
set_option maxHeartbeats 2000000
namespace Law
open PySem PySem.Spec PyProof.Rows L2 GxR Gx Dn
theorem law_so (ns : List Int) (hl : ns.length ≤ 63) (hb : ∀ z ∈ ns, Builtin.Int.intBits z ≤ 1048576) : ∃ S', m_law [.d (.con (ns.map .int))] [] = .ok (.d (.bl true)) S' := by
  suffices h : Ok (m_law [.d (.con (ns.map .int))] []) fun x _ => x = .d (.bl true) by
    obtain ⟨x, S', e, rfl⟩ := h
    exact ⟨S', e⟩
  unfold m_law
  refine ok_fn ?_
  unfold b_law
  simp
  obtain ⟨k, hk, hk3⟩ : ∃ k : Nat, (if (if 2 < (ns.length : Int) then 2 else (ns.length : Int)) > 1 then (if 2 < (ns.length : Int) then 2 else (ns.length : Int)) else 1) = (k : Int) ∧ k ≤ 3 := by
    refine ⟨((if (if 2 < (ns.length : Int) then 2 else (ns.length : Int)) > 1 then (if 2 < (ns.length : Int) then 2 else (ns.length : Int)) else 1)).toNat, ?_, ?_⟩ <;> split <;> split <;> omega
  have sm : smallI (k : Int) = true := by unfold smallI; simp; omega
  refine ok_lcR (ds := rngD 0 k) (f := fun _ => .bl true) (by simp [hk, sm]) (by simp [rngD, szL]; omega) (fun d hd c R => ?_) ?_
  · simp [rngD] at hd
    obtain ⟨i, hi, rfl⟩ := hd
    simp [wipeE]
    refine (well_spec (by omega) hl).mono ?_
    rintro _ _ ⟨c2, rfl, rfl, w⟩
    simp
    refine (right_spec (n := R.length + 1) (c := c2) (by simp) w (by decide)).mono ?_
    rintro _ _ ⟨d, c', rfl, rfl, rfl, _⟩
    simp
  · simp [bAll, seqL, blsOf_map]
end Law
set_option Elab.async false
set_option linter.all false
set_option maxRecDepth 100000
set_option maxHeartbeats 0
namespace Law
open PySem PySem.Spec PyProof.Rows L2 GxR Gx Dn
def d__law_draw : He.DefD := ⟨("_law_draw", none), "_law_draw", "_law_draw", defArgs s__law_draw, defBody s__law_draw, defScope s__law_draw, [], []⟩
def d__law_pick : He.DefD := ⟨("_law_pick", none), "_law_pick", "_law_pick", defArgs s__law_pick, defBody s__law_pick, defScope s__law_pick, [], []⟩
def d__law_low : He.DefD := ⟨("_law_low", none), "_law_low", "_law_low", defArgs s__law_low, defBody s__law_low, defScope s__law_low, [], []⟩
def d__law_plus : He.DefD := ⟨("_law_plus", none), "_law_plus", "_law_plus", defArgs s__law_plus, defBody s__law_plus, defScope s__law_plus, [], []⟩
def d__law_pairs : He.DefD := ⟨("_law_pairs", none), "_law_pairs", "_law_pairs", defArgs s__law_pairs, defBody s__law_pairs, defScope s__law_pairs, [], []⟩
def d__law_drive : He.DefD := ⟨("_law_drive", none), "_law_drive", "_law_drive", defArgs s__law_drive, defBody s__law_drive, defScope s__law_drive, [], []⟩
def d__law_fraction : He.DefD := ⟨("_law_fraction", none), "_law_fraction", "_law_fraction", defArgs s__law_fraction, defBody s__law_fraction, defScope s__law_fraction, [], []⟩
def d__law_mode : He.DefD := ⟨("_law_mode", none), "_law_mode", "_law_mode", defArgs s__law_mode, defBody s__law_mode, defScope s__law_mode, [], []⟩
def d__law_unit : He.DefD := ⟨("_law_unit", none), "_law_unit", "_law_unit", defArgs s__law_unit, defBody s__law_unit, defScope s__law_unit, [], []⟩
def d__law_sensor : He.DefD := ⟨("_law_sensor", none), "_law_sensor", "_law_sensor", defArgs s__law_sensor, defBody s__law_sensor, defScope s__law_sensor, [], []⟩
def d__law_plant : He.DefD := ⟨("_law_plant", none), "_law_plant", "_law_plant", defArgs s__law_plant, defBody s__law_plant, defScope s__law_plant, [], []⟩
def d__law_any_plant : He.DefD := ⟨("_law_any_plant", none), "_law_any_plant", "_law_any_plant", defArgs s__law_any_plant, defBody s__law_any_plant, defScope s__law_any_plant, [], []⟩
def d__law_row_of : He.DefD := ⟨("_law_row_of", none), "_law_row_of", "_law_row_of", defArgs s__law_row_of, defBody s__law_row_of, defScope s__law_row_of, [], []⟩
def d__law_times : He.DefD := ⟨("_law_times", none), "_law_times", "_law_times", defArgs s__law_times, defBody s__law_times, defScope s__law_times, [], []⟩
def d__law_dot : He.DefD := ⟨("_law_dot", none), "_law_dot", "_law_dot", defArgs s__law_dot, defBody s__law_dot, defScope s__law_dot, [], []⟩
def d__law_moved : He.DefD := ⟨("_law_moved", none), "_law_moved", "_law_moved", defArgs s__law_moved, defBody s__law_moved, defScope s__law_moved, [], []⟩
def d__law_same : He.DefD := ⟨("_law_same", none), "_law_same", "_law_same", defArgs s__law_same, defBody s__law_same, defScope s__law_same, [], []⟩
def d_is_whole : He.DefD := ⟨("is_whole", none), "is_whole", "is_whole", defArgs s_is_whole, defBody s_is_whole, defScope s_is_whole, [], []⟩
def d_is_whole_from : He.DefD := ⟨("is_whole_from", none), "is_whole_from", "is_whole_from", defArgs s_is_whole_from, defBody s_is_whole_from, defScope s_is_whole_from, [], []⟩
def d_is_tuple_of : He.DefD := ⟨("is_tuple_of", none), "is_tuple_of", "is_tuple_of", defArgs s_is_tuple_of, defBody s_is_tuple_of, defScope s_is_tuple_of, [], []⟩
def d_is_drive : He.DefD := ⟨("is_drive", none), "is_drive", "is_drive", defArgs s_is_drive, defBody s_is_drive, defScope s_is_drive, [], []⟩
def d_is_fraction : He.DefD := ⟨("is_fraction", none), "is_fraction", "is_fraction", defArgs s_is_fraction, defBody s_is_fraction, defScope s_is_fraction, [], []⟩
def d_is_row_of : He.DefD := ⟨("is_row_of", none), "is_row_of", "is_row_of", defArgs s_is_row_of, defBody s_is_row_of, defScope s_is_row_of, [], []⟩
def d_is_mode : He.DefD := ⟨("is_mode", none), "is_mode", "is_mode", defArgs s_is_mode, defBody s_is_mode, defScope s_is_mode, [], []⟩
def d_is_up_to : He.DefD := ⟨("is_up_to", none), "is_up_to", "is_up_to", defArgs s_is_up_to, defBody s_is_up_to, defScope s_is_up_to, [], []⟩
def d_is_span : He.DefD := ⟨("is_span", none), "is_span", "is_span", defArgs s_is_span, defBody s_is_span, defScope s_is_span, [], []⟩
def d_fraction : He.DefD := ⟨("fraction", none), "fraction", "fraction", defArgs s_fraction, defBody s_fraction, defScope s_fraction, [], []⟩
def d_total : He.DefD := ⟨("total", none), "total", "total", defArgs s_total, defBody s_total, defScope s_total, [], []⟩
def d_is_sensor : He.DefD := ⟨("is_sensor", none), "is_sensor", "is_sensor", defArgs s_is_sensor, defBody s_is_sensor, defScope s_is_sensor, [], []⟩
def d_is_wish : He.DefD := ⟨("is_wish", none), "is_wish", "is_wish", defArgs s_is_wish, defBody s_is_wish, defScope s_is_wish, [], []⟩
def d_is_right_plant : He.DefD := ⟨("is_right_plant", none), "is_right_plant", "is_right_plant", defArgs s_is_right_plant, defBody s_is_right_plant, defScope s_is_right_plant, [], []⟩
def d_check_plant : He.DefD := ⟨("check_plant", none), "check_plant", "check_plant", defArgs s_check_plant, defBody s_check_plant, defScope s_check_plant, [], []⟩
def d_check_row : He.DefD := ⟨("check_row", none), "check_row", "check_row", defArgs s_check_row, defBody s_check_row, defScope s_check_row, [], []⟩
def d_product_of : He.DefD := ⟨("product_of", none), "product_of", "product_of", defArgs s_product_of, defBody s_product_of, defScope s_product_of, [], []⟩
def d_moved_on : He.DefD := ⟨("moved_on", none), "moved_on", "moved_on", defArgs s_moved_on, defBody s_moved_on, defScope s_moved_on, [], []⟩
def d_is_index : He.DefD := ⟨("is_index", none), "is_index", "is_index", defArgs s_is_index, defBody s_is_index, defScope s_is_index, [], []⟩
def d_moved : He.DefD := ⟨("moved", none), "moved", "moved", defArgs s_moved, defBody s_moved, defScope s_moved, [], []⟩
def d__law_up_to : He.DefD := ⟨("_law_up_to", none), "_law_up_to", "_law_up_to", defArgs s__law_up_to, defBody s__law_up_to, defScope s__law_up_to, [], []⟩
def d_check_plant_row : He.DefD := ⟨("check_plant_row", none), "check_plant_row", "check_plant_row", defArgs s_check_plant_row, defBody s_check_plant_row, defScope s_check_plant_row, [], []⟩
def d_is_safe_at : He.DefD := ⟨("is_safe_at", none), "is_safe_at", "is_safe_at", defArgs s_is_safe_at, defBody s_is_safe_at, defScope s_is_safe_at, [], []⟩
def d_is_safe_row : He.DefD := ⟨("is_safe_row", none), "is_safe_row", "is_safe_row", defArgs s_is_safe_row, defBody s_is_safe_row, defScope s_is_safe_row, [], []⟩
def d_readings_at : He.DefD := ⟨("readings_at", none), "readings_at", "readings_at", defArgs s_readings_at, defBody s_readings_at, defScope s_readings_at, [], []⟩
def d_readings_of : He.DefD := ⟨("readings_of", none), "readings_of", "readings_of", defArgs s_readings_of, defBody s_readings_of, defScope s_readings_of, [], []⟩
def d__law_readings : He.DefD := ⟨("_law_readings", none), "_law_readings", "_law_readings", defArgs s__law_readings, defBody s__law_readings, defScope s__law_readings, [], []⟩
def d_driven_by : He.DefD := ⟨("driven_by", none), "driven_by", "driven_by", defArgs s_driven_by, defBody s_driven_by, defScope s_driven_by, [], []⟩
def d_within_drive : He.DefD := ⟨("within_drive", none), "within_drive", "within_drive", defArgs s_within_drive, defBody s_within_drive, defScope s_within_drive, [], []⟩
def d__law_right : He.DefD := ⟨("_law_right", none), "_law_right", "_law_right", defArgs s__law_right, defBody s__law_right, defScope s__law_right, [], []⟩
def d__law_well : He.DefD := ⟨("_law_well", none), "_law_well", "_law_well", defArgs s__law_well, defBody s__law_well, defScope s__law_well, [], []⟩
def d_law : He.DefD := ⟨("law", none), "law", "law", defArgs s_law, defBody s_law, defScope s_law, [], []⟩
def fn : List He.DefD := [d__law_draw, d__law_pick, d__law_low, d__law_plus, d__law_pairs, d__law_drive, d__law_fraction, d__law_mode, d__law_unit, d__law_sensor, d__law_plant, d__law_any_plant, d__law_row_of, d__law_times, d__law_dot, d__law_moved, d__law_same, d_is_whole, d_is_whole_from, d_is_tuple_of, d_is_drive, d_is_fraction, d_is_row_of, d_is_mode, d_is_up_to, d_is_span, d_fraction, d_total, d_is_sensor, d_is_wish, d_is_right_plant, d_check_plant, d_check_row, d_product_of, d_moved_on, d_is_index, d_moved, d__law_up_to, d_check_plant_row, d_is_safe_at, d_is_safe_row, d_readings_at, d_readings_of, d__law_readings, d_driven_by, d_within_drive, d__law_right, d__law_well, d_law]
def fa : List He.Fa := [.glo "_law_draw", .glo "_law_pick", .glo "_law_low", .glo "_law_plus", .glo "_law_pairs", .glo "_law_drive", .glo "_law_fraction", .glo "_law_mode", .glo "_law_unit", .glo "_law_sensor", .glo "_law_plant", .glo "_law_any_plant", .glo "_law_row_of", .glo "_law_times", .glo "_law_dot", .glo "_law_moved", .glo "_law_same", .glo "is_whole", .glo "is_whole_from", .glo "is_tuple_of", .glo "is_drive", .glo "is_fraction", .glo "is_row_of", .glo "is_mode", .glo "is_up_to", .glo "is_span", .glo "fraction", .glo "total", .glo "is_sensor", .glo "is_wish", .glo "is_right_plant", .glo "check_plant", .glo "check_row", .glo "product_of", .glo "moved_on", .glo "is_index", .glo "moved", .glo "_law_up_to", .glo "check_plant_row", .glo "is_safe_at", .glo "is_safe_row", .glo "readings_at", .glo "readings_of", .glo "_law_readings", .glo "driven_by", .glo "within_drive", .glo "_law_right", .glo "_law_well", .glo "law", .free "abs", .free "all", .free "bool", .free "divmod", .free "enumerate", .free "int", .free "isinstance", .free "len", .free "max", .free "min", .free "range", .free "str", .free "tuple", .free "zip"]
def ts : List He.Tab := []
def ex (K : PySem.W.Frag) : Bool := (He.eqO (PySem.W.nsIn K mainGlobals "gcd") (some (some (.builtin "math.gcd"))))
abbrev R : PySem.W.OpenRow := PySem.W.OpenLaw.row PySem.Challenge.rw_safehelms_k58_plants_moved_and_read_by_o
abbrev hk : PySem.W.Hook := He.hookX 5 fa fn ts tf ex
def ob (s : PySem.W.SharedT) : He.AlX := He.obsX 5 fa fn ts tf ex (HandSHeadRun.getT s)
theorem ob_eq (s : PySem.W.SharedT) : ob s = hk.obs s.abs := He.obsX_eq (HandSHeadRun.getT_eq s)
def loose : List PySem.Str := (["HelmError", "InvalidNumber", "InvalidPlant", "InvalidRow", "is_whole", "is_whole_from", "is_index", "is_tuple_of", "is_fraction", "fraction", "total", "is_up_to", "product_of", "is_row_of", "check_row", "is_wish", "is_right_plant", "is_mode", "is_span", "is_sensor"] : List PySem.Str) ++ (["is_drive", "is_safe_row", "is_safe_at", "moved", "moved_on", "readings_of", "readings_at", "within_drive", "driven_by", "check_plant", "check_plant_row", "_law_well", "_law_draw", "_law_pick", "_law_same", "_law_low", "_law_plus", "_law_times", "_law_up_to", "_law_dot"] : List PySem.Str) ++ (["_law_fraction", "_law_unit", "_law_pairs", "_law_mode", "_law_sensor", "_law_drive", "_law_plant", "_law_any_plant", "_law_readings", "_law_moved", "_law_row_of", "_law_right"] : List PySem.Str)
theorem run (w : World) : HandSHeadRun.RunEqI R (PySem.W.view R.prog [0, 60]) hk ob 6000 loose w := by
  unfold HandSHeadRun.RunEqI
  kernel_rfl
theorem gf {w : World} {h : Heap} {K : PySem.W.Frag} {mg : Str → Option Value} {base : Heap} (c : He.SaysX fa fn ts tf ex w h K) (X : K.In base) (N : base.Ns mainGlobals mg) (tb : ∀ p ∈ tf.map (He.cT K), TabB base mg p.1 p.2) : Gf K mg base where
  b_abs := He.free_ok X N (c.t.d.fact 49 (f := .free "abs") rfl)
  b_all := He.free_ok X N (c.t.d.fact 50 (f := .free "all") rfl)
  b_bool := He.free_ok X N (c.t.d.fact 51 (f := .free "bool") rfl)
  b_divmod := He.free_ok X N (c.t.d.fact 52 (f := .free "divmod") rfl)
  b_enumerate := He.free_ok X N (c.t.d.fact 53 (f := .free "enumerate") rfl)
  b_int := He.free_ok X N (c.t.d.fact 54 (f := .free "int") rfl)
  b_isinstance := He.free_ok X N (c.t.d.fact 55 (f := .free "isinstance") rfl)
  b_len := He.free_ok X N (c.t.d.fact 56 (f := .free "len") rfl)
  b_max := He.free_ok X N (c.t.d.fact 57 (f := .free "max") rfl)
  b_min := He.free_ok X N (c.t.d.fact 58 (f := .free "min") rfl)
  b_range := He.free_ok X N (c.t.d.fact 59 (f := .free "range") rfl)
  b_str := He.free_ok X N (c.t.d.fact 60 (f := .free "str") rfl)
  b_tuple := He.free_ok X N (c.t.d.fact 61 (f := .free "tuple") rfl)
  b_zip := He.free_ok X N (c.t.d.fact 62 (f := .free "zip") rfl)
  gcd := PySem.W.mg_of X N (He.eqO_ok c.more)
  t_is_drive := tb _ (List.mem_map.mpr ⟨("is_drive", none), by simp [tf], rfl⟩)
  t_is_row_of := tb _ (List.mem_map.mpr ⟨("is_row_of", none), by simp [tf], rfl⟩)
  t_is_mode := tb _ (List.mem_map.mpr ⟨("is_mode", none), by simp [tf], rfl⟩)
  t_is_right_plant := tb _ (List.mem_map.mpr ⟨("is_right_plant", none), by simp [tf], rfl⟩)
  t_is_safe_at := tb _ (List.mem_map.mpr ⟨("is_safe_at", none), by simp [tf], rfl⟩)
  f__law_draw := c.t.d.def_ 0 (d := d__law_draw) rfl
  f__law_pick := c.t.d.def_ 1 (d := d__law_pick) rfl
  f__law_low := c.t.d.def_ 2 (d := d__law_low) rfl
  f__law_plus := c.t.d.def_ 3 (d := d__law_plus) rfl
  f__law_pairs := c.t.d.def_ 4 (d := d__law_pairs) rfl
  f__law_drive := c.t.d.def_ 5 (d := d__law_drive) rfl
  f__law_fraction := c.t.d.def_ 6 (d := d__law_fraction) rfl
  f__law_mode := c.t.d.def_ 7 (d := d__law_mode) rfl
  f__law_unit := c.t.d.def_ 8 (d := d__law_unit) rfl
  f__law_sensor := c.t.d.def_ 9 (d := d__law_sensor) rfl
  f__law_plant := c.t.d.def_ 10 (d := d__law_plant) rfl
  f__law_any_plant := c.t.d.def_ 11 (d := d__law_any_plant) rfl
  f__law_row_of := c.t.d.def_ 12 (d := d__law_row_of) rfl
  f__law_times := c.t.d.def_ 13 (d := d__law_times) rfl
  f__law_dot := c.t.d.def_ 14 (d := d__law_dot) rfl
  f__law_moved := c.t.d.def_ 15 (d := d__law_moved) rfl
  f__law_same := c.t.d.def_ 16 (d := d__law_same) rfl
  f_is_whole := c.t.d.def_ 17 (d := d_is_whole) rfl
  f_is_whole_from := c.t.d.def_ 18 (d := d_is_whole_from) rfl
  f_is_tuple_of := c.t.d.def_ 19 (d := d_is_tuple_of) rfl
  f_is_drive := c.t.d.def_ 20 (d := d_is_drive) rfl
  f_is_fraction := c.t.d.def_ 21 (d := d_is_fraction) rfl
  f_is_row_of := c.t.d.def_ 22 (d := d_is_row_of) rfl
  f_is_mode := c.t.d.def_ 23 (d := d_is_mode) rfl
  f_is_up_to := c.t.d.def_ 24 (d := d_is_up_to) rfl
  f_is_span := c.t.d.def_ 25 (d := d_is_span) rfl
  f_fraction := c.t.d.def_ 26 (d := d_fraction) rfl
  f_total := c.t.d.def_ 27 (d := d_total) rfl
  f_is_sensor := c.t.d.def_ 28 (d := d_is_sensor) rfl
  f_is_wish := c.t.d.def_ 29 (d := d_is_wish) rfl
  f_is_right_plant := c.t.d.def_ 30 (d := d_is_right_plant) rfl
  f_check_plant := c.t.d.def_ 31 (d := d_check_plant) rfl
  f_check_row := c.t.d.def_ 32 (d := d_check_row) rfl
  f_product_of := c.t.d.def_ 33 (d := d_product_of) rfl
  f_moved_on := c.t.d.def_ 34 (d := d_moved_on) rfl
  f_is_index := c.t.d.def_ 35 (d := d_is_index) rfl
  f_moved := c.t.d.def_ 36 (d := d_moved) rfl
  f__law_up_to := c.t.d.def_ 37 (d := d__law_up_to) rfl
  f_check_plant_row := c.t.d.def_ 38 (d := d_check_plant_row) rfl
  f_is_safe_at := c.t.d.def_ 39 (d := d_is_safe_at) rfl
  f_is_safe_row := c.t.d.def_ 40 (d := d_is_safe_row) rfl
  f_readings_at := c.t.d.def_ 41 (d := d_readings_at) rfl
  f_readings_of := c.t.d.def_ 42 (d := d_readings_of) rfl
  f__law_readings := c.t.d.def_ 43 (d := d__law_readings) rfl
  f_driven_by := c.t.d.def_ 44 (d := d_driven_by) rfl
  f_within_drive := c.t.d.def_ 45 (d := d_within_drive) rfl
  f__law_right := c.t.d.def_ 46 (d := d__law_right) rfl
  f__law_well := c.t.d.def_ 47 (d := d__law_well) rfl
  f_law := c.t.d.def_ 48 (d := d_law) rfl
  g__law_draw := He.glo_ok X N (c.t.d.fact 0 (f := .glo "_law_draw") rfl)
  g__law_pick := He.glo_ok X N (c.t.d.fact 1 (f := .glo "_law_pick") rfl)
  g__law_low := He.glo_ok X N (c.t.d.fact 2 (f := .glo "_law_low") rfl)
  g__law_plus := He.glo_ok X N (c.t.d.fact 3 (f := .glo "_law_plus") rfl)
  g__law_pairs := He.glo_ok X N (c.t.d.fact 4 (f := .glo "_law_pairs") rfl)
  g__law_drive := He.glo_ok X N (c.t.d.fact 5 (f := .glo "_law_drive") rfl)
  g__law_fraction := He.glo_ok X N (c.t.d.fact 6 (f := .glo "_law_fraction") rfl)
  g__law_mode := He.glo_ok X N (c.t.d.fact 7 (f := .glo "_law_mode") rfl)
  g__law_unit := He.glo_ok X N (c.t.d.fact 8 (f := .glo "_law_unit") rfl)
  g__law_sensor := He.glo_ok X N (c.t.d.fact 9 (f := .glo "_law_sensor") rfl)
  g__law_plant := He.glo_ok X N (c.t.d.fact 10 (f := .glo "_law_plant") rfl)
  g__law_any_plant := He.glo_ok X N (c.t.d.fact 11 (f := .glo "_law_any_plant") rfl)
  g__law_row_of := He.glo_ok X N (c.t.d.fact 12 (f := .glo "_law_row_of") rfl)
  g__law_times := He.glo_ok X N (c.t.d.fact 13 (f := .glo "_law_times") rfl)
  g__law_dot := He.glo_ok X N (c.t.d.fact 14 (f := .glo "_law_dot") rfl)
  g__law_moved := He.glo_ok X N (c.t.d.fact 15 (f := .glo "_law_moved") rfl)
  g__law_same := He.glo_ok X N (c.t.d.fact 16 (f := .glo "_law_same") rfl)
  g_is_whole := He.glo_ok X N (c.t.d.fact 17 (f := .glo "is_whole") rfl)
  g_is_whole_from := He.glo_ok X N (c.t.d.fact 18 (f := .glo "is_whole_from") rfl)
  g_is_tuple_of := He.glo_ok X N (c.t.d.fact 19 (f := .glo "is_tuple_of") rfl)
  g_is_drive := He.glo_ok X N (c.t.d.fact 20 (f := .glo "is_drive") rfl)
  g_is_fraction := He.glo_ok X N (c.t.d.fact 21 (f := .glo "is_fraction") rfl)
  g_is_row_of := He.glo_ok X N (c.t.d.fact 22 (f := .glo "is_row_of") rfl)
  g_is_mode := He.glo_ok X N (c.t.d.fact 23 (f := .glo "is_mode") rfl)
  g_is_up_to := He.glo_ok X N (c.t.d.fact 24 (f := .glo "is_up_to") rfl)
  g_is_span := He.glo_ok X N (c.t.d.fact 25 (f := .glo "is_span") rfl)
  g_fraction := He.glo_ok X N (c.t.d.fact 26 (f := .glo "fraction") rfl)
  g_total := He.glo_ok X N (c.t.d.fact 27 (f := .glo "total") rfl)
  g_is_sensor := He.glo_ok X N (c.t.d.fact 28 (f := .glo "is_sensor") rfl)
  g_is_wish := He.glo_ok X N (c.t.d.fact 29 (f := .glo "is_wish") rfl)
  g_is_right_plant := He.glo_ok X N (c.t.d.fact 30 (f := .glo "is_right_plant") rfl)
  g_check_plant := He.glo_ok X N (c.t.d.fact 31 (f := .glo "check_plant") rfl)
  g_check_row := He.glo_ok X N (c.t.d.fact 32 (f := .glo "check_row") rfl)
  g_product_of := He.glo_ok X N (c.t.d.fact 33 (f := .glo "product_of") rfl)
  g_moved_on := He.glo_ok X N (c.t.d.fact 34 (f := .glo "moved_on") rfl)
  g_is_index := He.glo_ok X N (c.t.d.fact 35 (f := .glo "is_index") rfl)
  g_moved := He.glo_ok X N (c.t.d.fact 36 (f := .glo "moved") rfl)
  g__law_up_to := He.glo_ok X N (c.t.d.fact 37 (f := .glo "_law_up_to") rfl)
  g_check_plant_row := He.glo_ok X N (c.t.d.fact 38 (f := .glo "check_plant_row") rfl)
  g_is_safe_at := He.glo_ok X N (c.t.d.fact 39 (f := .glo "is_safe_at") rfl)
  g_is_safe_row := He.glo_ok X N (c.t.d.fact 40 (f := .glo "is_safe_row") rfl)
  g_readings_at := He.glo_ok X N (c.t.d.fact 41 (f := .glo "readings_at") rfl)
  g_readings_of := He.glo_ok X N (c.t.d.fact 42 (f := .glo "readings_of") rfl)
  g__law_readings := He.glo_ok X N (c.t.d.fact 43 (f := .glo "_law_readings") rfl)
  g_driven_by := He.glo_ok X N (c.t.d.fact 44 (f := .glo "driven_by") rfl)
  g_within_drive := He.glo_ok X N (c.t.d.fact 45 (f := .glo "within_drive") rfl)
  g__law_right := He.glo_ok X N (c.t.d.fact 46 (f := .glo "_law_right") rfl)
  g__law_well := He.glo_ok X N (c.t.d.fact 47 (f := .glo "_law_well") rfl)
  g_law := He.glo_ok X N (c.t.d.fact 48 (f := .glo "law") rfl)
end Law
open PySem PySem.W PySem.Calls PyProof.Rows
theorem PySem.Challenge.cw_safehelms_k58_plants_moved_and_read_by_o_holds : PySem.Challenge.rw_safehelms_k58_plants_moved_and_read_by_o.Holds := by
  w_on; o_law
  refine HandSHeadRun.head_imp (r := OpenLaw.row PySem.Challenge.rw_safehelms_k58_plants_moved_and_read_by_o) (q := view (OpenLaw.row PySem.Challenge.rw_safehelms_k58_plants_moved_and_read_by_o).prog [0, 60]) (H := Law.hk) (ob := Law.ob) (M := 6000) (loose := Law.loose) (d := HandSHeadRun.topDef (OpenLaw.row PySem.Challenge.rw_safehelms_k58_plants_moved_and_read_by_o).prog 60) (kwd := []) Law.ob_eq
    Law.run (by kernel_rfl) (by kernel_rfl) (by kernel_rfl) (by rfl) (by first | assumption | decide +kernel) (by decide +kernel) ⟨rfl, rfl, rfl, rfl, rfl, by decide +kernel⟩ ?hw ?hc
  case hw => w_witness2
  case hc =>
    refine Dn.walk_G (l := PySem.Challenge.rw_safehelms_k58_plants_moved_and_read_by_o) (n := 63) (k := 22) (x := "_law_script") (m := Law.m_law) rfl (by decide) (by kernel_rfl) ⟨rfl, by decide, by decide⟩ ?F Law.law_so
    intro w mg fa h Y N hmg0
    obtain ⟨K, KX, c⟩ := Y
    have hmg : mg ("law" : PySem.Str) = some (.ref fa) := by
      have e : (HandSHeadRun.topDef (OpenLaw.row PySem.Challenge.rw_safehelms_k58_plants_moved_and_read_by_o).prog 60).name = ("law" : PySem.Str) := by kernel_rfl
      rw [← e]
      exact hmg0
    have g0 : mg ("law" : PySem.Str) = some (.ref (He.fAd K ("law", none))) := He.glo_ok KX N (c.t.d.fact 48 (f := .glo "law") rfl)
    have e0 := hmg.symm.trans g0
    cases e0
    obtain ⟨fd0, F0⟩ := c.t.d.def_ 48 (d := Law.d_law) rfl
    have b0 := L2.FunD.bindsA (ps := ["_law_script"]) F0 fun _ _ _ _ _ _ us hl => match us, hl with | [_], _ => rfl
    refine ⟨K, Law.WK K, fd0, Law.tf.map (He.cT K), KX, rfl, by simp [Law.WK, List.map_map, Function.comp_def], fun p hp => ?_, fun p hp => ?_, fun p hp => ?_, fun s v => b0 s [v] rfl, fun base X2 N2 tb => ?_⟩
    · obtain ⟨q, hq, rfl⟩ := List.mem_map.mp hp
      exact c.empty q hq
    · obtain ⟨q, hq, rfl⟩ := List.mem_map.mp hp
      exact c.out q hq
    · obtain ⟨q, hq, rfl⟩ := List.mem_map.mp hp
      exact PySem.W.codeHd_of_K KX (c.hd q hq)
    · obtain ⟨fd1, F1, h1⟩ := Law.fn_law (P := PySem.Challenge.rw_safehelms_k58_plants_moved_and_read_by_o.prog) (w := w) (Law.gf c X2 N2 tb)
      have ef : fd1 = fd0 := by
        obtain ⟨_, _, _, _, _, _, _, _, _, _, _, l1, _⟩ := F1.ex
        obtain ⟨_, _, _, _, _, _, _, _, _, _, _, l2, _⟩ := F0.ex
        have z := congrArg (fun o : Option Obj => o.map fun u => u.data) (l1.symm.trans l2)
        simpa using z
      rw [← ef]
      exact h1
