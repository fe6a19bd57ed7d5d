import PyProof.Rows.All
import HandS.GenList
import HandS.Comp
import HandS.AnyAll
import Wide.All
import OpenK.AllK
import Wide.FinOn
import HandS.ForMost
import HandS.Walk
import HandS.SetFor
import HandS.Conv
import HandS.SortInts
import HandS.Deep
import HandS.IsInst
import HandS.ForExc
import HandS.EndOwn
import KE.OsArith
import PySem.Challenge.RW_sureplans_k10_deeds_that_can_be_done
set_option Elab.async false
set_option linter.all false
set_option maxRecDepth 100000
set_option maxHeartbeats 4000000
/-! all(e for t in xs), any(..): elements of any kind, calls among them -/
namespace QG
open PySem PySem.Spec PyProof.Rows L2 GenW GxR

/-- the context of a generator expression's frame -/
abbrev gxc (X : Cx) (A : Around) (s : Shared) (H : Hp) (cenv : Env) (fp : List Addr) (pn : List (Addr × Obj)) : Cx :=
  { X with A := A, s_0 := s, H_0 := H, env := cenv, outer := X.stack, stack := cenv :: X.stack, ex := fp, fn := fun _ => false, pn := pn, xe := fun _ _ => False }
section
variable {X : Cx} {pins : List (Addr × Obj)} {σ : L2.St} {H : Hp} {s : Shared}
theorem gx_start {A' : Around} {scope : Scope} {own : List (Str × Nat)} {fp : List Addr} {cenv : Env} {it : Value} {h' : Heap} {gs : Array GenState} {tk : Nat} {pn : List (Addr × Obj)}
    (I : Inv X pins σ H s) (ok : BlkOk X.N X.env.scope scope own) (nocell : ∀ y ∈ scope.names, y.2 ≠ .cell) (hN : X.N.Nodup) (hfp : ∀ b ∈ fp, FpOk X pins H b ∧ b < s.heap.objs.size)
    (hsc : cenv.scope = scope) (hL : cenv.locals = s.heap.objs.size) (hcl : cenv.cells = cloFrom X.env.cells scope.names []) (hgl : cenv.globals = X.env.globals) (hbi : cenv.builtins = builtinsNs) (hfm : cenv.frame = some cenv.locals)
    (hfr : A'.frames = some (cenv :: X.stack)) (hhd : X.calm = true → A'.handled = none) (hgs : AllBare gs)
    (hn' : h'.Ns s.heap.objs.size (fun y => if y = (".0" : Str) then some it else none)) (hs' : ∀ b o, s.heap.get? b = some o → h'.get? b = some o)
    (hpn : ∀ p ∈ pn, h'.get? p.1 = some p.2 ∧ s.heap.objs.size < p.1 ∧ ∀ v, p.2.data ≠ .cell v) :
    Inv (gxc X A' s H cenv fp pn) [] (wipe σ (own.map (·.2))) H { s with heap := h', gens := gs, toks := tk } := by
  have hfree : ∀ y ∈ scope.names, y.2 = .free → ∃ c, X.env.cells.lookup y.1 = some c := fun y hy e => by
    rcases ok.free y hy e with k | k
    · exact I.ok.has _ (.inl k)
    · exact I.ok.has _ (.inr k)
  have cm : ∀ {y c}, (y, c) ∈ cloFrom X.env.cells scope.names [] → X.env.cells.lookup y = some c ∧ c < s.heap.objs.size := fun {y c} hm => by
    rcases cloFrom_mem hm with hm | ⟨h1, rfl⟩
    · cases hm
    · obtain ⟨c, hc⟩ := hfree _ h1 rfl
      rw [hc]
      obtain ⟨w, z⟩ := I.cell _ _ hc
      exact ⟨rfl, z.lt⟩
  have mem : ∀ {y c}, cenv.cells.lookup y = some c → X.env.cells.lookup y = some c ∧ c < s.heap.objs.size := fun {y c} e => by
    rw [hcl] at e
    exact cm (PySem.mem_of_lookup e)
  have look : ∀ {y}, scope.names.lookup y = some .free → ∃ c, cenv.cells.lookup y = some c ∧ X.env.cells.lookup y = some c := fun {y} hl => by
    have hy : (y, NameKind.free) ∈ scope.names := PySem.mem_of_lookup hl
    obtain ⟨c', e'⟩ := mem_lookup (cloFrom_has (cells := X.env.cells) (acc := []) hy)
    rw [← hcl] at e'
    exact ⟨c', e', (mem e').1⟩
  have okB : (gxc X A' s H cenv fp pn).Ok := by
    refine ⟨I.ok.mod, by show cenv.scope.kind = _; rw [hsc]; exact ok.kind, by show cenv.globals = _; rw [hgl]; exact I.ok.glob, hbi, by show s.heap.objs.size ≤ cenv.locals; rw [hL]; exact Nat.le_refl _,
      fun y z c e1 e2 => I.ok.inj y z c (mem e1).1 (mem e2).1, fun y hy => ?_, fun y c z e => ?_, fun z => hhd z, hfr, .inr ⟨rfl, hfm⟩, fun b hb => ⟨?_, fun y c e z => ?_⟩, I.bs, Nat.le_trans I.ok.bsz I.sz, fun b o e hb => ?_, fun b hb z => ?_, I.stack, I.stkFree⟩
    · have key : ∀ k, scope.names.lookup y = some k → (k = .cell ∨ k = .free) → ∃ c, cenv.cells.lookup y = some c := fun k hk hk' => by
        rcases hk' with rfl | rfl
        · exact absurd rfl (nocell _ (PySem.mem_of_lookup hk))
        · obtain ⟨c, h1, _⟩ := look hk
          exact ⟨c, h1⟩
      have hy : scope.names.lookup y = some .cell ∨ scope.names.lookup y = some .free := by rw [← hsc]; exact hy
      rcases hy with hy | hy
      · exact key _ hy (.inl rfl)
      · exact key _ hy (.inr rfl)
    · exact absurd (show false = true from z) Bool.false_ne_true
    · show b ≠ cenv.locals
      rw [hL]; exact Nat.ne_of_lt (hfp b hb).2
    · exact (hfp b hb).1.2.2.2.2.1 y c (mem e).1 z
    · rcases (hfp b hb).1.2.2.2.1 with z | z
      · exact I.ok.noex b o e z
      · exact absurd (Nat.lt_of_lt_of_le (Heap.lt_size e) (Nat.le_trans I.ok.bsz z)) (Nat.lt_irrefl _)
    · rcases List.mem_cons.mp (I.stkSub b z) with z | z
      · exact (hfp b hb).1.2.1 z
      · exact (hfp b hb).1.2.2.1 z
  refine ⟨okB, rfl, hgs, Un.kept hs', ⟨fun y => if y = (".0" : Str) then some it else none, ?_, fun i y av e1 e2 e3 => ?_⟩, fun y c e => ?_, ?_, fun y c e => I.freeC y c (mem e).1, fun p hp => ?_, I.hok.kept hs', by rw [wipe_length]; exact I.len⟩
  · show Heap.Ns _ cenv.locals _
    rw [hL]
    exact hn'
  · obtain ⟨e2, hne⟩ := wipe_some e2
    have e3 : Vis scope y := by rw [← hsc]; exact e3
    have hfr : scope.names.lookup y = some .free := by
      have no : ∀ k', scope.names.lookup y = some k' → ¬ (k' = .local ∨ k' = .cell) := fun k' e hh => by
        rcases ok.own _ (PySem.mem_of_lookup e) hh with e' | e'
        · obtain ⟨p, hp, hpy⟩ := List.mem_map.mp e'
          have e3 := ok.ix p hp
          have : p.1 = y := hpy
          rw [this] at e3
          exact hne (List.mem_map.mpr ⟨p, hp, nodup_ix hN e3 e1⟩)
        · exact e' (List.mem_of_getElem? e1)
      rcases e3 with e3 | e3 | e3
      · exact absurd (.inl rfl) (no _ e3)
      · exact absurd (.inr rfl) (no _ e3)
      · exact e3
    obtain ⟨m, hn, hl⟩ := I.loc
    have hvis : Vis X.env.scope y := (ok.free _ (PySem.mem_of_lookup hfr) rfl).elim (fun k => .inr (.inl k)) (fun k => .inr (.inr k))
    obtain ⟨w, r, q⟩ := hl i y av e1 e2 hvis
    refine ⟨w, r, .inr ⟨.inr (by show cenv.scope.names.lookup y = _; rw [hsc]; exact hfr), ?_⟩⟩
    obtain ⟨c, h1, h2⟩ := look hfr
    rcases q with ⟨k, _⟩ | ⟨_, c', e', z⟩
    · have k : X.env.scope.names.lookup y = some .local := k
      rcases ok.free _ (PySem.mem_of_lookup hfr) rfl with k' | k' <;> rw [show X.env.scope.names.lookup y = _ from k'] at k <;> cases k
    · rw [h2] at e'; cases e'
      exact ⟨c, h1, z.keeps hs'⟩
  · obtain ⟨w, z⟩ := I.cell y c (mem e).1
    exact ⟨w, z.keeps hs'⟩
  · show H cenv.locals = none
    rw [hL]; exact I.hok.fresh (Nat.le_refl _)
  · have hp : p ∈ pn := by rw [List.append_nil] at hp; exact hp
    obtain ⟨q1, q2, q3⟩ := hpn p hp
    refine ⟨q1, I.hok.fresh (Nat.le_of_lt q2), ?_, fun z => ?_, q3⟩
    · show p.1 ≠ cenv.locals
      rw [hL]; exact Nat.ne_of_gt q2
    · rcases List.mem_cons.mp (I.stkSub p.1 z) with z | z
      · have hlt := I.lt
        rw [← z] at hlt
        exact absurd (Nat.lt_trans q2 hlt) (Nat.lt_irrefl _)
      · exact I.nofs (Nat.le_of_lt q2) z
end

/-- while the generator sleeps nothing moves but counters -/
structure Still (s s' : Shared) : Prop where
  heap : s'.heap = s.heap
  os : s'.os = s.os
  bare : AllBare s'.gens
theorem Still.inv {X : Cx} {pins : List (Addr × Obj)} {σ : L2.St} {H : Hp} {s s' : Shared} (z : Still s s') (I : Inv X pins σ H s) : Inv X pins σ H s' := by
  obtain ⟨hh, g, d, t, o⟩ := s'
  obtain ⟨z1, z2, z3⟩ := z
  cases z1
  cases z2
  exact ⟨I.ok, I.os, z3, I.base, I.loc, I.cell, I.free, I.freeC, I.pin, I.hok, I.len⟩

/-- all(..) (fin = true) or any(..) (fin = false) of the elements: W by the turn and a measure -/
def Wk (J : It) (g : TG) (te : TE) (vs : List Nat) (σ : L2.St) (fin : Bool) (Q : Bool → Hp → Prop) (W : Nat → Nat → Hp → Prop) : Prop := ∀ i m H, W i m H →
  (J.stop i H ∧ Q fin H) ∨ (J.go i H ∧ ∀ x H', J.yld i H x H' → g x (wipe σ vs) H' fun σ2 H2 => wipe σ2 vs = wipe σ vs ∧ te σ2 H2 fun y H3 => ∃ b, y = .bl b ∧ if b = fin then ∃ m', m' < m ∧ W (i + 1) m' H3 else Q b H3)
section
variable {X : Cx}
/-- a value is handed out -/
def YGx (Y : Cx) (fin : Bool) (Q : Bool → Hp → Prop) : Protocol := fun n s₀ v s1 kap => ∃ (b : Bool) (σ : L2.St) (H : Hp), v = .bool b ∧ Inv Y [] σ H s1 ∧ if b = fin then ∀ s', Still s1 s' → kap (.send .none) s' else Q b H
/-- the frame is left -/
def FGx (Y : Cx) (fin : Bool) (Q : Bool → Hp → Prop) : Nat → Shared → Shared → Prop := fun n s₀ s1 => ∃ (σ : L2.St) (H : Hp), Inv Y [] σ H s1 ∧ Q fin H
def RGx (Y : Cx) (fin : Bool) (Q : Bool → Hp → Prop) : GenEnd := fun n s₀ r s1 => ((r = .ok (.ret .none) ∨ r = .ok .next) ∧ FGx Y fin Q n s₀ s1) ∨ ∃ e, r = .error e ∧ False

theorem seg_gx {Aw : Around} {s4 : Shared} {H4 : Hp} {cenv : Env} {fp : List Addr} {pn : List (Addr × Obj)} {elt tg iter : Expr} {scope : Scope} {pos : Pos} {g : TG} {te : TE} {vs : List Nat} {σ : L2.St} {J : It} {it : Addr} {tn : Nat → Heap → Prop} {fin : Bool} {Q : Bool → Hp → Prop} {W : Nat → Nat → Hp → Prop}
    (hc : X.calm = true) (hco : cenv.scope.isCoroutine = false) (hpn : ∀ p ∈ pn, p.1 ∉ fp)
    (pg : PG (gxc X (Aw.deeper cenv) s4 H4 cenv fp pn) tg g) (pe : PE (gxc X (Aw.deeper cenv) s4 H4 cenv fp pn) elt te)
    (T : Turn X.prog X.w X.K tg J fp it tn) (turn : Wk J g te vs σ fin Q W) :
    ∀ (n m i : Nat) (s₀ s : Shared) (H : Hp), m < n → W i m H → Inv (gxc X (Aw.deeper cenv) s4 H4 cenv fp pn) [] (wipe σ vs) H s → tn i s.heap → (∀ b ∈ fp, H b = none) →
      Seg (model X.prog X.w) Aw (RGx (gxc X (Aw.deeper cenv) s4 H4 cenv fp pn) fin Q) (YGx (gxc X (Aw.deeper cenv) s4 H4 cenv fp pn) fin Q) n s₀
        (.compLoop (.GeneratorExp elt [⟨tg, iter, [], 0⟩] scope pos) 0 (.ref it) .none cenv)
        ((model X.prog X.w).den (.compLoop (.GeneratorExp elt [⟨tg, iter, [], 0⟩] scope pos) 0 (.ref it) .none cenv)) [] s := by
  intro n
  have eA : Aw.over (.compLoop (.GeneratorExp elt [⟨tg, iter, [], 0⟩] scope pos) 0 (.ref it) .none cenv) [] = Aw.deeper cenv := rfl
  have stat : ∀ {σ' : L2.St} {H' : Hp} {s' : Shared}, Inv (gxc X (Aw.deeper cenv) s4 H4 cenv fp pn) [] σ' H' s' → (∀ b ∈ fp, H' b = none) → ∀ b ∈ fp, FpOk (gxc X (Aw.deeper cenv) s4 H4 cenv fp pn) [] H' b := fun {σ' H' s'} I' hn b hb =>
    ⟨hn b hb, (I'.ok.exf b hb).1, I'.ok.exfs b hb, .inl hb, fun x c e => (I'.ok.exf b hb).2 x c e, fun p hp z => by
      have hp : p ∈ pn := by rw [List.append_nil] at hp; exact hp
      exact hpn p hp (z ▸ hb)⟩
  induction n with
  | zero => intro m i s₀ s H hm; exact absurd hm (Nat.not_lt_zero _)
  | succ n ih =>
    intro m i s₀ s H hm w I st nfp
    show Seg _ Aw _ _ _ s₀ _ ((compTurn (.GeneratorExp elt [⟨tg, iter, [], 0⟩] scope pos) 0 (.ref it) .none cenv).onRaise (leaving cenv)) [] s
    rw [compTurn_gen, Sem.onRaise_eq_wrap]
    refine seg_bind_wrap (wpAny_standAt ?_)
    rcases turn i m H w with ⟨stop, qq⟩ | ⟨go, step⟩
    · refine seg_bind_wrap ?_
      rw [eA]
      refine thnF (T.done (gxc X (Aw.deeper cenv) s4 H4 cenv fp pn) rfl rfl rfl hc i [] s _ H (fun _ _ => False) I (stat I nfp) st stop) fun r s6 ⟨hr, I6⟩ => ?_
      subst hr
      exact seg_end (.ok .next) (.inl ⟨.inr rfl, _, H, I6, qq⟩)
    · refine seg_bind_wrap ?_
      rw [eA]
      refine thnF (T.item (gxc X (Aw.deeper cenv) s4 H4 cenv fp pn) rfl rfl rfl hc i [] s _ H (fun _ _ => False) I (stat I nfp) st go) fun r s6 ⟨u, hr, h6⟩ => ?_
      subst hr
      refine seg_bind_wrap ?_
      rw [eA]
      refine thnF h6 fun _ s7 ⟨x, H7, I7, r7, y7, st7, n7⟩ => ?_
      have I7' := I7.pinned (stat I7 n7) (T.obj _ _ st7)
      refine seg_bind_wrap ?_
      rw [eA]
      refine thnF (pg.run _ s7 _ H7 x u _ I7' r7 (step x H7 y7)) fun _ s8 ⟨σ8, H8, I8, hw8, q8⟩ => ?_
      simp only [List.forIn_nil]
      refine seg_bind_wrap (wpAny_pure ?_)
      simp only [if_true]
      have hy : ∀ v, yieldOut cenv v = yieldValue v := fun v => by simp only [yieldOut, hco, Bool.false_eq_true, if_false]
      simp only [hy]
      rw [Sem.bind_eq_wrap', Sem.bind_eq_wrap', Sem.wrap_wrap, Sem.wrap_wrap]
      refine seg_wrap ?_
      rw [eA]
      refine thnF (pe.run _ s8 σ8 H8 _ I8 q8) fun y s9 ⟨yv, H9, I9, r9, b, eb, q9⟩ => ?_
      subst eb
      have ey : y = .bool b := r9
      subst ey
      refine seg_at (seg_yield rfl rfl rfl ⟨b, σ8, H9, rfl, I9.unpinned, ?_⟩)
      by_cases hb : b = fin
      · rw [if_pos hb] at q9 ⊢
        obtain ⟨m', hm', w'⟩ := q9
        intro s' z
        have pin' : ∀ b ∈ fp, ∀ o, s7.heap.get? b = some o → s9.heap.get? b = some o ∧ H9 b = none := fun b hb o e =>
          let z := I9.pin (b, o) (List.mem_append_right _ (List.mem_append_right _ (mem_pinsAt hb e)))
          ⟨z.1, z.2.1⟩
        have hl : (wipe σ vs).length = σ8.length := by rw [← hw8, wipe_length]
        refine seg_again rfl (ih m' (i + 1) s' s' H9 (by omega) w' (z.inv ((I9.unpinned (pins := [])).weak hl fun j v e => ?_)) ?_ fun b hb => ?_)
        · rw [← hw8] at e
          exact (wipe_some e).1
        · rw [z.heap]
          exact T.keep _ _ _ st7 fun b hb o e => (pin' b hb o e).1
        · obtain ⟨o, e, _⟩ := T.obj _ _ st7 b hb
          exact (pin' b hb o e).2
      · rw [if_neg hb] at q9 ⊢
        exact q9
end
end QG

namespace QG
open PySem PySem.Spec PyProof.Rows L2 GenW GxR

section
variable {X : Cx}
theorem seg_gxStart {Aw : Around} {s4 : Shared} {H4 : Hp} {cenv : Env} {fp : List Addr} {pn : List (Addr × Obj)} {elt tg iter : Expr} {scope : Scope} {pos : Pos} {g : TG} {te : TE} {vs : List Nat} {σ : L2.St} {J : It} {it : Addr} {tn : Nat → Heap → Prop} {fin : Bool} {Q : Bool → Hp → Prop} {W : Nat → Nat → Hp → Prop}
    (hc : X.calm = true) (hco : cenv.scope.isCoroutine = false) (hpn : ∀ p ∈ pn, p.1 ∉ fp)
    (pg : PG (gxc X (Aw.deeper cenv) s4 H4 cenv fp pn) tg g) (pe : PE (gxc X (Aw.deeper cenv) s4 H4 cenv fp pn) elt te)
    (T : Turn X.prog X.w X.K tg J fp it tn) (turn : Wk J g te vs σ fin Q W)
    (n m : Nat) (s₀ s : Shared) (H : Hp) (hm : m < n) (w : W 0 m H) (I : Inv (gxc X (Aw.deeper cenv) s4 H4 cenv fp pn) [] (wipe σ vs) H s) (st : tn 0 s.heap) (nfp : ∀ b ∈ fp, H b = none) :
      Seg (model X.prog X.w) Aw (RGx (gxc X (Aw.deeper cenv) s4 H4 cenv fp pn) fin Q) (YGx (gxc X (Aw.deeper cenv) s4 H4 cenv fp pn) fin Q) n s₀
        (.compStart (.GeneratorExp elt [⟨tg, iter, [], 0⟩] scope pos) 0 (.ref it) .none cenv)
        ((model X.prog X.w).den (.compStart (.GeneratorExp elt [⟨tg, iter, [], 0⟩] scope pos) 0 (.ref it) .none cenv)) [] s := by
  have loop := seg_gx (iter := iter) (scope := scope) (pos := pos) hc hco hpn pg pe T turn n m 0 s₀ s H hm w I st nfp
  show Seg _ Aw _ _ _ s₀ _ ((compStart (.GeneratorExp elt [⟨tg, iter, [], 0⟩] scope pos) 0 (.ref it) .none cenv).onRaise (leaving cenv)) [] s
  unfold compStart
  rw [Sem.onRaise_eq_wrap]
  show Seg _ Aw _ _ _ s₀ _ ((ask >>= _).wrap _ _ _ _) [] s
  refine seg_bind_wrap (wpAny_askSetting ?_)
  split
  · exact seg_again rfl loop
  · first
      | exact seg_bind_wrap (wpAny_rule (seg_bind_wrap (wpAny_standAt (seg_bind_wrap (T.self _ 0 s _ _ st (seg_again rfl loop))))))
      | (refine seg_bind_wrap (wpAny_rule ?_); show Seg _ Aw _ _ _ s₀ _ ((standAt iter.pos >>= _).wrap _ _ _ _) [] s; exact seg_bind_wrap (wpAny_standAt (seg_bind_wrap (T.self _ 0 s _ _ st (seg_again rfl loop)))))
end

section
variable {P : Program} {w : World} {A : Around} {R : Result → Shared → Prop} {Y : Cx} {a : Addr} {g : Nat} {Q : Bool → Hp → Prop}
theorem isGen_same {h h' : Heap} (e : h' = h) (x : h.IsGen a g) : h'.IsGen a g := by rw [e]; exact x
theorem inv_gens {X : Cx} {pins : List (Addr × Obj)} {σ : L2.St} {H : Hp} {s : Shared} {gs : Array GenState} {d : Drawn} {t : Nat} (I : Inv X pins σ H s) (hg : AllBare gs) : Inv X pins σ H { s with gens := gs, drawn := d, toks := t } :=
  ⟨I.ok, I.os, hg, I.base, I.loc, I.cell, I.free, I.freeC, I.pin, I.hok, I.len⟩
theorem inv_setGen {X : Cx} {pins : List (Addr × Obj)} {σ : L2.St} {H : Hp} {s : Shared} {gs : GenState} (I : Inv X pins σ H s) (hg : gs.bare = true) : Inv X pins σ H (s.setGen g gs) := by
  have hb := allBare_setGen (g := g) I.bare hg
  exact inv_gens (d := s.drawn) (t := s.toks) I hb
theorem inv_stop {X : Cx} {pins : List (Addr × Obj)} {σ : L2.St} {H : Hp} {s : Shared} {h' : Heap} (I : Inv X pins σ H s) (k : ∀ b o, s.heap.get? b = some o → h'.get? b = some o) : Inv X pins σ H { s.setGen g .finished with heap := h' } := by
  have J := inv_setGen (g := g) (gs := .finished) I rfl
  exact J.kept (h' := h') (t' := s.toks) k

theorem drain_all (hP : Y.prog = P) (hw : Y.w = w) (hh : A.handled = none) (hd : A.depth < recursionLimit) (hgen : ∀ σ H s, Inv Y [] σ H s → s.heap.IsGen a g)
    (hend : ∀ b σ H s', Inv Y [] σ H s' → Q b H → R (.ok (.ret (.bool b))) s') :
    ∀ (n : Nat) (s : Shared), s.heap.IsGen a g → s.heap.NoLimit →
      (∃ gs, s.gens[g]? = some gs ∧ gs.Goes (model P w) A.in1.in1 (RGx Y true Q) (YGx Y true Q) n (.send .none) (s.setGen g .running)) →
      codeAny (model P w) A (.builtin "all.loop" ⟨[.ref a], []⟩) R s := by
  intro n
  induction n with
  | zero =>
    intro s hg hl ⟨gs, hgs, hgo⟩
    refine codeAny_builtin F.entry_all_loop ?_
    rw [Around.under_plainId F.plain_all_loop _]
    show wpAny _ A.in1 (pyNext (.ref a) >>= _) _ _ s
    refine wpAny_bind (next_genG (F := FGx Y true Q) (Er := fun _ _ => False) (A := A.in1) hh hl hd hg hgs hgo (fun v s₁ gs' hbare hv => ?_) (fun s₁ hp h' hk => ?_) fun e s₁ he => he.elim)
    · obtain ⟨b, σ, H, rfl, I, hb⟩ := hv
      by_cases eb : b = true
      · rw [if_pos eb] at hb
        exact (hb s₁ ⟨rfl, rfl, I.bare⟩).elim
      · rw [if_neg eb] at hb
        have eb : b = false := by simpa using eb
        subst eb
        refine wpAny_bind (wpAny_holding (wpAny_truthy_bool ?_))
        refine wpAny_bind (wpAny_letGo ?_)
        simp only [Bool.false_eq_true, if_false]
        exact wpAny_bind (wpAny_rule (wpAny_pure (hend false σ H _ (inv_setGen I hbare) hb)))
    · obtain ⟨σ, H, I, hq⟩ := hp
      exact wpAny_bind (wpAny_rule (wpAny_pure (hend true σ H _ (inv_stop I hk) hq)))
  | succ n ih =>
    intro s hg hl ⟨gs, hgs, hgo⟩
    have hgl : g < s.gens.size := (Array.getElem?_eq_some_iff.mp hgs).1
    refine codeAny_builtin F.entry_all_loop ?_
    rw [Around.under_plainId F.plain_all_loop _]
    show wpAny _ A.in1 (pyNext (.ref a) >>= _) _ _ s
    refine wpAny_bind (wpAny_gsz (n := g + 1) hgl (next_genG (F := FGx Y true Q) (Er := fun _ _ => False) (A := A.in1) hh hl hd hg hgs hgo (fun v s₁ gs' hbare hv => ?_) (fun s₁ hp h' hk => ?_) fun e s₁ he => he.elim))
    · intro hsz
      have hsz1 : g < s₁.gens.size := by
        have q : (s₁.setGen g gs').gens.size = s₁.gens.size := setGen_size _ _ _
        have hsz' : g + 1 ≤ (s₁.setGen g gs').gens.size := hsz
        omega
      obtain ⟨b, σ, H, rfl, I, hb⟩ := hv
      have I' := inv_setGen (g := g) I hbare
      by_cases eb : b = true
      · rw [if_pos eb] at hb
        subst eb
        refine wpAny_bind (wpAny_holding (wpAny_truthy_bool ?_))
        refine wpAny_bind (wpAny_letGo ?_)
        simp only [if_true]
        refine wpAny_pure ⟨plainId_quiet F.plain_all_loop _, ih _ (hgen _ _ _ I') I'.nolimit ⟨gs', setGen_at hsz1, ?_⟩⟩
        exact hb _ ⟨rfl, rfl, allBare_setGen (s := s₁.setGen g gs') (allBare_setGen I.bare hbare) rfl⟩
      · rw [if_neg eb] at hb
        have eb : b = false := by simpa using eb
        subst eb
        refine wpAny_bind (wpAny_holding (wpAny_truthy_bool ?_))
        refine wpAny_bind (wpAny_letGo ?_)
        simp only [Bool.false_eq_true, if_false]
        exact wpAny_bind (wpAny_rule (wpAny_pure (hend false σ H _ I' hb)))
    · intro _
      obtain ⟨σ, H, I, hq⟩ := hp
      exact wpAny_bind (wpAny_rule (wpAny_pure (hend true σ H _ (inv_stop I hk) hq)))
theorem drain_any (hP : Y.prog = P) (hw : Y.w = w) (hh : A.handled = none) (hd : A.depth < recursionLimit) (hgen : ∀ σ H s, Inv Y [] σ H s → s.heap.IsGen a g)
    (hend : ∀ b σ H s', Inv Y [] σ H s' → Q b H → R (.ok (.ret (.bool b))) s') :
    ∀ (n : Nat) (s : Shared), s.heap.IsGen a g → s.heap.NoLimit →
      (∃ gs, s.gens[g]? = some gs ∧ gs.Goes (model P w) A.in1.in1 (RGx Y false Q) (YGx Y false Q) n (.send .none) (s.setGen g .running)) →
      codeAny (model P w) A (.builtin "any.loop" ⟨[.ref a], []⟩) R s := by
  intro n
  induction n with
  | zero =>
    intro s hg hl ⟨gs, hgs, hgo⟩
    refine codeAny_builtin F.entry_any_loop ?_
    rw [Around.under_plainId F.plain_any_loop _]
    show wpAny _ A.in1 (pyNext (.ref a) >>= _) _ _ s
    refine wpAny_bind (next_genG (F := FGx Y false Q) (Er := fun _ _ => False) (A := A.in1) hh hl hd hg hgs hgo (fun v s₁ gs' hbare hv => ?_) (fun s₁ hp h' hk => ?_) fun e s₁ he => he.elim)
    · obtain ⟨b, σ, H, rfl, I, hb⟩ := hv
      by_cases eb : b = false
      · rw [if_pos eb] at hb
        exact (hb s₁ ⟨rfl, rfl, I.bare⟩).elim
      · rw [if_neg eb] at hb
        have eb : b = true := by simpa using eb
        subst eb
        refine wpAny_bind (wpAny_holding (wpAny_truthy_bool ?_))
        refine wpAny_bind (wpAny_letGo ?_)
        simp only [if_true]
        exact wpAny_bind (wpAny_rule (wpAny_pure (hend true σ H _ (inv_setGen I hbare) hb)))
    · obtain ⟨σ, H, I, hq⟩ := hp
      exact wpAny_bind (wpAny_rule (wpAny_pure (hend false σ H _ (inv_stop I hk) hq)))
  | succ n ih =>
    intro s hg hl ⟨gs, hgs, hgo⟩
    have hgl : g < s.gens.size := (Array.getElem?_eq_some_iff.mp hgs).1
    refine codeAny_builtin F.entry_any_loop ?_
    rw [Around.under_plainId F.plain_any_loop _]
    show wpAny _ A.in1 (pyNext (.ref a) >>= _) _ _ s
    refine wpAny_bind (wpAny_gsz (n := g + 1) hgl (next_genG (F := FGx Y false Q) (Er := fun _ _ => False) (A := A.in1) hh hl hd hg hgs hgo (fun v s₁ gs' hbare hv => ?_) (fun s₁ hp h' hk => ?_) fun e s₁ he => he.elim))
    · intro hsz
      have hsz1 : g < s₁.gens.size := by
        have q : (s₁.setGen g gs').gens.size = s₁.gens.size := setGen_size _ _ _
        have hsz' : g + 1 ≤ (s₁.setGen g gs').gens.size := hsz
        omega
      obtain ⟨b, σ, H, rfl, I, hb⟩ := hv
      have I' := inv_setGen (g := g) I hbare
      by_cases eb : b = false
      · rw [if_pos eb] at hb
        subst eb
        refine wpAny_bind (wpAny_holding (wpAny_truthy_bool ?_))
        refine wpAny_bind (wpAny_letGo ?_)
        simp only [Bool.false_eq_true, if_false]
        refine wpAny_pure ⟨plainId_quiet F.plain_any_loop _, ih _ (hgen _ _ _ I') I'.nolimit ⟨gs', setGen_at hsz1, ?_⟩⟩
        exact hb _ ⟨rfl, rfl, allBare_setGen (s := s₁.setGen g gs') (allBare_setGen I.bare hbare) rfl⟩
      · rw [if_neg eb] at hb
        have eb : b = true := by simpa using eb
        subst eb
        refine wpAny_bind (wpAny_holding (wpAny_truthy_bool ?_))
        refine wpAny_bind (wpAny_letGo ?_)
        simp only [if_true]
        exact wpAny_bind (wpAny_rule (wpAny_pure (hend true σ H _ I' hb)))
    · intro _
      obtain ⟨σ, H, I, hq⟩ := hp
      exact wpAny_bind (wpAny_rule (wpAny_pure (hend false σ H _ (inv_stop I hk) hq)))
end
end QG

namespace QG
open PySem PySem.Spec PyProof.Rows L2 GenW GxR

/-- what is asked for all(..), any(..) of the elements; behind it the def's table may have grown -/
def tGx (P : Addr) (wi : TI) (g : TG) (te : TE) (vs : List Nat) (fin : Bool) : TE := fun σ H Q => wi σ H fun J H1 => TabG H1 P ∧ ∀ H2, Tabbed P H1 H2 →
  ∃ W : Nat → Nat → Hp → Prop, (∃ m, W 0 m H2) ∧ Wk J g te vs σ fin (fun b H => Q (.bl b) H) W

section
variable {X : Cx} {pins : List (Addr × Obj)} {σ : L2.St} {H : Hp} {s : Shared}
theorem gen_make {c P : Addr} {elt tg iter : Expr} {gpos : Pos} {scope : Scope} {own : List (Str × Nat)} {wi : TI} {g : TG} {te : TE} {fin : Bool} {Q' : Value → Shared → Prop} {Q : VK} {k : Nat}
    (hr : Room k X.A) (hc : X.calm = true) (hN : X.N.Nodup) (TB : TabB X.base X.mg c P) (hcode : X.env.code = .ref c) (ok : BlkOk X.N X.env.scope scope own) (nocell : ∀ y ∈ scope.names, y.2 ≠ .cell) (hco : scope.isCoroutine = false)
    (hdot : scope.names.lookup (".0" : Str) = some NameKind.local) (hi : PI X tg iter wi)
    (hg : ∀ (s : Shared) (H : Hp) (cenv : Env) (fp : List Addr) (pn : List (Addr × Obj)), cenv.scope = scope → PG (gxc X (X.A.in1.in1.deeper cenv) s H cenv fp pn) tg g)
    (he : ∀ (s : Shared) (H : Hp) (cenv : Env) (fp : List Addr) (pn : List (Addr × Obj)), cenv.scope = scope → PE (gxc X (X.A.in1.in1.deeper cenv) s H cenv fp pn) elt te)
    (hs : ∀ v, genFold iter X.env v = pure v) (I : Inv X pins σ H s) (h : tGx P wi g te (own.map (·.2)) fin σ H Q)
    (hQ : ∀ (a : Addr) (gn : Nat) (Y : Cx) (n : Nat) (s5 : Shared), Y.prog = X.prog → Y.w = X.w → (∀ σ H s, Inv Y [] σ H s → s.heap.IsGen a gn) → (∀ b σ5 H5 s6, Inv Y [] σ5 H5 s6 → Q (.bl b) H5 → EP X pins σ Q (.bool b) s6) →
      s5.heap.IsGen a gn → s5.heap.NoLimit → (∃ gs, s5.gens[gn]? = some gs ∧ gs.Goes (model X.prog X.w) X.A.in1.in1 (RGx Y fin fun b H => Q (.bl b) H) (YGx Y fin fun b H => Q (.bl b) H) n (.send .none) (s5.setGen gn .running)) → Q' (.ref a) s5) :
    wpAny (model X.prog X.w) X.A (eval (.GeneratorExp elt [⟨tg, iter, [], 0⟩] scope gpos) X.env) Q' X.xe s := by
  have hfree : ∀ y ∈ scope.names, y.2 = .free → ∃ c, X.env.cells.lookup y.1 = some c := fun y hy e => by
    rcases ok.free y hy e with k | k
    · exact I.ok.has _ (.inl k)
    · exact I.ok.has _ (.inr k)
  refine wpAny_GeneratorExp_make hco (closure_ok hfree) nocell hdot ok.kind (by have := hr.dp; omega) ?_ hs
  refine thn (hi.run pins s σ H _ I h) fun xv s1 hx => thn hx fun itv s2 h2 => ?_
  obtain ⟨it, fp, tn, J, H1, rfl, I1, T, st2, f2, ⟨ps, hP, ht⟩, q1⟩ := h2
  refine ⟨I1.nolimit, ?_⟩
  have hPs : s2.heap.get? P = some { cls := .none, data := .fields ps } := I1.hok P _ hP
  have hPlt : P < s2.heap.objs.size := Heap.lt_size hPs
  have nPf : ∀ b ∈ fp, b ≠ P := fun b hb z => by
    have := (f2 b hb).1
    rw [z, hP] at this
    cases this
  have cont : ∀ (code : Value) (h3 : Heap) (tk : Nat) (H2 : Hp), Tabbed P H1 H2 → Inv X pins σ H2 { s2 with heap := h3, toks := tk } → (∀ b o, b ≠ P → s2.heap.get? b = some o → h3.get? b = some o) →
      wpAny (model X.prog X.w) X.A (builtinsFor X.env.globals X.env.builtins) (fun bi s₄ =>
        ∀ h', h'.Ns s₄.heap.objs.size (fun y => if y = (".0" : Str) then some (Value.ref it) else none) → Heap.SameBut s₄.heap.objs.size (s₄.heap.push { cls := .type "frame", data := .dict #[] }) h' →
          Q' (.ref h'.objs.size) { s₄ with
            gens := s₄.gens.push (.fresh (.compStart (.GeneratorExp elt [⟨tg, iter, [], 0⟩] scope gpos) 0 (.ref it) .none (genEnv scope (cloFrom X.env.cells scope.names []) s₄.heap.objs.size code bi X.env))),
            toks := s₄.toks + 1 + 1 + 1,
            heap := h'.push { cls := .type "generator", data := .fields #[.int s₄.gens.size 0, .str "<genexpr>" (s₄.toks + 1), .str (X.env.qual ++ "<genexpr>") (s₄.toks + 1 + 1)] } }) X.xe { s2 with heap := h3, toks := tk } := by
    intro code h3 tk H2 hT I3 hk3
    obtain ⟨bm, ob, e1, e2, e3, e4, e5, e6, e7, e8⟩ := TB.bm
    refine wpAny_builtinsFor (m := X.mg) (by rw [I3.ok.glob]; exact I3.ok.mod.glob.keeps I3.bk) e1 e2 (I3.bk _ _ e5) e6 e7 e8 ?_
    intro h' hn' hs'
    generalize hs4 : ({ s2 with heap := h3, toks := tk } : Shared) = s4 at I3 hn' hs' ⊢
    have h4 : s4.heap = h3 := by rw [← hs4]
    have sz : h'.objs.size = s4.heap.objs.size + 1 := by rw [hs'.1, Heap.size_push]
    have keep' : ∀ b o, s4.heap.get? b = some o → h'.get? b = some o := fun b o e => hs'.extBut b o (Nat.ne_of_lt (Heap.lt_size e)) (Heap.get?_push_of_some _ e)
    generalize hgo : ({ cls := .type "generator", data := .fields #[.int s4.gens.size 0, .str "<genexpr>" (s4.toks + 1), .str (X.env.qual ++ "<genexpr>") (s4.toks + 1 + 1)] } : Obj) = go
    have keep5 : ∀ b o, s4.heap.get? b = some o → (h'.push go).get? b = some o := fun b o e => Heap.get?_push_of_some _ (keep' b o e)
    generalize hce : genEnv scope (cloFrom X.env.cells scope.names []) s4.heap.objs.size code builtinsNs X.env = cenv
    have hfp : ∀ b ∈ fp, FpOk X pins H2 b ∧ b < s4.heap.objs.size := fun b hb => by
      refine ⟨⟨(hT.2 b (nPf b hb)).trans (f2 b hb).1, (f2 b hb).2⟩, ?_⟩
      obtain ⟨o, e, _⟩ := T.obj _ _ st2 b hb
      rw [h4]
      exact Heap.lt_size (hk3 b o (nPf b hb) e)
    have hat : (h'.push go).get? h'.objs.size = some go := by rw [← hgo]; exact Heap.get?_push_size _ rfl
    have hgd : ∀ v, go.data ≠ .cell v := fun v z => by rw [← hgo] at z; cases z
    obtain ⟨W, ⟨m0, w0⟩, turn⟩ := q1 H2 hT
    have start : ∀ (gs : Array GenState) (tk' : Nat) (hp : Heap), AllBare gs → (h'.push go) = hp → Inv (gxc X (X.A.in1.in1.deeper cenv) s4 H2 cenv fp [(h'.objs.size, go)]) [] (wipe σ (own.map (·.2))) H2 { s4 with heap := hp, gens := gs, toks := tk' } := by
      intro gs tk' hp hb e
      subst e
      refine gx_start (it := .ref it) I3 ok nocell hN hfp (by rw [← hce]; rfl) (by rw [← hce]; rfl) (by rw [← hce]; rfl) (by rw [← hce]; rfl) (by rw [← hce]; rfl) (by rw [← hce]; rfl) (Around.frames_deeper (show X.A.in1.in1.frames = _ from I3.ok.frames)) (fun _ => hr.hd) hb (hn'.push _) keep5 fun p hp => ?_
      rw [List.mem_singleton.mp hp]
      exact ⟨hat, (by show s4.heap.objs.size < h'.objs.size; rw [sz]; exact Nat.lt_succ_self _), hgd⟩
    have tn5 : tn 0 (h'.push go) := T.keep _ _ _ st2 fun b hb o e => keep5 b o (by rw [h4]; exact hk3 b o (nPf b hb) e)
    have hbare : AllBare (s4.gens.push (.fresh (.compStart (.GeneratorExp elt [⟨tg, iter, [], 0⟩] scope gpos) 0 (.ref it) .none cenv))) := AllBare.push I3.bare rfl
    have isg : ∀ h : Heap, h.get? h'.objs.size = some go → h.IsGen h'.objs.size s4.gens.size := fun h e => ⟨go, _, _, e, by rw [← hgo], by rw [← hgo], by rw [← hgo]⟩
    refine hQ h'.objs.size s4.gens.size (gxc X (X.A.in1.in1.deeper cenv) s4 H2 cenv fp [(h'.objs.size, go)]) (m0 + 1) _ rfl rfl (fun σ5 H5 s6 I6 => ?_) (fun b σ5 H5 s6 I6 hq => ?_) (isg _ hat) (I3.nolimit.keeps keep5) ⟨_, Array.getElem?_push_size .., rfl, ?_⟩
    · exact isg _ (I6.pin (h'.objs.size, go) (List.mem_append_left _ (List.mem_singleton.mpr rfl))).1
    · exact ⟨.bl b, H5, I3.call' (ch := fp) I6.os I6.base I6.hok I6.bare fun b hb => ⟨(hfp b hb).1.2.2.2.1, (hfp b hb).1.2.1, (hfp b hb).1.2.2.2.2.1, (hfp b hb).1.2.2.2.2.2⟩, rfl, hq⟩
    · have hb2 := allBare_setGen (s := { s4 with gens := s4.gens.push (.fresh (.compStart (.GeneratorExp elt [⟨tg, iter, [], 0⟩] scope gpos) 0 (.ref it) .none cenv)) }) (g := s4.gens.size) (x := .running) hbare rfl
      refine seg_gxStart (fin := fin) (Q := fun b H => Q (.bl b) H) (W := W) (σ := σ) (vs := own.map (·.2)) (J := J) (tn := tn) hc (by rw [← hce]; exact hco) (fun p hp z => ?_) (hg _ _ _ _ _ (by rw [← hce]; rfl)) (he _ _ _ _ _ (by rw [← hce]; rfl)) T turn (m0 + 1) m0 _ _ H2 (Nat.lt_succ_self _) w0 ?_ tn5 fun b hb => (hfp b hb).1.1
      · rw [List.mem_singleton.mp hp] at z
        have h9 := (hfp _ z).2
        have h9 : h'.objs.size < s4.heap.objs.size := h9
        omega
      · exact start _ _ _ hb2 rfl
  have cd : PySem.W.CodeHd s2.heap c P := TB.code.keeps fun b u e => I1.bk b u e
  cases hf : codeAmong gpos ps.toList with
  | none =>
    refine wpAny_genexprCodeX hcode (cd.code hPs ht) (cd.tab hPs) hf fun c' h' tk hx hge hlt hco' _ htab' _ => ?_
    obtain ⟨o1, vs, f1, tf, fl, tg', inF, tx, tt, op, _, _, _, _, _, _, _, _, _, htr, _⟩ := hco'
    have k3 : ∀ b o, b ≠ P → s2.heap.get? b = some o → h'.get? b = some o := fun b o hb e => hx b o hb e
    exact cont _ h' tk _ ⟨⟨_, upd_same, htr⟩, fun b hb => upd_ne hb⟩ (inv_tab (more := #[rawInt gpos.line, rawInt gpos.col, .ref c']) (g' := s2.gens) (d' := s2.drawn) I1 hP k3 htab'.2 I1.bare) k3
  | some cv =>
    refine wpAny_genexprCode_hit hcode (cd.code hPs ht) hf ?_
    exact cont cv s2.heap s2.toks H1 ⟨⟨ps, hP, ht⟩, fun _ _ => rfl⟩ I1 fun b o _ e => e

theorem pe_all {c P : Addr} {elt tg iter : Expr} {p pos gpos : Pos} {scope : Scope} {own : List (Str × Nat)} {wi : TI} {g : TG} {te : TE} {k : Nat}
    (hr : Room k X.A) (hc : X.calm = true) (hN : X.N.Nodup) (hgl : Gl X "all") (hm : X.mg "all" = none) (TB : TabB X.base X.mg c P) (hcode : X.env.code = .ref c) (ok : BlkOk X.N X.env.scope scope own) (nocell : ∀ y ∈ scope.names, y.2 ≠ .cell) (hco : scope.isCoroutine = false)
    (hdot : scope.names.lookup (".0" : Str) = some NameKind.local) (hi : PI X tg iter wi)
    (hg : ∀ (s : Shared) (H : Hp) (cenv : Env) (fp : List Addr) (pn : List (Addr × Obj)), cenv.scope = scope → PG (gxc X (X.A.in1.in1.deeper cenv) s H cenv fp pn) tg g)
    (he : ∀ (s : Shared) (H : Hp) (cenv : Env) (fp : List Addr) (pn : List (Addr × Obj)), cenv.scope = scope → PE (gxc X (X.A.in1.in1.deeper cenv) s H cenv fp pn) elt te)
    (hs : ∀ v, genFold iter X.env v = pure v)
    (hst : starEach [.GeneratorExp elt [⟨tg, iter, [], 0⟩] scope gpos] X.env = (false, eval (.GeneratorExp elt [⟨tg, iter, [], 0⟩] scope gpos) X.env) :: starEach [] X.env := by rfl) :
    PE X (.Call (.Name "all" p) [.GeneratorExp elt [⟨tg, iter, [], 0⟩] scope gpos] [] pos) (tGx P wi g te (own.map (·.2)) true) := by
  refine ⟨fun pins s σ H Q I h => ?_⟩
  refine wpAny_Call_Name_kw (ld_blt I hgl hm (u := .builtin "all") (by decide +kernel) ?_)
  refine PyProof.Rows.callWith_builtin1 ?_ hst (by rfl)
  rw [hst]
  show wpAny _ _ (spliced ((false, eval (.GeneratorExp elt [⟨tg, iter, [], 0⟩] scope gpos) X.env) :: backTo pos (starEach [] X.env))) _ _ s
  refine Calls.spliced_cons (gen_make (fin := true) (Q := Q) hr hc hN TB hcode ok nocell hco hdot hi hg he hs I h fun a gn Y n s5 hP hw hgen hend g5 l5 goes => ?_)
  refine Calls.spliced_nil ?_
  refine call_function_tree F.kind_all F.plain_all F.entry_all (F.args_all1 _) ?_
  unfold Builtin.«all»
  refine wpAny_bind (m := oneArg "all" _) (wpAny_pure ?_)
  refine wpAny_bind (wpAny_pyIter_gen g5 ?_)
  exact wpAny_pure ⟨plainId_quiet F.plain_all_loop _, drain_all (Y := Y) (Q := fun b H => Q (.bl b) H) hP hw hr.hd (by have := hr.dp; omega) hgen (fun b σ5 H5 s6 I6 hq => hend b σ5 H5 s6 I6 hq) n s5 g5 l5 goes⟩
theorem pe_any {c P : Addr} {elt tg iter : Expr} {p pos gpos : Pos} {scope : Scope} {own : List (Str × Nat)} {wi : TI} {g : TG} {te : TE} {k : Nat}
    (hr : Room k X.A) (hc : X.calm = true) (hN : X.N.Nodup) (hgl : Gl X "any") (hm : X.mg "any" = none) (TB : TabB X.base X.mg c P) (hcode : X.env.code = .ref c) (ok : BlkOk X.N X.env.scope scope own) (nocell : ∀ y ∈ scope.names, y.2 ≠ .cell) (hco : scope.isCoroutine = false)
    (hdot : scope.names.lookup (".0" : Str) = some NameKind.local) (hi : PI X tg iter wi)
    (hg : ∀ (s : Shared) (H : Hp) (cenv : Env) (fp : List Addr) (pn : List (Addr × Obj)), cenv.scope = scope → PG (gxc X (X.A.in1.in1.deeper cenv) s H cenv fp pn) tg g)
    (he : ∀ (s : Shared) (H : Hp) (cenv : Env) (fp : List Addr) (pn : List (Addr × Obj)), cenv.scope = scope → PE (gxc X (X.A.in1.in1.deeper cenv) s H cenv fp pn) elt te)
    (hs : ∀ v, genFold iter X.env v = pure v)
    (hst : starEach [.GeneratorExp elt [⟨tg, iter, [], 0⟩] scope gpos] X.env = (false, eval (.GeneratorExp elt [⟨tg, iter, [], 0⟩] scope gpos) X.env) :: starEach [] X.env := by rfl) :
    PE X (.Call (.Name "any" p) [.GeneratorExp elt [⟨tg, iter, [], 0⟩] scope gpos] [] pos) (tGx P wi g te (own.map (·.2)) false) := by
  refine ⟨fun pins s σ H Q I h => ?_⟩
  refine wpAny_Call_Name_kw (ld_blt I hgl hm (u := .builtin "any") (by decide +kernel) ?_)
  refine PyProof.Rows.callWith_builtin1 ?_ hst (by rfl)
  rw [hst]
  show wpAny _ _ (spliced ((false, eval (.GeneratorExp elt [⟨tg, iter, [], 0⟩] scope gpos) X.env) :: backTo pos (starEach [] X.env))) _ _ s
  refine Calls.spliced_cons (gen_make (fin := false) (Q := Q) hr hc hN TB hcode ok nocell hco hdot hi hg he hs I h fun a gn Y n s5 hP hw hgen hend g5 l5 goes => ?_)
  refine Calls.spliced_nil ?_
  refine call_function_tree F.kind_any F.plain_any F.entry_any (F.args_any1 _) ?_
  unfold Builtin.«any»
  refine wpAny_bind (m := oneArg "any" _) (wpAny_pure ?_)
  refine wpAny_bind (wpAny_pyIter_gen g5 ?_)
  exact wpAny_pure ⟨plainId_quiet F.plain_any_loop _, drain_any (Y := Y) (Q := fun b H => Q (.bl b) H) hP hw hr.hd (by have := hr.dp; omega) hgen (fun b σ5 H5 s6 I6 hq => hend b σ5 H5 s6 I6 hq) n s5 g5 l5 goes⟩
end
end QG

namespace PG
open PySem L2
open PySem.Spec
open PyProof.Rows (IntsAre seqObj)
section
variable {P : Program} {w : World} {A : Around} {E : Value → Shared → Prop} {s : Shared}
/-- an empty set, as it is made -/
abbrev eset (w : World) : Obj := { cls := .type "set", dict := none, data := .set #[] 0 (.fresh 0 0 (!w.params.followText "set-order")) }
/-- the fill of a new set from a list's iterator -/
theorem eset_fill {l : Addr} {items : Array Value} (ns : List Int) (hh : A.handled = none) (hl : s.heap.IsList l items) (hit : IntsAre items.toList ns) (hb : ns.length + 1 < scanBound) {R : Result → Shared → Prop}
    (hR : ∀ (h' : Heap) (tk c : Nat), SetR w h' s.heap.objs.size (fun j => decide (j ∈ ns)) c → (∀ b o, s.heap.get? b = some o → h'.get? b = some o) → R (.ok (.ret .none)) { s with heap := h', toks := tk }) :
    codeAny (model P w) A (.builtin "set.update.loop" ⟨[.ref s.heap.objs.size, .ref (s.heap.objs.size + 1)], []⟩) R { s with heap := (s.heap.push (eset w)).push { cls := .type "list_iterator", data := .fields #[.ref l, .int 0 0] } } := by
  have e0 : items.size = ns.length := by have := IntsAre.length hit; rw [Array.length_toList] at this; exact this
  obtain ⟨lo, hlo, hrest⟩ := id hl
  have lt0 : l < s.heap.objs.size := Heap.lt_size hlo
  have z1 : (s.heap.push (eset w)).objs.size = s.heap.objs.size + 1 := Heap.size_push ..
  have ne0 : l ≠ s.heap.objs.size + 1 := Nat.ne_of_lt (Nat.lt_succ_of_lt lt0)
  have nin : s.heap.objs.size ∉ [s.heap.objs.size + 1, l] := by
    intro z
    rcases List.mem_cons.mp z with z | z
    · exact absurd z (Nat.ne_of_lt (Nat.lt_succ_self _))
    · exact absurd (List.mem_singleton.mp z) (Nat.ne_of_gt lt0)
  have nw : ((s.heap.push (eset w)).push { cls := .type "list_iterator", data := .fields #[.ref l, .int 0 0] }).get? s.heap.objs.size = some (eset w) := Heap.get?_push_of_some _ (Heap.get?_push_size _ rfl)
  have itv : ∀ (i : Nat) (v : Value), items[i]? = some v → ∃ k t, ns[i]? = some k ∧ v = .int k t := fun i v hv => by
    have lt : i < ns.length := e0 ▸ (Array.getElem?_eq_some_iff.mp hv).1
    obtain ⟨t, e⟩ := PyProof.Rows.IntsAre.int_at hit i v (by rw [Array.getElem?_toList]; exact hv)
    exact ⟨ns[i], t, List.getElem?_eq_getElem lt, by rw [e, List.getD_eq_getElem?_getD, List.getElem?_eq_getElem lt] <;> rfl⟩
  have itr : ((s.heap.push (eset w)).push { cls := .type "list_iterator", data := .fields #[.ref l, .int 0 0] }).get? (s.heap.objs.size + 1) = some { cls := .type "list_iterator", data := .fields #[.ref l, .int 0 0] } := by
    rw [← z1]; exact Heap.get?_push_size _ rfl
  refine set_update_ints ((Walks.list (A := A.in1) (by simp [hh]) (s.heap.objs.size + 1) l ne0 items).toS) s.heap.objs.size nin ns e0 hb itv (items.size - 0) 0 _ (by omega) (Nat.zero_le _) ⟨⟨_, itr, rfl, rfl⟩, (hl.push _).push _⟩ ⟨0, Nat.le_refl 0, setR_new_at nw⟩ fun s' c' hm hc' hS' => ?_
  obtain ⟨h', g2, d', tk', os'⟩ := s'
  obtain rfl : g2 = s.gens := hm.gens
  obtain rfl : d' = s.drawn := hm.drawn
  obtain rfl : os' = s.os := hm.os
  refine hR h' tk' c' hS' fun b o e => ?_
  have q : b < s.heap.objs.size := Heap.lt_size e
  refine hm.heap b o (fun z => ?_) (Heap.get?_push_of_some _ (Heap.get?_push_of_some _ e))
  rcases List.mem_cons.mp z with z | z
  · exact absurd z (Nat.ne_of_lt q)
  · exact absurd (List.mem_singleton.mp z) (Nat.ne_of_lt (Nat.lt_succ_of_lt q))
/-- set(l), l a list of whole numbers -/
theorem set_of_list {l : Addr} {items : Array Value} (ns : List Int) {Q : Value → Shared → Prop} (hh : A.handled = none) (hl : s.heap.IsList l items) (hit : IntsAre items.toList ns) (hb : ns.length + 1 < scanBound)
    (hQ : ∀ (h' : Heap) (tk c : Nat), SetR w h' s.heap.objs.size (fun j => decide (j ∈ ns)) c → (∀ b o, s.heap.get? b = some o → h'.get? b = some o) → Q (.ref s.heap.objs.size) { s with heap := h', toks := tk }) :
    wpAny (model P w) A (call (.type "set") [.ref l]) Q E s := by
  obtain ⟨c0, t0, mro0⟩ := F.called_set.mro
  have made0 := F.called_set.made
  have sub0 := F.called_set.sub
  refine wpAny_call (codeAny_of_tree (show wpAny _ _ (callAny (.type "set") _) _ _ _ from wpAny_pure ⟨Code.quiet_builtin _ (by decide +kernel), codeAny_builtin F.entry_type_call ?_⟩))
  rw [Around.under_plain (weight_type_call_type "set" [.ref l] []) rfl]
  have nt := F.called_set.notType; have cc := F.called_set.canCreate; have tc := F.typeCall_set_1 (.ref l)
  repeat (any_goals (first | assumption | wp_step))
  refine codeAny_mono (code_set_led1 (.ref l) (E := E) (Q₁ := fun o s₁ => o = .ref s.heap.objs.size ∧ s₁ = { s with heap := s.heap.push (eset w) }) ⟨rfl, rfl⟩) fun r s₁ hr => ?_
  match r, hr with
  | .error e, hr => exact hr
  | .ok (.ret o), hr =>
    obtain ⟨rfl, rfl⟩ := hr
    have gS : (s.heap.push (eset w)).get? s.heap.objs.size = some (eset w) := Heap.get?_push_size _ rfl
    have tS : Shared.TypeIs { s with heap := s.heap.push (eset w) } (.ref s.heap.objs.size) "set" := ⟨_, gS, rfl⟩
    have il := F.called_set.init.lookup; have ib := F.called_set.init.bind (.ref s.heap.objs.size)
    repeat (any_goals (first | assumption | wp_step))
    refine codeAny_mono (codeAny_call_builtin (R := wants (fun r s₂ => r = .none ∧ ∃ h' tk c, s₂ = { s with heap := h', toks := tk } ∧ SetR w h' s.heap.objs.size (fun j => decide (j ∈ ns)) c ∧ (∀ b o, s.heap.get? b = some o → h'.get? b = some o)) E)
      F.called_set.init.plain F.entry_set_init (check_set_init_1 tS ?_)) fun r₂ s₂ hr₂ => ?_
    · obtain ⟨⟨lc, ld, lda, ls⟩, hol, hcl, nl, hdl⟩ := id hl
      simp only at hcl hdl
      subst hcl hdl
      have gl : (s.heap.push (eset w)).get? l = some { cls := .type "list", dict := ld, data := .seq items nl, slots := ls } := Heap.get?_push_of_some _ hol
      have s1 := F.sub_list_set; have s2 := F.sub_list_frozenset
      have nd : (Value.type "list" == Value.type "dict") = false := by decide
      unfold Builtin.«set.__init__» noKeywords Builtin.Frozenset.updateFrom
      generalize hPI : pyIter = PI
      wp_walk
      subst hPI
      refine wpAny_pyIter_list (hl.push _) ?_
      refine wpAny_bind (wpAny_runValue ?_)
      show codeAny _ _ (.builtin _ ⟨[_, .ref (s.heap.push (eset w)).objs.size], []⟩) _ _
      rw [show (s.heap.push (eset w)).objs.size = s.heap.objs.size + 1 from Heap.size_push ..]
      refine eset_fill (A := A.in1.in1) ns (by simp [hh]) hl hit hb fun h' tk c hS hk => ?_
      show wpAny _ _ (pure ()) _ _ _
      refine wpAny_pure ?_
      show wpAny _ _ (ret Value.none) _ _ _
      exact wpAny_pure ⟨rfl, h', tk, c, rfl, hS, hk⟩
    · match r₂, hr₂ with
      | .error e, h => exact h
      | .ok (.ret o), h =>
        obtain ⟨rfl, h', tk, c, rfl, hS, hk⟩ := h
        repeat (any_goals (first | assumption | wp_step))
        exact hQ _ _ _ hS hk
      | .ok .next, h | .ok .brk, h | .ok .cont, h => exact h.elim
/-- sorted of a set of whole numbers, however many -/
theorem sorted_of_set {a : Addr} {S : Int → Bool} {n : Nat} {Q : Value → Shared → Prop} (R : SetR w s.heap a S n) (hh : A.handled = none)
    (hQ : ∀ s' p (us : List Value) (c : Nat) (ns : List Int), (∀ b o, s.heap.get? b = some o → s'.heap.get? b = some o) → s'.gens = s.gens → s'.os = s.os → s.heap.objs.size ≤ p →
      s'.heap.get? p = some (seqObj "list" us.toArray c) → IntsAre us ns → ns.Pairwise (· < ·) → (∀ k, k ∈ ns ↔ S k = true) → us.length ≤ sizeLine → Q (.ref p) s') :
    wpAny (model P w) A (call (.builtin "sorted") [.ref a]) Q E s := by
  obtain ⟨o, es, ep, t, ho, hex, hd, g, nd, hm, hb, hf, hn, hr, hl⟩ := R
  refine Calls.call_function_entry PyProof.Rows.kind_sorted PyProof.Rows.plain_sorted PyProof.Rows.entry_sorted (PyProof.Rows.args_sorted1 _) ?_
  unfold Builtin.«sorted»
  refine wpAny_bind (m := checkCount "sorted" 1 1 _) (wpAny_pure (wpAny_bind (collect_set (A := A.in1) hh ⟨o, ho, hex.1, hd⟩ hf hb hr hl fun s1 vs k1 hz g1 o1 pm => ?_)))
  have ln : vs.length = es.size := by rw [pm.length_eq, List.length_map, Array.length_toList]
  have le : vs.length ≤ sizeLine := by rw [ln]; exact fits_of_scanBound hb
  have hI : IntsAre vs (vs.map SrtO.iv) := SrtO.ints_iv fun v hv => by
    obtain ⟨e, he, q⟩ := List.mem_map.mp (pm.mem_iff.mp hv)
    obtain ⟨k, tk, h1, _⟩ := g e he
    exact ⟨k, tk, q.symm.trans h1⟩
  have pk : (vs.map SrtO.iv).Perm (es.toList.map keyOf) := by
    have q := pm.map SrtO.iv
    rw [List.map_map] at q
    exact q
  refine wpAny_bind (wpAny_newList ?_ le)
  have hoL : (s1.heap.push (seqObj "list" vs.toArray 0)).get? s1.heap.objs.size = some (seqObj "list" vs.toArray 0) := Heap.get?_push_size _ rfl
  refine wpAny_bind (wpAny_holding (wpAny_call_entry PyProof.Rows.slot_list_sort ⟨_, hoL, rfl⟩ PyProof.Rows.entry_list_sort (SrtO.list_sort_ord SrtO.swo_int hoL le (fun h2 => SrtO.ints_sortable hI h2) fun out a1 a2 => ⟨_, rfl, ?_⟩) (PyProof.Rows.args_list_sort _)))
  obtain ⟨k1', k2', k3'⟩ := SrtO.ints_out hI a1 a2
  obtain ⟨c, hc⟩ := PyProof.Rows.sortedHeap_at (vs := vs) (out := out.toArray) hoL
  have pn : (out.map SrtO.iv).Perm (es.toList.map keyOf) := k2'.trans pk
  refine wpAny_pure ⟨_, rfl, hQ _ s1.heap.objs.size out c _ (fun b u e => ?_) g1 o1 hz hc k1' (lt_of_le_nodup _ k3' (pn.nodup_iff.mpr nd)) (fun k => by rw [pn.mem_iff, ← hm k]) (by rw [a2.perm.length_eq]; exact le)⟩
  have q := k1 b u e
  have lt := Heap.lt_size q
  exact (PyProof.Rows.sortedHeap_old (Nat.ne_of_lt lt) (by rw [PyProof.Rows.size_push']; exact Nat.lt_succ_of_lt lt)).trans (Heap.get?_push_of_some _ q)
end
section
variable {X : Cx} {x : Expr} {pos p p2 q : Pos}
def tSortSet (K : PySem.W.Frag) (ta : TE) : TE := fun σ H Q => ta σ H fun x H1 => ∃ (l : Addr) (ns : List Int), x = .ref l ∧ SqL K H1 l (ns.map V.int) ∧ ns.length ≤ 4000 ∧
  ∀ (r : Addr) (zs : List Int), zs.Pairwise (· < ·) → (∀ k, k ∈ zs ↔ k ∈ ns) → H1 r = none → Q (.ref r) (upd H1 r (.lst (zs.map V.int)))
theorem pe_sortSet {a : Expr} {ta : TE} (hc : X.calm = true) (hg : Gl X "sorted") (hm : X.mg "sorted" = none) (hg2 : Gl X "set") (hm2 : X.mg "set" = none) (ha : PE X a ta) (na : starEach [a] X.env = (false, eval a X.env) :: starEach [] X.env) :
    PE X (.Call (.Name "sorted" p) [.Call (.Name "set" p2) [a] [] q] [] pos) (tSortSet X.K ta) := by
  refine ⟨fun pins s σ H Q I h => ?_⟩
  refine PyProof.Rows.Call_ (ld_blt I hg hm PyProof.Rows.boot_sorted (PyProof.Rows.callWith_builtin1 (PyProof.Rows.args_cons ?_ rfl) rfl rfl))
  refine PyProof.Rows.Call_ (ld_blt I hg2 hm2 PyProof.Rows.boot_set (PyProof.Rows.callWith_type1 (PyProof.Rows.args_cons (thn (ha.run pins s σ H _ I h) fun v s1 ⟨x, H1, I1, r1, q1⟩ => PyProof.Rows.args_nil ?_) na) na rfl))
  obtain ⟨l, ns, rfl, hq, hl, q1⟩ := q1
  cases r1
  obtain ⟨its, rv, pl, hz⟩ := I1.list hq
  refine set_of_list ns (I1.ok.hd hc) pl.isList (by simpa using ints_of_vals rv) (by unfold scanBound; omega) fun h' tk c hS hk => PyProof.Rows.args_nil ?_
  have I2 : Inv X pins σ H1 { s1 with heap := h', toks := tk } := I1.kept hk
  refine sorted_of_set (s := { s1 with heap := h', toks := tk }) hS (I1.ok.hd hc) fun s' r us c' zs kk g1 o1 hp hr hi hs hm' hle => ?_
  have hz' : (zs.map V.int).length ≤ sizeLine := by
    have e := (vals_of_ints hi).length
    rw [e]; exact hle
  have nr : H1 r = none := I2.hok.fresh hp
  have lay : ObjOk X.prog X.w (upd H1 r (.lst (zs.map V.int))) s'.heap r (.lst (zs.map V.int)) := ⟨hz', us, c', vals_of_ints hi, hr⟩
  have J : Inv X pins σ (upd H1 r (.lst (zs.map V.int))) ⟨s'.heap, s'.gens, s'.drawn, s'.toks, s1.os⟩ :=
    I2.call (s := { s1 with heap := h', toks := tk }) (ch := []) (Un.laid kk hp nr) (I2.hok.laid kk hp lay) (by rw [g1]; exact I2.bare) fun _ z => nomatch z
  have es : s' = ⟨s'.heap, s'.gens, s'.drawn, s'.toks, s1.os⟩ := by
    obtain ⟨_, _, _, _, _⟩ := s'
    obtain rfl := o1
    rfl
  rw [es]
  exact ⟨.ref r, _, J, rfl, q1 r zs hs (fun k => by rw [hm', decide_eq_true_eq]) nr⟩
/-- .. of a tuple -/
def tSortSetT (K : PySem.W.Frag) (ta : TE) : TE := fun σ H Q => ta σ H fun x H1 => ∃ (l : Addr) (ns : List Int), x = .ref l ∧ (SqL K H1 l (ns.map V.int) ∨ SqT K H1 l (ns.map V.int)) ∧ ns.length ≤ 4000 ∧
  ∀ (r : Addr) (zs : List Int), zs.Pairwise (· < ·) → (∀ k, k ∈ zs ↔ k ∈ ns) → H1 r = none → Q (.ref r) (upd H1 r (.lst (zs.map V.int)))
theorem pe_sortSetT {a : Expr} {ta : TE} (hc : X.calm = true) (hg : Gl X "sorted") (hm : X.mg "sorted" = none) (hg2 : Gl X "set") (hm2 : X.mg "set" = none) (ha : PE X a ta) (na : starEach [a] X.env = (false, eval a X.env) :: starEach [] X.env) :
    PE X (.Call (.Name "sorted" p) [.Call (.Name "set" p2) [a] [] q] [] pos) (tSortSetT X.K ta) := by
  refine ⟨fun pins s σ H Q I h => ?_⟩
  refine PyProof.Rows.Call_ (ld_blt I hg hm PyProof.Rows.boot_sorted (PyProof.Rows.callWith_builtin1 (PyProof.Rows.args_cons ?_ rfl) rfl rfl))
  refine PyProof.Rows.Call_ (ld_blt I hg2 hm2 PyProof.Rows.boot_set (PyProof.Rows.callWith_type1 (PyProof.Rows.args_cons (thn (ha.run pins s σ H _ I h) fun v s1 ⟨x, H1, I1, r1, q1⟩ => PyProof.Rows.args_nil ?_) na) na rfl))
  obtain ⟨l, ns, rfl, hq, hl, q1⟩ := q1
  cases r1
  have fin : ∀ (h' : Heap) (tk c : Nat), SetR X.w h' s1.heap.objs.size (fun j => decide (j ∈ ns)) c → (∀ b o, s1.heap.get? b = some o → h'.get? b = some o) →
      wpAny (model X.prog X.w) X.A (call (.builtin "sorted") [.ref s1.heap.objs.size]) (EP X pins σ Q) X.xe { s1 with heap := h', toks := tk } := by
    intro h' tk c hS hk
    have I2 : Inv X pins σ H1 { s1 with heap := h', toks := tk } := I1.kept hk
    refine sorted_of_set (s := { s1 with heap := h', toks := tk }) hS (I1.ok.hd hc) fun s' r us c' zs kk g1 o1 hp hr hi hs hm' hle => ?_
    have hz' : (zs.map V.int).length ≤ sizeLine := by
      have e := (vals_of_ints hi).length
      rw [e]; exact hle
    have nr : H1 r = none := I2.hok.fresh hp
    have lay : ObjOk X.prog X.w (upd H1 r (.lst (zs.map V.int))) s'.heap r (.lst (zs.map V.int)) := ⟨hz', us, c', vals_of_ints hi, hr⟩
    have J : Inv X pins σ (upd H1 r (.lst (zs.map V.int))) ⟨s'.heap, s'.gens, s'.drawn, s'.toks, s1.os⟩ :=
      I2.call (s := { s1 with heap := h', toks := tk }) (ch := []) (Un.laid kk hp nr) (I2.hok.laid kk hp lay) (by rw [g1]; exact I2.bare) fun _ z => nomatch z
    have es : s' = ⟨s'.heap, s'.gens, s'.drawn, s'.toks, s1.os⟩ := by
      obtain ⟨_, _, _, _, _⟩ := s'
      obtain rfl := o1
      rfl
    rw [es]
    exact ⟨.ref r, _, J, rfl, q1 r zs hs (fun k => by rw [hm', decide_eq_true_eq]) nr⟩
  rcases hq with hq | hq
  · obtain ⟨its, rv, pl, hz⟩ := I1.list hq
    exact set_of_list ns (I1.ok.hd hc) pl.isList (by simpa using ints_of_vals rv) (by unfold scanBound; omega) fun h' tk c hS hk => PyProof.Rows.args_nil (fin h' tk c hS hk)
  · obtain ⟨its, rv, pt, hz⟩ := I1.tuple hq
    exact call_set_tupI ns (I1.ok.hd hc) (show s1.heap.IsTuple l its.toArray from pt) (by simpa using ints_of_vals rv) (by unfold scanBound; omega) fun h' tk c hS _ hk => PyProof.Rows.args_nil (fin h' tk c hS hk)
end
end PG

namespace PG
open PySem L2

abbrev D := PyData
abbrev Fg := PySem.W.Frag
/-- cells that may still turn: what is always so of them -/
abbrev Rg := Addr → Option (HO → Prop)
/-- what is known: things that stay, cells that turn -/
structure Kn where
  G : Hp
  Z : Rg
/-- a class whose objects never change, but for a cache -/
structure ClsI where
  C : Addr
  fields : List Str
  cache : Option (Str × (List D → HO → Prop))
structure Wd where
  cls : Nat → Option ClsI
  tb : List Addr
/-- an object of class c, by its attributes -/
abbrev ob (c : Nat) (ds : List D) : D := .dict [(.int c, .list ds)]
mutual
inductive Dp (K : Fg) (W : Wd) (g : Kn) : V → D → Prop
  | non : Dp K W g .non .none
  | bl (b : Bool) : Dp K W g (.bl b) (.bool b)
  | int (i : Int) : Dp K W g (.int i) (.int i)
  | str (x : Str) : Dp K W g (.str x) (.str x)
  | lst {a : Addr} {xs : List V} {ds : List D} : SqL K g.G a xs → DpAll K W g xs ds → Dp K W g (.ref a) (.list ds)
  | tup {a : Addr} {xs : List V} {ds : List D} : SqT K g.G a xs → DpAll K W g xs ds → Dp K W g (.ref a) (.tuple ds)
  | obj {a dx : Addr} {c : Nat} {I : ClsI} {vs : List V} {ds : List D} : W.cls c = some I → I.cache = none → g.G a = some (.ins I.C dx (I.fields.zip vs)) → DpAll K W g vs ds → Dp K W g (.ref a) (ob c ds)
  | objC {a dx b : Addr} {c : Nat} {I : ClsI} {m : Str} {φ : List D → HO → Prop} {vs : List V} {ds : List D} : W.cls c = some I → I.cache = some (m, φ) → g.G a = some (.ins I.C dx (I.fields.zip vs ++ [(m, .ref b)])) → g.Z b = some (φ ds) → DpAll K W g vs ds → Dp K W g (.ref a) (ob c ds)
inductive DpAll (K : Fg) (W : Wd) (g : Kn) : List V → List D → Prop
  | nil : DpAll K W g [] []
  | cons {v : V} {vs : List V} {d : D} {ds : List D} : Dp K W g v d → DpAll K W g vs ds → DpAll K W g (v :: vs) (d :: ds)
end

/-! ### heaps that grow -/
theorem sqt_mono {K : Fg} {H H' : Hp} {a : Addr} {xs : List V} (e : Same H H') (h : SqT K H a xs) : SqT K H' a xs := by
  rcases h with (h | ⟨o, h⟩) | h
  · exact .inl (.inl (e _ _ h))
  · exact .inl (.inr ⟨o, e _ _ h⟩)
  · exact .inr h
/-- more is known -/
structure Ext (g g' : Kn) : Prop where
  s : Same g.G g'.G
  z : ∀ a φ, g.Z a = some φ → g'.Z a = some φ
theorem Ext.refl (g : Kn) : Ext g g := ⟨Same.refl _, fun _ _ h => h⟩
theorem Ext.trans {g g1 g2 : Kn} (a : Ext g g1) (b : Ext g1 g2) : Ext g g2 := ⟨a.s.trans b.s, fun x φ h => b.z x φ (a.z x φ h)⟩
mutual
theorem dp_mono {K : Fg} {W : Wd} {g g' : Kn} (e : Ext g g') : ∀ {v : V} {d : D}, Dp K W g v d → Dp K W g' v d
  | _, _, .non => .non
  | _, _, .bl b => .bl b
  | _, _, .int i => .int i
  | _, _, .str x => .str x
  | _, _, .lst h1 h2 => .lst (e.s.seq h1) (dpa_mono e h2)
  | _, _, .tup h1 h2 => .tup (sqt_mono e.s h1) (dpa_mono e h2)
  | _, _, .obj h1 h2 h3 h4 => .obj h1 h2 (e.s _ _ h3) (dpa_mono e h4)
  | _, _, .objC h1 h2 h3 h4 h5 => .objC h1 h2 (e.s _ _ h3) (e.z _ _ h4) (dpa_mono e h5)
theorem dpa_mono {K : Fg} {W : Wd} {g g' : Kn} (e : Ext g g') : ∀ {vs : List V} {ds : List D}, DpAll K W g vs ds → DpAll K W g' vs ds
  | _, _, .nil => .nil
  | _, _, .cons h1 h2 => .cons (dp_mono e h1) (dpa_mono e h2)
end
/-- what is known holds of the heap -/
structure Kno (g : Kn) (H : Hp) : Prop where
  sub : Same g.G H
  inv : ∀ a φ, g.Z a = some φ → g.G a = none ∧ ∃ o, H a = some o ∧ φ o
theorem Kno.seq {g : Kn} {H : Hp} (s : Kno g H) {K : Fg} {a : Addr} {xs : List V} (h : SqL K g.G a xs) : SqL K H a xs := s.sub.seq h
theorem Kno.sqt {g : Kn} {H : Hp} (s : Kno g H) {K : Fg} {a : Addr} {xs : List V} (h : SqT K g.G a xs) : SqT K H a xs := sqt_mono s.sub h
theorem Kno.freeG {g : Kn} {H : Hp} (s : Kno g H) {a : Addr} (h : H a = none) : g.G a = none := s.sub.free h
theorem Kno.freeZ {g : Kn} {H : Hp} (s : Kno g H) {a : Addr} (h : H a = none) : g.Z a = none := by
  cases e : g.Z a with
  | none => rfl
  | some φ => obtain ⟨_, o, q, _⟩ := s.inv a φ e; rw [h] at q; cases q
/-- from what is known g of the heap H to g' of H': nothing is lost but what turns, and what is newly known is new -/
structure Grow (g : Kn) (H : Hp) (g' : Kn) (H' : Hp) : Prop where
  h : ∀ a o, H a = some o → g.Z a = none → H' a = some o
  e : Ext g g'
  ok : Kno g' H'
  new : ∀ a o, g'.G a = some o → g.G a = none → H a = none
  newZ : ∀ a φ, g'.Z a = some φ → g.Z a = none → H a = none
theorem Grow.refl {g : Kn} {H : Hp} (s : Kno g H) : Grow g H g H := ⟨fun _ _ h _ => h, Ext.refl g, s, (fun a o h n => by rw [n] at h; cases h), (fun a o h n => by rw [n] at h; cases h)⟩
theorem Grow.free {g g' : Kn} {H H' : Hp} (a : Grow g H g' H') {x : Addr} (h : H' x = none) : H x = none := by
  cases e : H x with
  | none => rfl
  | some o =>
    cases z : g.Z x with
    | none => have := a.h x o e z; rw [h] at this; cases this
    | some φ => obtain ⟨_, o', q, _⟩ := a.ok.inv x φ (a.e.z x φ z); rw [h] at q; cases q
theorem Grow.trans {g g1 g2 : Kn} {H H1 H2 : Hp} (a : Grow g H g1 H1) (b : Grow g1 H1 g2 H2) : Grow g H g2 H2 :=
  ⟨fun x o h z => b.h x o (a.h x o h z) (by
      cases e : g1.Z x with
      | none => rfl
      | some φ => have := a.newZ x φ e z; rw [h] at this; cases this), a.e.trans b.e, b.ok, fun x o h n => by
    cases e : g1.G x with
    | some u => exact a.new x u e n
    | none => exact a.free (b.new x o h e), fun x φ h n => by
    cases e : g1.Z x with
    | some u => exact a.newZ x u e n
    | none => exact a.free (b.newZ x φ h e)⟩
/-- what is hidden stays hidden -/
theorem Grow.hid {g g' : Kn} {H H' : Hp} (a : Grow g H g' H') {x : Addr} {o : HO} (hG : g.G x = none) (hH : H x = some o) : g'.G x = none := by
  cases e : g'.G x with
  | none => rfl
  | some u => have := a.new x u e hG; rw [hH] at this; cases this
theorem Grow.hidZ {g g' : Kn} {H H' : Hp} (a : Grow g H g' H') {x : Addr} {o : HO} (hG : g.Z x = none) (hH : H x = some o) : g'.Z x = none := by
  cases e : g'.Z x with
  | none => rfl
  | some u => have := a.newZ x u e hG; rw [hH] at this; cases this

/-! ### what an expression comes to -/
inductive R where
  | val (d : D) | new (ds : List D) | args (ds : List D)
def R.d : R → D
  | .val d => d
  | .new ds => .list ds
  | .args ds => .tuple ds
def RRep (K : Fg) (W : Wd) (Hb : Hp) (g : Kn) (H : Hp) : R → V → Prop
  | .val d, v => Dp K W g v d
  | .new ds, v => ∃ a xs, v = .ref a ∧ H a = some (.lst xs) ∧ g.G a = none ∧ g.Z a = none ∧ Hb a = none ∧ DpAll K W g xs ds
  | .args _, _ => False
/-- one thing more is known -/
def Kn.put (g : Kn) (a : Addr) (o : HO) : Kn := ⟨upd g.G a o, g.Z⟩
theorem same_up {G : Hp} {a : Addr} {o : HO} (n : G a = none) : Same G (upd G a o) := fun b u q => by rw [upd_ne (ne_of_none q n)]; exact q
theorem ext_put {g : Kn} {a : Addr} {o : HO} (n : g.G a = none) : Ext g (g.put a o) := ⟨same_up n, fun _ _ h => h⟩
theorem put_same {g : Kn} {a : Addr} {o : HO} : (g.put a o).G a = some o := upd_same
theorem same_into {G H : Hp} {a : Addr} {o : HO} (s : Same G H) (h : H a = some o) : Same (upd G a o) H := fun b u q => by
  by_cases e : b = a
  · subst e; rw [upd_same] at q; cases q; exact h
  · rw [upd_ne e] at q; exact s b u q
/-- a thing that stands in the heap becomes known -/
theorem kno_put {g : Kn} {H : Hp} {a : Addr} {o : HO} (s : Kno g H) (h : H a = some o) (nz : g.Z a = none) : Kno (g.put a o) H := ⟨same_into s.sub h, fun b φ q => by
  obtain ⟨q1, q2⟩ := s.inv b φ q
  refine ⟨?_, q2⟩
  have nb : b ≠ a := fun e => by
    have q : g.Z b = some φ := q
    rw [e, nz] at q; cases q
  show upd g.G a o b = none
  rw [upd_ne nb]; exact q1⟩
theorem grow_put {g g' : Kn} {H H' : Hp} {a : Addr} {o : HO} (g1 : Grow g H g' H') (h : H' a = some o) (nG : g'.G a = none) (nz : g'.Z a = none) (nb : H a = none) : Grow g H (g'.put a o) H' :=
  ⟨g1.h, g1.e.trans (ext_put nG), kno_put g1.ok h nz, fun b u q n => by
    by_cases e : b = a
    · rw [e]; exact nb
    · have q : upd g'.G a o b = some u := q
      rw [upd_ne e] at q; exact g1.new b u q n, g1.newZ⟩
/-- a result as a value that is known -/
theorem RRep.frz {K : Fg} {W : Wd} {g g' : Kn} {H H' : Hp} {r : R} {v : V} (g1 : Grow g H g' H') (h : RRep K W H g' H' r v) : ∃ g2, Grow g H g2 H' ∧ Ext g' g2 ∧ Dp K W g2 v r.d := by
  cases r with
  | val d => exact ⟨g', g1, Ext.refl _, h⟩
  | args ds => exact h.elim
  | new ds =>
    obtain ⟨a, xs, rfl, hH, hG, hZ, hb, hd⟩ := h
    exact ⟨g'.put a (.lst xs), grow_put g1 hH hG hZ hb, ext_put hG, .lst (.of put_same) (dpa_mono (ext_put hG) hd)⟩

/-! ### slots -/
inductive Sl where
  | un | val (d : D) | own (ds : List D)
structure EnvR (K : Fg) (W : Wd) (ρ : List Sl) (g : Kn) (σ : L2.St) (H : Hp) : Prop where
  len : σ.length = ρ.length
  ok : Kno g H
  tb : ∀ P ∈ W.tb, g.Z P = some fun o => ∃ ps : Array Value, o = .tbl ps ∧ TriplesOk ps.toList
  val : ∀ (i : Nat) (d : D), ρ[i]? = some (Sl.val d) → ∃ v, σ[i]? = some (some v) ∧ Dp K W g v d
  own : ∀ (i : Nat) (ds : List D), ρ[i]? = some (Sl.own ds) → ∃ a xs, σ[i]? = some (some (.ref a)) ∧ H a = some (.lst xs) ∧ g.G a = none ∧ g.Z a = none ∧ DpAll K W g xs ds
  sep : ∀ (i j : Nat) (a : Addr) (ds es : List D), i ≠ j → ρ[i]? = some (Sl.own ds) → ρ[j]? = some (Sl.own es) → σ[i]? = some (some (.ref a)) → σ[j]? = some (some (.ref a)) → False
theorem EnvR.grow {K : Fg} {W : Wd} {ρ : List Sl} {g g' : Kn} {H H' : Hp} {σ : L2.St} (e : EnvR K W ρ g σ H) (g1 : Grow g H g' H') : EnvR K W ρ g' σ H' :=
  ⟨e.len, g1.ok, fun P h => g1.e.z _ _ (e.tb P h), fun i d h => let ⟨v, h1, h2⟩ := e.val i d h; ⟨v, h1, dp_mono g1.e h2⟩,
   fun i ds h => let ⟨a, xs, h1, h2, h3, h4, h5⟩ := e.own i ds h; ⟨a, xs, h1, g1.h _ _ h2 h4, g1.hid h3 h2, g1.hidZ h4 h2, dpa_mono g1.e h5⟩, e.sep⟩

/-! ### the small language -/
inductive BOp where | add | sub | mul | fdiv | mod | pow | shl | shr | band | bor | bxor
  deriving DecidableEq
inductive COp where | eq | ne | lt | le | gt | ge | isin | notin
  deriving DecidableEq
inductive Bf where | len | list | tuple | int | abs | sum | min2 | max2
  deriving DecidableEq
inductive Ty where | int | bool | str | list | tuple
  deriving DecidableEq
inductive Tg where | one (i : Nat) | many (is : List Nat)
inductive E where
  | var (i : Nat) | int (i : Int) | bl (b : Bool) | str (x : Str) | non | con (j : Nat)
  | bin (op : BOp) (a b : E) | neg (a : E)
  | cmp (op : COp) (a b : E)
  | chain (op op2 : COp) (a b c : E)
  | and_ (a b : E) | or_ (a b : E) | one (a : E) | not_ (a : E) | ite (c a b : E)
  | tup (es : E) | lst (es : E) | enil | econs (a r : E)
  | ix (a i : E) | sl (a lo hi : E) | nop | yes
  | call (j : Nat) (args : E)
  | blt (f : Bf) (args : E)
  | isi (a : E) (t : Ty)
  | mix (o x : E) | join (o x : E)
  | comp (own : List (Str × Nat)) (tg : Tg) (it c elt : E)
  | gen (all : Bool) (own : List (Str × Nat)) (tg : Tg) (it elt : E)
  | rng1 (a : E) | rng2 (a b : E)
  | sset (a : E) | srt (a : E) | lrg1 (a : E) | lrg2 (a b : E) | trg1 (a : E) | enm (a : E)
  | isnon (neg : Bool) (a : E)
  | lend (i : Nat) (e : E)

/-- which exceptions may leave: by their classes' names -/
abbrev Ex := Str → Prop
structure FEntry where
  name : Str
  ps : List Str
  sp : List D → Ex → (R → Prop) → Prop
structure Tb where
  N : List Str
  φ : List FEntry
  κ : List (Str × D)
  bn : List Str
  xs : List Str
  k : Nat

/-- what the check against the text looks at -/
structure Ts where
  N : List Str
  fn : List Str
  kn : List Str
  bn : List Str
  xs : List Str
def Tb.st (Θ : Tb) : Ts := ⟨Θ.N, Θ.φ.map (·.name), Θ.κ.map (·.1), Θ.bn, Θ.xs⟩

/-! ### what an expression of the small language means -/
def binW : BOp → D → D → (R → Prop) → Prop
  | .add, .int i, .int j, Φ => Φ (.val (.int (i + j)))
  | .add, .str a, .str b, Φ => a.length + b.length ≤ sizeLine ∧ Φ (.val (.str (a ++ b)))
  | .add, .list a, .list b, Φ => a.length + b.length ≤ sizeLine ∧ Φ (.new (a ++ b))
  | .sub, .int i, .int j, Φ => Φ (.val (.int (i - j)))
  | .mul, .int i, .int j, Φ => CMul i j ∧ Φ (.val (.int (i * j)))
  | .fdiv, .int i, .int j, Φ => CDiv i j ∧ Φ (.val (.int (i / j)))
  | .mod, .int i, .int j, Φ => 0 < j ∧ Φ (.val (.int (i % j)))
  | .pow, .int i, .int j, Φ => CPow i j ∧ Φ (.val (.int (i ^ j.toNat)))
  | .shl, .int i, .int j, Φ => CPow i j ∧ Φ (.val (.int (i * 2 ^ j.toNat)))
  | .shr, .int i, .int j, Φ => 0 ≤ j ∧ Φ (.val (.int (i / 2 ^ j.toNat)))
  | .band, .int i, .int j, Φ => Φ (.val (.int (Builtin.bitAnd i j)))
  | .bor, .int i, .int j, Φ => Φ (.val (.int (Builtin.bitOr i j)))
  | .bxor, .int i, .int j, Φ => Φ (.val (.int (Builtin.bitXor i j)))
  | _, _, _, _ => False
def cmpW : COp → D → D → (R → Prop) → Prop
  | .eq, x, y, Φ => SeqAt.shaped x = true ∧ SeqAt.shaped y = true ∧ Φ (.val (.bool (PyData.eqv x y)))
  | .ne, x, y, Φ => SeqAt.shaped x = true ∧ SeqAt.shaped y = true ∧ Φ (.val (.bool (!PyData.eqv x y)))
  | .lt, .int i, .int j, Φ => Φ (.val (.bool (decide (i < j))))
  | .le, .int i, .int j, Φ => Φ (.val (.bool (decide (i ≤ j))))
  | .gt, .int i, .int j, Φ => Φ (.val (.bool (decide (j < i))))
  | .ge, .int i, .int j, Φ => Φ (.val (.bool (decide (j ≤ i))))
  | .isin, x, .list ds, Φ => SeqAt.shaped x = true ∧ SeqAt.shaped (.list ds) = true ∧ Φ (.val (.bool (ds.any fun z => PyData.eqv z x)))
  | .notin, x, .list ds, Φ => SeqAt.shaped x = true ∧ SeqAt.shaped (.list ds) = true ∧ Φ (.val (.bool (!ds.any fun z => PyData.eqv z x)))
  | _, _, _, _ => False
/-- a comparison of whole numbers -/
def cmpI : COp → Int → Int → Option Bool
  | .lt, i, j => some (decide (i < j))
  | .le, i, j => some (decide (i ≤ j))
  | .gt, i, j => some (decide (j < i))
  | .ge, i, j => some (decide (j ≤ i))
  | _, _, _ => none
def ixW : D → D → (R → Prop) → Prop
  | .list xs, .int i, Φ => ∃ d, atI xs i = some d ∧ Φ (.val d)
  | .tuple xs, .int i, Φ => ∃ d, atI xs i = some d ∧ Φ (.val d)
  | .str z, .int i, Φ => z.length ≤ sizeLine ∧ ∃ c, atI z.cps.toList i = some c ∧ Φ (.val (.str ⟨#[c]⟩))
  | _, _, _ => False
def cutD (xs : List D) (lo hi : Option Int) : List D := (xs.drop (HT.sIx xs.length 0 lo)).take (HT.sIx xs.length xs.length hi - HT.sIx xs.length 0 lo)
def slW : D → Option Int → Option Int → (R → Prop) → Prop
  | .list xs, lo, hi, Φ => Φ (.new (cutD xs lo hi))
  | .tuple xs, lo, hi, Φ => ¬ (HT.sIx xs.length 0 lo = 0 ∧ HT.sIx xs.length xs.length hi = xs.length) ∧ Φ (.val (.tuple (cutD xs lo hi)))
  | _, _, _, _ => False
def partW : R → (Option Int → Prop) → Prop
  | .args [], Φ => Φ none
  | .val (.int i), Φ => Φ (some i)
  | _, _ => False
def lenW : List D → (R → Prop) → Prop
  | [.list xs], Φ => Φ (.val (.int xs.length))
  | [.tuple xs], Φ => Φ (.val (.int xs.length))
  | [.str z], Φ => z.length ≤ sizeLine ∧ Φ (.val (.int z.length))
  | _, _ => False
def listW : List D → (R → Prop) → Prop
  | [.list xs], Φ => Φ (.new xs)
  | [.tuple xs], Φ => Φ (.new xs)
  | _, _ => False
def tupleW : List D → (R → Prop) → Prop
  | [.list xs], Φ => Φ (.val (.tuple xs))
  | [.tuple xs], Φ => Φ (.val (.tuple xs))
  | _, _ => False
def intW : List D → (R → Prop) → Prop
  | [.int i], Φ => Φ (.val (.int i))
  | [.bool b], Φ => Φ (.val (.int (if b then 1 else 0)))
  | _, _ => False
def absW : List D → (R → Prop) → Prop
  | [.int i], Φ => Φ (.val (.int (if i < 0 then -i else i)))
  | _, _ => False
def min2W : List D → (R → Prop) → Prop
  | [.int i, .int j], Φ => Φ (.val (.int (if j < i then j else i)))
  | _, _ => False
def max2W : List D → (R → Prop) → Prop
  | [.int i, .int j], Φ => Φ (.val (.int (if j > i then j else i)))
  | _, _ => False
def bltW : Bf → List D → (R → Prop) → Prop
  | .len => lenW | .list => listW | .tuple => tupleW | .int => intW | .abs => absW | .sum => fun _ _ => False | .min2 => min2W | .max2 => max2W
def isTy : D → Ty → Option Bool
  | .none, _ => some false
  | .bool _, .bool => some true
  | .bool _, .int => some true
  | .bool _, _ => some false
  | .int _, .int => some true
  | .int _, _ => some false
  | .str _, .str => some true
  | .str _, _ => some false
  | .list _, .list => some true
  | .list _, _ => some false
  | .tuple _, .tuple => some true
  | .tuple _, _ => some false
  | .dict _, _ => none
def mixW : D → D → (R → Prop) → Prop
  | .list ds, d, Φ => SeqAt.shaped (.list ds) = true ∧ SeqAt.shaped d = true ∧ ∃ j z, ds[j]? = some z ∧ PyData.eqv z d = true ∧ (∀ (m : Nat) (z' : PyData), m < j → ds[m]? = some z' → PyData.eqv z' d = false) ∧ Φ (.val (.int (j : Nat)))
  | _, _, _ => False
def strsOf : List D → Option (List Str)
  | [] => some []
  | .str x :: r => (strsOf r).map (x :: ·)
  | _ => none
def joinW : D → D → (R → Prop) → Prop
  | .str a, .list ds, Φ => ∃ ys, strsOf ds = some ys ∧ (ys.map (·.length)).sum + ys.length * a.length ≤ 16777216 ∧ Φ (.val (.str (Txt.join a ys)))
  | .str a, .tuple ds, Φ => ∃ ys, strsOf ds = some ys ∧ (ys.map (·.length)).sum + ys.length * a.length ≤ 16777216 ∧ Φ (.val (.str (Txt.join a ys)))
  | _, _, _ => False
/-- what a loop goes over -/
def itemsOf : R → Option (List D)
  | .val (.list xs) => some xs
  | .val (.tuple xs) => some xs
  | .new xs => some xs
  | _ => none
def itemsW (r : R) (Φ : List D → Prop) : Prop := ∃ xs, itemsOf r = some xs ∧ Φ xs
def rngL (lo : Int) (n : Nat) : List D := (List.range n).map fun (i : Nat) => .int (lo + (i : Int))
def rng1W : D → (R → Prop) → Prop
  | .int j, Φ => (-(2 ^ 62) ≤ j ∧ j < 2 ^ 62) ∧ Φ (.new (rngL 0 j.toNat))
  | _, _ => False
def rng2W : D → D → (R → Prop) → Prop
  | .int i, .int j, Φ => (-(2 ^ 62) ≤ i ∧ i < 2 ^ 62 ∧ -(2 ^ 62) ≤ j ∧ j < 2 ^ 62) ∧ Φ (.new (rngL i (j - i).toNat))
  | _, _, _ => False
def intsOf : List D → Option (List Int)
  | [] => some []
  | .int i :: r => (intsOf r).map (i :: ·)
  | _ => none
/-- the items of a list or a tuple -/
def seqOf : D → Option (List D)
  | .list xs => some xs
  | .tuple xs => some xs
  | _ => none
/-- sorted(set(..)) of whole numbers -/
def ssetW (d : D) (Φ : R → Prop) : Prop := ∃ ds ns, seqOf d = some ds ∧ intsOf ds = some ns ∧ ns.length ≤ 4000 ∧ ∀ zs : List Int, zs.Pairwise (· < ·) → (∀ k, k ∈ zs ↔ k ∈ ns) → Φ (.new (zs.map .int))
/-- sorted(..) of whole numbers -/
def srtW : D → (R → Prop) → Prop
  | .list ds, Φ => ∃ ns, intsOf ds = some ns ∧ ∀ zs : List Int, zs.Perm ns → zs.Pairwise (· ≤ ·) → Φ (.new (zs.map .int))
  | _, _ => False
def lrg1W : D → (R → Prop) → Prop
  | .int j, Φ => (0 ≤ j ∧ j ≤ 16777216) ∧ Φ (.new (rngL 0 j.toNat))
  | _, _ => False
def lrg2W : D → D → (R → Prop) → Prop
  | .int i, .int j, Φ => (0 ≤ i ∧ i ≤ 16777216 ∧ 0 ≤ j ∧ j ≤ 16777216) ∧ Φ (.new (rngL i (j - i).toNat))
  | _, _, _ => False
def trg1W : D → (R → Prop) → Prop
  | .int j, Φ => (0 ≤ j ∧ j ≤ 16777216) ∧ Φ (.val (.tuple (rngL 0 j.toNat)))
  | _, _ => False
def enmL (xs : List D) : List D := (List.range xs.length).map fun i => .tuple [.int (i : Nat), xs.getD i .none]
def enmW : D → (R → Prop) → Prop
  | .list xs, Φ => Φ (.new (enmL xs))
  | _, _ => False
def isnonW (neg : Bool) : D → (R → Prop) → Prop
  | .none, Φ => Φ (.val (.bool (!neg)))
  | .dict _, _ => False
  | _, Φ => Φ (.val (.bool neg))
def setMany : List Sl → List Nat → List D → Option (List Sl)
  | ρ, [], [] => some ρ
  | ρ, i :: is, d :: ds => setMany (ρ.set i (.val d)) is ds
  | _, _, _ => none
def bindT : Tg → List Sl → D → Option (List Sl)
  | .one i, ρ, d => some (ρ.set i (.val d))
  | .many is, ρ, .tuple ds => setMany ρ is ds
  | _, _, _ => none
def wipeR (ρ : List Sl) : List Nat → List Sl
  | [] => ρ
  | v :: vs => (wipeR ρ vs).set v .un
def bindW (tg : Tg) (ρ : List Sl) (x : D) (k : List Sl → Prop) : Prop := ∃ ρ', bindT tg ρ x = some ρ' ∧ k ρ'
def boolW (a b : Prop) : R → Prop
  | .val (.bool true) => a
  | .val (.bool false) => b
  | _ => False
def onB (Φ : R → Prop) : R → Prop
  | .val (.bool b) => Φ (.val (.bool b))
  | _ => False
def notW (Φ : R → Prop) : R → Prop
  | .val (.bool b) => Φ (.val (.bool (!b)))
  | _ => False
def chainW (op op2 : COp) (x y : D) (k : (R → Prop) → Prop) (Φ : R → Prop) : Prop := ∃ i j b, x = .int i ∧ y = .int j ∧ cmpI op i j = some b ∧
  (b = true → k fun z => ∃ l c, z.d = .int l ∧ cmpI op2 j l = some c ∧ Φ (.val (.bool c))) ∧ (b = false → Φ (.val (.bool false)))
def compW (b : D → (List Sl → Prop) → Prop) (c : List Sl → (R → Prop) → Prop) (f : List Sl → (R → Prop) → Prop) : List D → List D → (R → Prop) → Prop
  | [], acc, Φ => Φ (.new acc)
  | x :: r, acc, Φ => b x fun ρ => c ρ (boolW (f ρ fun y => acc.length < sizeLine ∧ compW b c f r (acc ++ [y.d]) Φ) (compW b c f r acc Φ))
def genW (all : Bool) (b : D → (List Sl → Prop) → Prop) (f : List Sl → (R → Prop) → Prop) : List D → (R → Prop) → Prop
  | [], Φ => Φ (.val (.bool all))
  | x :: r, Φ => b x fun ρ => f ρ fun y => ∃ c, y = .val (.bool c) ∧ if c = all then genW all b f r Φ else Φ (.val (.bool c))
def scalar : R → Bool
  | .val .none | .val (.bool _) | .val (.int _) | .val (.str _) => true
  | _ => false
def noEx : Ex := fun _ => False

def wpE (Θ : Tb) : E → Ex → List Sl → (R → Prop) → Prop
  | .var i, _, ρ, Φ => match ρ[i]? with
    | some (.val d) => Φ (.val d)
    | _ => False
  | .int i, _, _, Φ => Φ (.val (.int i))
  | .bl b, _, _, Φ => Φ (.val (.bool b))
  | .str x, _, _, Φ => Φ (.val (.str x))
  | .non, _, _, Φ => Φ (.val .none)
  | .con j, _, _, Φ => match Θ.κ[j]? with
    | some p => Φ (.val p.2)
    | none => False
  | .bin op a b, Ξ, ρ, Φ => wpE Θ a Ξ ρ fun x => wpE Θ b Ξ ρ fun y => binW op x.d y.d Φ
  | .neg a, Ξ, ρ, Φ => wpE Θ a Ξ ρ fun x => match x.d with
    | .int i => Φ (.val (.int (-i)))
    | _ => False
  | .cmp op a b, Ξ, ρ, Φ => wpE Θ a Ξ ρ fun x => wpE Θ b Ξ ρ fun y => cmpW op x.d y.d Φ
  | .chain op op2 a b c, Ξ, ρ, Φ => wpE Θ a Ξ ρ fun x => wpE Θ b Ξ ρ fun y => chainW op op2 x.d y.d (fun k => wpE Θ c Ξ ρ k) Φ
  | .and_ a b, Ξ, ρ, Φ => wpE Θ a Ξ ρ (boolW (wpE Θ b Ξ ρ (onB Φ)) (Φ (.val (.bool false))))
  | .or_ a b, Ξ, ρ, Φ => wpE Θ a Ξ ρ (boolW (Φ (.val (.bool true))) (wpE Θ b Ξ ρ (onB Φ)))
  | .one a, Ξ, ρ, Φ => wpE Θ a Ξ ρ Φ
  | .not_ a, Ξ, ρ, Φ => wpE Θ a Ξ ρ (notW Φ)
  | .ite c a b, Ξ, ρ, Φ => wpE Θ c Ξ ρ (boolW (wpE Θ a Ξ ρ Φ) (wpE Θ b Ξ ρ Φ))
  | .tup es, Ξ, ρ, Φ => wpE Θ es Ξ ρ fun x => match x with
    | .args ds => ds.length ≤ sizeLine ∧ Φ (.val (.tuple ds))
    | _ => False
  | .lst es, Ξ, ρ, Φ => wpE Θ es Ξ ρ fun x => match x with
    | .args ds => ds.length ≤ sizeLine ∧ Φ (.new ds)
    | _ => False
  | .enil, _, _, Φ => Φ (.args [])
  | .econs a r, Ξ, ρ, Φ => wpE Θ a Ξ ρ fun x => wpE Θ r Ξ ρ fun y => match y with
    | .args ds => Φ (.args (x.d :: ds))
    | _ => False
  | .ix a i, Ξ, ρ, Φ => wpE Θ a Ξ ρ fun x => wpE Θ i Ξ ρ fun y => ixW x.d y.d Φ
  | .sl a lo hi, Ξ, ρ, Φ => wpE Θ a Ξ ρ fun x => wpE Θ lo Ξ ρ fun l => partW l fun l => wpE Θ hi Ξ ρ fun h => partW h fun h => slW x.d l h Φ
  | .nop, _, _, Φ => Φ (.args [])
  | .yes, _, _, Φ => Φ (.val (.bool true))
  | .call j es, Ξ, ρ, Φ => wpE Θ es Ξ ρ fun x => match x, Θ.φ[j]? with
    | .args ds, some fe => fe.sp ds Ξ Φ
    | _, _ => False
  | .blt f es, Ξ, ρ, Φ => wpE Θ es Ξ ρ fun x => match x with
    | .args ds => bltW f ds Φ
    | _ => False
  | .isi a t, Ξ, ρ, Φ => wpE Θ a Ξ ρ fun x => match isTy x.d t with
    | some b => Φ (.val (.bool b))
    | none => False
  | .mix o x, Ξ, ρ, Φ => wpE Θ o Ξ ρ fun a => match a.d with
    | .list ds => wpE Θ x Ξ ρ fun b => mixW (.list ds) b.d Φ
    | _ => False
  | .join o x, Ξ, ρ, Φ => wpE Θ o Ξ ρ fun a => match a.d with
    | .str z => wpE Θ x Ξ ρ fun b => joinW (.str z) b.d Φ
    | _ => False
  | .comp own tg it c elt, Ξ, ρ, Φ => wpE Θ it Ξ ρ fun r => itemsW r fun xs =>
      compW (bindW tg (wipeR ρ (own.map (·.2)))) (fun ρ' k => wpE Θ c noEx ρ' k) (fun ρ' k => wpE Θ elt noEx ρ' k) xs [] Φ
  | .gen all own tg it elt, Ξ, ρ, Φ => wpE Θ it Ξ ρ fun r => itemsW r fun xs =>
      genW all (bindW tg (wipeR ρ (own.map (·.2)))) (fun ρ' k => wpE Θ elt noEx ρ' k) xs Φ
  | .rng1 a, Ξ, ρ, Φ => wpE Θ a Ξ ρ fun x => rng1W x.d Φ
  | .rng2 a b, Ξ, ρ, Φ => wpE Θ a Ξ ρ fun x => wpE Θ b Ξ ρ fun y => rng2W x.d y.d Φ
  | .sset a, Ξ, ρ, Φ => wpE Θ a Ξ ρ fun x => ssetW x.d Φ
  | .srt a, Ξ, ρ, Φ => wpE Θ a Ξ ρ fun x => srtW x.d Φ
  | .lrg1 a, Ξ, ρ, Φ => wpE Θ a Ξ ρ fun x => lrg1W x.d Φ
  | .lrg2 a b, Ξ, ρ, Φ => wpE Θ a Ξ ρ fun x => wpE Θ b Ξ ρ fun y => lrg2W x.d y.d Φ
  | .trg1 a, Ξ, ρ, Φ => wpE Θ a Ξ ρ fun x => trg1W x.d Φ
  | .enm a, Ξ, ρ, Φ => wpE Θ a Ξ ρ fun x => enmW x.d Φ
  | .isnon n a, Ξ, ρ, Φ => wpE Θ a Ξ ρ fun x => isnonW n x.d Φ
  | .lend i e, Ξ, ρ, Φ => match ρ[i]? with
    | some (.own ds) => wpE Θ e Ξ (ρ.set i (.val (.list ds))) fun r => scalar r = true ∧ Φ r
    | _ => False
end PG

namespace PG
open PySem L2

/-- what may follow -/
def Out (K : Fg) (W : Wd) (g : Kn) (H : Hp) (Φ : R → Prop) (Q : VK) : Prop := ∀ r v g' H', Φ r → Grow g H g' H' → RRep K W H g' H' r v → Q v H'
/-- what may follow an exception -/
def OutX (mg : Str → Option Value) (g : Kn) (H : Hp) (Ξ : Ex) (E : XK) : Prop := ∀ n C g' H', Ξ n → mg n = some (.ref C) → Grow g H g' H' → E (.ref C) none H'
section
variable {K : Fg} {W : Wd} {g g' : Kn} {H H' : Hp} {Φ : R → Prop} {Q : VK}
theorem OutX.step {mg : Str → Option Value} {Ξ : Ex} {E : XK} {g1 : Kn} {H1 : Hp} (o : OutX mg g H Ξ E) (gr : Grow g H g1 H1) : OutX mg g1 H1 Ξ E := fun n C g' H' h m q => o n C g' H' h m (gr.trans q)
theorem OutX.none {mg : Str → Option Value} {E : XK} : OutX mg g H noEx E := fun _ _ _ _ h => h.elim
/-- a value that needs no object -/
theorem Out.sc {d : D} {v : V} (o : Out K W g H Φ Q) (s : Kno g H) (h : Φ (.val d)) (hv : Dp K W g v d) : Q v H := o _ _ g H h (.refl s) hv
/-- a new thing is laid, not known -/
theorem grow_hid {p : Addr} {o : HO} (s : Kno g H) (n : H p = none) : Grow g H g (upd H p o) :=
  ⟨fun a u q _ => by rw [upd_ne (ne_of_none q n)]; exact q, Ext.refl g, ⟨s.sub.trans (same_up n), fun a φ q => by
    obtain ⟨q1, u, q2, q3⟩ := s.inv a φ q
    exact ⟨q1, u, by rw [upd_ne (ne_of_none q2 n)]; exact q2, q3⟩⟩, (fun b u q m => by rw [m] at q; cases q), (fun b u q m => by rw [m] at q; cases q)⟩
/-- .. known -/
theorem grow_tup {p : Addr} {o : HO} (s : Kno g H) (n : H p = none) : Grow g H (g.put p o) (upd H p o) :=
  grow_put (grow_hid s n) upd_same (s.freeG n) (s.freeZ n) n
/-- a new list -/
theorem Out.nl {ds : List D} {xs : List V} (o : Out K W g H Φ Q) (s : Kno g H) (h : Φ (.new ds)) (hx : DpAll K W g xs ds) : ∀ p, H p = none → Q (.ref p) (upd H p (.lst xs)) := fun p n =>
  o _ _ g _ h (grow_hid s n) ⟨p, xs, rfl, upd_same, s.freeG n, s.freeZ n, n, hx⟩
/-- a new tuple -/
theorem Out.nt {ds : List D} {xs : List V} (o : Out K W g H Φ Q) (s : Kno g H) (h : Φ (.val (.tuple ds))) (hx : DpAll K W g xs ds) : ∀ p, H p = none → Q (.ref p) (upd H p (.tup xs)) := fun p n =>
  o _ _ _ _ h (grow_tup s n) (.tup (.inl (.inl put_same)) (dpa_mono (ext_put (s.freeG n)) hx))
theorem rrep_free {Hb H1 : Hp} {r : R} {v : V} (f : ∀ a, H1 a = none → Hb a = none) (h : RRep K W H1 g' H' r v) : RRep K W Hb g' H' r v := by
  cases r with
  | val d => exact h
  | args ds => exact h
  | new ds =>
    obtain ⟨a, xs, e, h1, h2, h3, h4, h5⟩ := h
    exact ⟨a, xs, e, h1, h2, h3, f a h4, h5⟩
theorem Out.step {g1 : Kn} {H1 : Hp} (o : Out K W g H Φ Q) (gr : Grow g H g1 H1) : Out K W g1 H1 Φ Q := fun r v g' H' hr gr' rr => o r v g' H' hr (gr.trans gr') (rrep_free (fun _ => gr.free) rr)
end
theorem dpa_len {K : Fg} {W : Wd} {g : Kn} : ∀ {vs : List V} {ds : List D}, DpAll K W g vs ds → vs.length = ds.length
  | _, _, .nil => rfl
  | _, _, .cons _ h => by rw [List.length_cons, List.length_cons, dpa_len h]
theorem dpa_app {K : Fg} {W : Wd} {g : Kn} : ∀ {vs ws : List V} {ds es : List D}, DpAll K W g vs ds → DpAll K W g ws es → DpAll K W g (vs ++ ws) (ds ++ es)
  | _, _, _, _, .nil, h => h
  | _, _, _, _, .cons a b, h => .cons a (dpa_app b h)
theorem dpa_drop {K : Fg} {W : Wd} {g : Kn} : ∀ (n : Nat) {vs : List V} {ds : List D}, DpAll K W g vs ds → DpAll K W g (vs.drop n) (ds.drop n)
  | 0, _, _, h => h
  | _ + 1, _, _, .nil => .nil
  | n + 1, _, _, .cons _ h => dpa_drop n h
theorem dpa_take {K : Fg} {W : Wd} {g : Kn} : ∀ (n : Nat) {vs : List V} {ds : List D}, DpAll K W g vs ds → DpAll K W g (vs.take n) (ds.take n)
  | 0, _, _, _ => .nil
  | _ + 1, _, _, .nil => .nil
  | n + 1, _, _, .cons a h => .cons a (dpa_take n h)
theorem dpa_get {K : Fg} {W : Wd} {g : Kn} : ∀ {vs : List V} {ds : List D} {n : Nat} {d : D}, DpAll K W g vs ds → ds[n]? = some d → ∃ v, vs[n]? = some v ∧ Dp K W g v d
  | _, _, n, _, .nil, h => by simp at h
  | _, _, 0, _, .cons a _, h => by simp at h; subst h; exact ⟨_, rfl, a⟩
  | _, _, n + 1, d, .cons _ b, h => by
    obtain ⟨v, h1, h2⟩ := dpa_get (n := n) (d := d) b (by simpa using h)
    exact ⟨v, by simpa using h1, h2⟩
theorem dpa_atI {K : Fg} {W : Wd} {g : Kn} {vs : List V} {ds : List D} {i : Int} {d : D} (h : DpAll K W g vs ds) (e : atI ds i = some d) : ∃ v, atI vs i = some v ∧ Dp K W g v d := by
  unfold atI at e ⊢
  rw [← dpa_len h] at e
  cases q : ixN vs.length i with
  | none => rw [q] at e; cases e
  | some j => rw [q] at e; exact dpa_get (n := j) h e
theorem strsOf_cons {d : D} {ds : List D} {ys : List Str} (h : strsOf (d :: ds) = some ys) : ∃ x zs, d = .str x ∧ strsOf ds = some zs ∧ ys = x :: zs := by
  unfold strsOf at h
  split at h
  · rename_i e; cases e
  · rename_i x r e
    cases e
    cases q : strsOf ds with
    | none => rw [q] at h; cases h
    | some zs => rw [q] at h; cases h; exact ⟨x, zs, rfl, rfl, rfl⟩
  · cases h
theorem dpa_strs {K : Fg} {W : Wd} {g : Kn} : ∀ {ds : List D} {vs : List V} {ys : List Str}, DpAll K W g vs ds → strsOf ds = some ys → vs = ys.map V.str
  | [], _, _, .nil, h => by simp only [strsOf, Option.some.injEq] at h; subst h; rfl
  | d :: r, _, ys, .cons a b, h => by
    obtain ⟨x, zs, rfl, h2, rfl⟩ := strsOf_cons h
    cases a
    rw [List.map_cons, dpa_strs b h2]
/-- what holds no object, over the hand layer's own relation -/
theorem dp_up {K : Fg} {W : Wd} {g : Kn} {H : Hp} (s : Kno g H) : ∀ {v : V} {d : D}, Dp K W g v d → d.canLay0 = true → L2.Dp K H v d
  | _, _, .non, _ => .non
  | _, _, .bl b, _ => .bl b
  | _, _, .int i, _ => .int i
  | _, _, .str x, _ => .str x
  | _, _, .lst h1 h2, c => .lst (s.seq h1) (dpa_up s h2 (by simpa only [PyData.canLay0] using c))
  | _, _, .tup h1 h2, c => .tup (s.sqt h1) (dpa_up s h2 (by simpa only [PyData.canLay0] using c))
  | _, _, .obj _ _ _ _, c => by simp [PyData.canLay0] at c
  | _, _, .objC _ _ _ _ _, c => by simp [PyData.canLay0] at c
where dpa_up {K : Fg} {W : Wd} {g : Kn} {H : Hp} (s : Kno g H) : ∀ {vs : List V} {ds : List D}, DpAll K W g vs ds → PyData.canLayAll0 ds = true → L2.DpAll K H vs ds
  | _, _, .nil, _ => .nil
  | _, _, .cons h1 h2, c => by
    simp only [PyData.canLayAll0, Bool.and_eq_true] at c
    exact .cons (dp_up s h1 c.1) (dpa_up s h2 c.2)
theorem shaped_lay {d : D} (h : SeqAt.shaped d = true) : d.canLay0 = true := by
  have h : (PyData.canLay0 d && decide (PyData.depth d ≤ 64)) = true := h
  rw [Bool.and_eq_true] at h
  exact h.1

/-! ### two-place operations -/
def bop : BOp → Operator
  | .add => .Add | .sub => .Sub | .mul => .Mult | .fdiv => .FloorDiv | .mod => .Mod | .pow => .Pow | .shl => .LShift | .shr => .RShift | .band => .BitAnd | .bor => .BitOr | .bxor => .BitXor
def cop : COp → CmpOp
  | .eq => .Eq | .ne => .NotEq | .lt => .Lt | .le => .LtE | .gt => .Gt | .ge => .GtE | .isin => .In | .notin => .NotIn
/-- list + list, any two -/
def rCatL (K : Fg) : R2 := fun x y H Q => ∃ l b xs zs, x = .ref l ∧ y = .ref b ∧ SqL K H l xs ∧ SqL K H b zs ∧ xs.length + zs.length ≤ sizeLine ∧ ∀ p, H p = none → Q (.ref p) (upd H p (.lst (xs ++ zs)))
theorem op_catL {X : Cx} : OpR X (binaryOp .Add) (rCatL X.K) := by
  intro pins s σ H x y v u Q I rx ry h
  obtain ⟨l, b, xs, zs, rfl, rfl, hH, hB, hz, q⟩ := h
  cases rx
  cases ry
  obtain ⟨its, r, p, _⟩ := I.list hH
  obtain ⟨its2, r2, p2, _⟩ := I.list hB
  obtain ⟨⟨cls, dd, data, sl⟩, ho, hc, n, hd⟩ := p.isList
  obtain ⟨⟨cls2, dd2, data2, sl2⟩, ho2, hc2, n2, hd2⟩ := p2.isList
  simp only at hc hd hc2 hd2
  subst hc hd hc2 hd2
  have e : its.toArray ++ its2.toArray = (its ++ its2).toArray := by simp
  have h1 := r.length
  have h2 := r2.length
  refine concat_meets ⟨_, ho, rfl⟩ ⟨_, ho2, rfl⟩ noFill_list_add PySem.seq_list_add PySem.F.slot_list_add PySem.F.entry_list_add (PySem.F.args_list_add_2 _ _) (PyProof.Rows.list_addW l b its.toArray its2.toArray n n2 dd dd2 sl sl2 (by simp; omega)) ⟨ho, ho2, ?_⟩
  rw [e]
  exact ⟨.ref _, _, I.lnew (t' := s.toks) (r.append r2) (by rw [List.length_append]; omega), rfl, q _ I.fresh⟩

/-- an operation on values does what W says of data -/
def OpOk (K : Fg) (W : Wd) (r : R2) (w : D → D → (R → Prop) → Prop) : Prop := ∀ x y g H a b Φ Q, Kno g H → Dp K W g x a → Dp K W g y b → w a b Φ → Out K W g H Φ Q → r x y H Q
theorem bin_ok {X : Cx} {W : Wd} (op : BOp) : ∃ r, OpR X (binaryOp (bop op)) r ∧ OpOk X.K W r (binW op) := by
  cases op with
  | add =>
    refine ⟨_, op_add.or (op_add_str.or op_catL), fun x y g H a b Φ Q s hx hy h o => ?_⟩
    cases hx <;> cases hy <;> try exact h.elim
    · exact .inl ⟨_, _, rfl, rfl, o.sc s h (.int _)⟩
    · exact .inr (.inl ⟨_, _, rfl, rfl, h.1, o.sc s h.2 (.str _)⟩)
    · rename_i h1 h2 _ _ _ h3 h4
      exact .inr (.inr ⟨_, _, _, _, rfl, rfl, s.seq h1, s.seq h3, by rw [dpa_len h2, dpa_len h4]; exact h.1, o.nl s h.2 (dpa_app h2 h4)⟩)
  | sub => exact ⟨_, op_sub, fun x y g H a b Φ Q s hx hy h o => by cases hx <;> cases hy <;> first | exact h.elim | exact ⟨_, _, rfl, rfl, o.sc s h (.int _)⟩⟩
  | mul => exact ⟨_, op_mul, fun x y g H a b Φ Q s hx hy h o => by cases hx <;> cases hy <;> first | exact h.elim | exact ⟨_, _, rfl, rfl, h.1, o.sc s h.2 (.int _)⟩⟩
  | fdiv => exact ⟨_, op_fdiv, fun x y g H a b Φ Q s hx hy h o => by cases hx <;> cases hy <;> first | exact h.elim | exact ⟨_, _, rfl, rfl, h.1, o.sc s h.2 (.int _)⟩⟩
  | mod => exact ⟨_, op_mod, fun x y g H a b Φ Q s hx hy h o => by cases hx <;> cases hy <;> first | exact h.elim | exact ⟨_, _, rfl, rfl, h.1, o.sc s h.2 (.int _)⟩⟩
  | pow => exact ⟨_, op_pow, fun x y g H a b Φ Q s hx hy h o => by cases hx <;> cases hy <;> first | exact h.elim | exact ⟨_, _, rfl, rfl, h.1, o.sc s h.2 (.int _)⟩⟩
  | shl => exact ⟨_, op_shl, fun x y g H a b Φ Q s hx hy h o => by cases hx <;> cases hy <;> first | exact h.elim | exact ⟨_, _, rfl, rfl, h.1, o.sc s h.2 (.int _)⟩⟩
  | shr => exact ⟨_, op_shr, fun x y g H a b Φ Q s hx hy h o => by cases hx <;> cases hy <;> first | exact h.elim | exact ⟨_, _, rfl, rfl, h.1, o.sc s h.2 (.int _)⟩⟩
  | band => exact ⟨_, op_and, fun x y g H a b Φ Q s hx hy h o => by cases hx <;> cases hy <;> first | exact h.elim | exact ⟨_, _, rfl, rfl, o.sc s h (.int _)⟩⟩
  | bor => exact ⟨_, op_or, fun x y g H a b Φ Q s hx hy h o => by cases hx <;> cases hy <;> first | exact h.elim | exact ⟨_, _, rfl, rfl, o.sc s h (.int _)⟩⟩
  | bxor => exact ⟨_, op_xor, fun x y g H a b Φ Q s hx hy h o => by cases hx <;> cases hy <;> first | exact h.elim | exact ⟨_, _, rfl, rfl, o.sc s h (.int _)⟩⟩
theorem cmp_ok {X : Cx} {W : Wd} (hu : X.A.units + 65 < cLine) (op : COp) : ∃ r, OpR X (compareOp (cop op)) r ∧ OpOk X.K W r (cmpW op) := by
  cases op with
  | eq => exact ⟨_, op_eqD (by omega), fun x y g H a b Φ Q s hx hy h o => ⟨a, b, dp_up s hx (shaped_lay h.1), dp_up s hy (shaped_lay h.2.1), h.1, h.2.1, o.sc s h.2.2 (.bl _)⟩⟩
  | ne => exact ⟨_, op_neD (by omega), fun x y g H a b Φ Q s hx hy h o => ⟨a, b, dp_up s hx (shaped_lay h.1), dp_up s hy (shaped_lay h.2.1), h.1, h.2.1, o.sc s h.2.2 (.bl _)⟩⟩
  | lt => exact ⟨_, op_lt, fun x y g H a b Φ Q s hx hy h o => by cases hx <;> cases hy <;> first | exact h.elim | exact ⟨_, _, rfl, rfl, o.sc s h (.bl _)⟩⟩
  | le => exact ⟨_, op_le, fun x y g H a b Φ Q s hx hy h o => by cases hx <;> cases hy <;> first | exact h.elim | exact ⟨_, _, rfl, rfl, o.sc s h (.bl _)⟩⟩
  | gt => exact ⟨_, op_gt, fun x y g H a b Φ Q s hx hy h o => by cases hx <;> cases hy <;> first | exact h.elim | exact ⟨_, _, rfl, rfl, o.sc s h (.bl _)⟩⟩
  | ge => exact ⟨_, op_ge, fun x y g H a b Φ Q s hx hy h o => by cases hx <;> cases hy <;> first | exact h.elim | exact ⟨_, _, rfl, rfl, o.sc s h (.bl _)⟩⟩
  | isin => exact ⟨_, op_inD hu, fun x y g H a b Φ Q s hx hy h o => by
      cases hy <;> first | (cases a <;> exact h.elim) | (rename_i h1 h2; exact ⟨a, _, dp_up s hx (shaped_lay h.1), dp_up s (.lst h1 h2) (shaped_lay h.2.1), h.1, h.2.1, o.sc s h.2.2 (.bl _)⟩)⟩
  | notin => exact ⟨_, op_notInD hu, fun x y g H a b Φ Q s hx hy h o => by
      cases hy <;> first | (cases a <;> exact h.elim) | (rename_i h1 h2; exact ⟨a, _, dp_up s hx (shaped_lay h.1), dp_up s (.lst h1 h2) (shaped_lay h.2.1), h.1, h.2.1, o.sc s h.2.2 (.bl _)⟩)⟩
theorem ix_ok {X : Cx} {W : Wd} : ∃ r, IxR X r ∧ OpOk X.K W r ixW := by
  refine ⟨_, ix_list.or (ix_tup.or ix_str), fun x y g H a b Φ Q s hx hy h o => ?_⟩
  cases hx <;> cases hy <;> try exact h.elim
  · obtain ⟨hz, c, hc, h⟩ := h
    exact .inr (.inr ⟨_, _, _, rfl, rfl, hz, hc, o.sc s h (.str _)⟩)
  · rename_i h1 h2 _
    obtain ⟨d, hd, h⟩ := h
    obtain ⟨v, e, hv⟩ := dpa_atI h2 hd
    exact .inl ⟨_, _, _, _, rfl, rfl, s.seq h1, e, o.sc s h hv⟩
  · rename_i h1 h2 _
    obtain ⟨d, hd, h⟩ := h
    obtain ⟨v, e, hv⟩ := dpa_atI h2 hd
    exact .inr (.inl ⟨_, _, _, _, rfl, rfl, s.sqt h1, e, o.sc s h hv⟩)
theorem sl_ok {X : Cx} {W : Wd} : ∃ r, SlR X r ∧ ∀ x g H a lo hi Φ Q, Kno g H → Dp X.K W g x a → slW a lo hi Φ → Out X.K W g H Φ Q → r x lo hi H Q := by
  refine ⟨_, sl_list.or sl_tup, fun x g H a lo hi Φ Q s hx h o => ?_⟩
  cases hx <;> try exact h.elim
  · rename_i a' xs ds h1 h2
    have e : xs.length = ds.length := dpa_len h2
    refine .inl ⟨_, _, rfl, s.seq h1, o.nl s (ds := cutD ds lo hi) h ?_⟩
    unfold cutV cutD
    rw [e]
    exact dpa_take _ (dpa_drop _ h2)
  · rename_i a' xs ds h1 h2
    have e : xs.length = ds.length := dpa_len h2
    refine .inr ⟨_, _, rfl, s.sqt h1, by rw [e]; exact h.1, o.nt s (ds := cutD ds lo hi) h.2 ?_⟩
    unfold cutV cutD
    rw [e]
    exact dpa_take _ (dpa_drop _ h2)
end PG

namespace PG
open PySem L2

/-! ### the small language against the text -/
def visB (sc : Scope) (x : Str) : Bool := match sc.names.lookup x with
  | some .local | some .cell | some .free => true
  | _ => false
def glB (sc : Scope) (x : Str) : Bool := match sc.names.lookup x with
  | some .globalImplicit => true
  | _ => false
def okN (x : Str) : Bool := !(x == ("__debug__" : Str)) && !(x == ("__classdict__" : Str)) && !(x == ("__name__" : Str))
def notStar : Expr → Bool
  | .Starred .. => false
  | _ => true
def noCall0 : Expr → Bool
  | .Call _ [] [] _ => false
  | _ => true
def plainIxB : Expr → Bool
  | .Slice .. => false
  | _ => true
def notSet : Expr → Bool
  | .Set .. => false
  | .List .. => true
  | _ => true
/-- tests that are no and, or, not, comparison, a if b else c -/
def plainT : Expr → Bool
  | .UnaryOp .Not _ _ => false
  | .BoolOp .. => false
  | .IfExp .. => false
  | .Compare .. => false
  | _ => true
def Bf.name : Bf → Str
  | .len => "len" | .list => "list" | .tuple => "tuple" | .int => "int" | .abs => "abs" | .sum => "sum" | .min2 => "min" | .max2 => "max"
def Ty.name : Ty → String
  | .int => "int" | .bool => "bool" | .str => "str" | .list => "list" | .tuple => "tuple"
def blkB (N : List Str) (sc scope : Scope) (own : List (Str × Nat)) : Bool :=
  decide (scope.kind = .function) && scope.names.all (fun y => decide (scope.names.lookup y.1 = some y.2)) && own.all (fun p => decide (N[p.2]? = some p.1)) &&
  scope.names.all (fun y => !decide (y.2 = .free) || decide (sc.names.lookup y.1 = some .cell) || decide (sc.names.lookup y.1 = some .free)) &&
  scope.names.all (fun y => !(decide (y.2 = .local) || decide (y.2 = .cell)) || decide (y.1 ∈ own.map (·.1)) || decide (y.1 ∉ N))
def mName (N : List Str) (sc : Scope) (cell : Bool) (i : Nat) : Expr → Bool
  | .Name x _ => decide (N[i]? = some x) && (decide (sc.names.lookup x = some .local) || (cell && decide (sc.names.lookup x = some .cell)))
  | _ => false
def mNames (N : List Str) (sc : Scope) (cell : Bool) : List Nat → List Expr → Bool
  | [], [] => true
  | i :: is, e :: es => mName N sc cell i e && mNames N sc cell is es
  | _, _ => false
def mTg (N : List Str) (sc : Scope) (cell : Bool) : Tg → Expr → Bool
  | .one i, e => mName N sc cell i e
  | .many is, .Tuple es _ _ => mNames N sc cell is es
  | _, _ => false
def Tg.slots : Tg → List Nat
  | .one i => [i]
  | .many is => is
def isYes : E → Bool
  | .yes => true
  | _ => false
def isNop : E → Bool
  | .nop => true
  | _ => false

def isEn : E → Bool
  | .enm _ => true
  | _ => false
def notList : Expr → Bool
  | .List .. => false
  | _ => true
def gxN : Bool → Str
  | true => "all"
  | false => "any"
def gxB (scope : Scope) : Bool := scope.names.all (fun y => !decide (y.2 = .cell)) && !scope.isCoroutine && decide (scope.names.lookup (".0" : Str) = some NameKind.local)
def isTup : Expr → Bool
  | .Tuple .. => true
  | _ => false
def mE (Θ : Ts) : E → Bool → Scope → List Expr → Bool
  | .var i, gx, sc, es => match es with
    | [.Name x _] => decide (Θ.N[i]? = some x) && visB sc x && okN x
    | _ => false
  | .int i, _, _, es => match es with
    | [.Constant (.int j) _ _] => decide (i = j)
    | _ => false
  | .bl b, _, _, es => match es with
    | [.Constant (.bool c) _ _] => decide (b = c)
    | _ => false
  | .str x, _, _, es => match es with
    | [.Constant (.str y) _ _] => decide (x = y)
    | _ => false
  | .non, _, _, es => match es with
    | [.Constant .none _ _] => true
    | _ => false
  | .con j, gx, sc, es => match es with
    | [.Name x _] => decide (Θ.kn[j]? = some x) && glB sc x && okN x
    | _ => false
  | .bin op a b, gx, sc, es => match es with
    | [.BinOp x o y _] => decide (o = bop op) && mE Θ a gx sc [x] && mE Θ b gx sc [y]
    | _ => false
  | .neg a, gx, sc, es => match es with
    | [.UnaryOp .USub x _] => mE Θ a gx sc [x]
    | _ => false
  | .cmp op a b, gx, sc, es => match es with
    | [.Compare x [o] [y] _] => decide (o = cop op) && (!behindInMarks o y) && mE Θ a gx sc [x] && mE Θ b gx sc [y]
    | _ => false
  | .chain op op2 a b c, gx, sc, es => match es with
    | [.Compare x [o, o2] [y, z] _] => decide (o = cop op) && decide (o2 = cop op2) && (!lastMarks [o, o2] [y, z]) && mE Θ a gx sc [x] && mE Θ b gx sc [y] && mE Θ c gx sc [z]
    | _ => false
  | .and_ a b, gx, sc, es => match es with
    | [.BoolOp .And (x :: y :: r) p] => mE Θ a gx sc [x] && mE Θ b gx sc [.BoolOp .And (y :: r) p]
    | _ => false
  | .or_ a b, gx, sc, es => match es with
    | [.BoolOp .Or (x :: y :: r) p] => mE Θ a gx sc [x] && mE Θ b gx sc [.BoolOp .Or (y :: r) p]
    | _ => false
  | .one a, gx, sc, es => match es with
    | [.BoolOp _ [x] _] => mE Θ a gx sc [x]
    | _ => false
  | .not_ a, gx, sc, es => match es with
    | [.UnaryOp .Not x _] => mE Θ a gx sc [x]
    | _ => false
  | .ite c a b, gx, sc, es => match es with
    | [.IfExp x y z _] => mE Θ c gx sc [x] && mE Θ a gx sc [y] && mE Θ b gx sc [z]
    | _ => false
  | .tup a, gx, sc, es => match es with
    | [.Tuple xs _ _] => mE Θ a gx sc xs
    | _ => false
  | .lst a, gx, sc, es => match es with
    | [.List xs _] => mE Θ a gx sc xs
    | _ => false
  | .enil, _, _, es => match es with
    | [] => true
    | _ => false
  | .econs a r, gx, sc, es => match es with
    | x :: xs => notStar x && mE Θ a gx sc [x] && mE Θ r gx sc xs
    | [] => false
  | .ix a i, gx, sc, es => match es with
    | [.Subscript x y _] => plainIxB y && mE Θ a gx sc [x] && mE Θ i gx sc [y]
    | _ => false
  | .sl a lo hi, gx, sc, es => match es with
    | [.Subscript x (.Slice l h none _) _] => mE Θ a gx sc [x] && (match l with | none => isNop lo | some l => mE Θ lo gx sc [l]) && (match h with | none => isNop hi | some h => mE Θ hi gx sc [h])
    | _ => false
  | .nop, _, _, _ => false
  | .yes, _, _, _ => false
  | .call j a, gx, sc, es => match es with
    | [.Call (.Name x _) (y :: ys) [] _] => decide (Θ.fn[j]? = some x) && glB sc x && okN x && (y :: ys).all notStar && mE Θ a gx sc (y :: ys)
    | _ => false
  | .blt f a, gx, sc, es => match es with
    | [.Call (.Name x _) (y :: ys) [] _] => decide (x = f.name) && glB sc x && decide (x ∈ Θ.bn) && (y :: ys).all notStar && mE Θ a gx sc (y :: ys)
    | _ => false
  | .isi a t, gx, sc, es => match es with
    | [.Call (.Name x _) [y, .Name u _] [] _] => decide (x = "isinstance") && glB sc x && decide (x ∈ Θ.bn) && decide (u = PySem.Str.ofString t.name) && glB sc u && decide (u ∈ Θ.bn) && notStar y && mE Θ a gx sc [y]
    | _ => false
  | .mix o a, gx, sc, es => match es with
    | [.Call (.Attribute x n ap) [y] [] cp] => decide (n = "index") && noCall0 x && notStar y && (ap.endLine == cp.line) && mE Θ o gx sc [x] && mE Θ a gx sc [y]
    | _ => false
  | .join o a, gx, sc, es => match es with
    | [.Call (.Attribute x n ap) [y] [] cp] => decide (n = "join") && noCall0 x && notStar y && (ap.endLine == cp.line) && mE Θ o gx sc [x] && mE Θ a gx sc [y]
    | _ => false
  | .comp own tg it c elt, gx, sc, es => match es with
    | [.ListComp el [⟨t, iter, ifs, 0⟩] scope _] => blkB Θ.N sc scope own && mTg Θ.N (relS scope sc) false tg t && tg.slots.all (fun i => decide (i ∈ own.map (·.2))) && notSet iter && (!isEn it || isTup t) && mE Θ it gx sc [iter] &&
        (match ifs with | [] => isYes c | [x] => mE Θ c false (relS scope sc) [x] | _ => false) && mE Θ elt false (relS scope sc) [el]
    | _ => false
  | .gen all own tg it elt, gx, sc, es => match es with
    | [.Call (.Name x _) [.GeneratorExp el [⟨t, iter, [], 0⟩] scope _] [] _] => gx && decide (x = gxN all) && glB sc x && decide (x ∈ Θ.bn) && blkB Θ.N sc scope own && gxB scope && mTg Θ.N scope false tg t && tg.slots.all (fun i => decide (i ∈ own.map (·.2))) && notSet iter && notList iter && (!isEn it || isTup t) && mE Θ it gx sc [iter] && mE Θ elt false scope [el]
    | _ => false
  | .rng1 a, gx, sc, es => match es with
    | [.Call (.Name x _) [y] [] _] => decide (x = "range") && glB sc x && decide (x ∈ Θ.bn) && notStar y && mE Θ a gx sc [y]
    | _ => false
  | .rng2 a b, gx, sc, es => match es with
    | [.Call (.Name x _) [y, z] [] _] => decide (x = "range") && glB sc x && decide (x ∈ Θ.bn) && notStar y && notStar z && mE Θ a gx sc [y] && mE Θ b gx sc [z]
    | _ => false
  | .sset a, gx, sc, es => match es with
    | [.Call (.Name x _) [.Call (.Name u _) [y] [] _] [] _] => decide (x = "sorted") && glB sc x && decide (x ∈ Θ.bn) && decide (u = "set") && glB sc u && decide (u ∈ Θ.bn) && notStar y && mE Θ a gx sc [y]
    | _ => false
  | .srt a, gx, sc, es => match es with
    | [.Call (.Name x _) [y] [] _] => decide (x = "sorted") && glB sc x && decide (x ∈ Θ.bn) && notStar y && mE Θ a gx sc [y]
    | _ => false
  | .lrg1 a, gx, sc, es => match es with
    | [.Call (.Name x _) [.Call (.Name u _) [y] [] _] [] _] => decide (x = "list") && glB sc x && decide (x ∈ Θ.bn) && decide (u = "range") && glB sc u && decide (u ∈ Θ.bn) && notStar y && mE Θ a gx sc [y]
    | _ => false
  | .lrg2 a b, gx, sc, es => match es with
    | [.Call (.Name x _) [.Call (.Name u _) [y, z] [] _] [] _] => decide (x = "list") && glB sc x && decide (x ∈ Θ.bn) && decide (u = "range") && glB sc u && decide (u ∈ Θ.bn) && notStar y && notStar z && mE Θ a gx sc [y] && mE Θ b gx sc [z]
    | _ => false
  | .trg1 a, gx, sc, es => match es with
    | [.Call (.Name x _) [.Call (.Name u _) [y] [] _] [] _] => decide (x = "tuple") && glB sc x && decide (x ∈ Θ.bn) && decide (u = "range") && glB sc u && decide (u ∈ Θ.bn) && notStar y && mE Θ a gx sc [y]
    | _ => false
  | .isnon n a, gx, sc, es => match es with
    | [.Compare x [o] [.Constant .none _ _] _] => decide (o = if n then .IsNot else .Is) && mE Θ a gx sc [x]
    | _ => false
  | .enm a, gx, sc, es => match es with
    | [.Call (.Name x _) [y] [] _] => decide (x = "enumerate") && glB sc x && decide (x ∈ Θ.bn) && notStar y && mE Θ a gx sc [y]
    | _ => false
  | .lend _ e, gx, sc, es => mE Θ e gx sc es

/-! ### what is asked of the context -/
def spD (K : Fg) (W : Wd) (mg : Str → Option Value) (f : List D → Ex → (R → Prop) → Prop) : Sp := fun vs H Q E => ∃ ds g Φ Ξ, Kno g H ∧ (∀ P ∈ W.tb, g.Z P = some fun o => ∃ ps : Array Value, o = .tbl ps ∧ TriplesOk ps.toList) ∧ DpAll K W g vs ds ∧ f ds Ξ Φ ∧ Out K W g H Φ Q ∧ OutX mg g H Ξ E
structure OkX (Θ : Tb) (W : Wd) (sc : Scope) (E : XK) (gx : Bool) (X : Cx) : Prop where
  N : X.N = Θ.N
  nd : X.N.Nodup
  sc : X.env.scope = sc
  calm : X.calm = true
  room : Room Θ.k X.A
  roomG : gx = true → Room (Θ.k + 1) X.A
  pass : Passes (L2.CX X.prog X.w) X E
  tab : gx = true → ∃ c P, X.env.code = .ref c ∧ GxR.TabB X.base X.mg c P ∧ P ∈ W.tb
  fns : ∀ (j : Nat) (fe : FEntry), Θ.φ[j]? = some fe → ∃ f fd, X.mg fe.name = some (.ref f) ∧ PySem.W.keepIn X.K (.ref f) = true ∧ Binds X.K fd fe.ps [] ∧ FnOk X.prog X.w X.K X.mg X.base (L2.CX X.prog X.w) Θ.k f fd fe.ps (spD X.K W X.mg fe.sp)
  cons : ∀ (j : Nat) (p : Str × D), Θ.κ[j]? = some p → ∃ u v, X.mg p.1 = some u ∧ RelV v u ∧ ∀ g, Dp X.K W g v p.2
  blt : ∀ x ∈ Θ.bn, X.mg x = none
theorem OkX.blk {Θ : Tb} {W : Wd} {sc scope : Scope} {E : XK} {gx : Bool} {X : Cx} (ok : OkX Θ W sc E gx X) (s : Shared) (H : Hp) (C : Addr) (cl : List (Str × Addr)) (fp : List Addr) : OkX Θ W (relS scope sc) E0 false (X.blk s H scope (compEnvC scope cl C X.env) fp) := by
  refine ⟨ok.N, ok.nd, ?_, ok.calm, ok.room, (fun h => by cases h), passL, (fun h => by cases h), ok.fns, ok.cons, ok.blt⟩
  rw [← ok.sc]
  rfl
theorem OkX.gxc {Θ : Tb} {W : Wd} {sc scope : Scope} {E : XK} {X : Cx} (ok : OkX Θ W sc E true X) (s : Shared) (H : Hp) (cenv : Env) (fp : List Addr) (pn : List (Addr × Obj)) (hc : cenv.scope = scope) : OkX Θ W scope E0 false (QG.gxc X (X.A.in1.in1.deeper cenv) s H cenv fp pn) := by
  refine ⟨ok.N, ok.nd, hc, ok.calm, ?_, (fun h => by cases h), passL, (fun h => by cases h), ok.fns, ok.cons, ok.blt⟩
  have r := ok.roomG rfl
  exact ⟨r.hd, by have := r.dp; show X.A.depth + 1 + 3 * Θ.k + 5 < _; omega, by have := r.un; show X.A.units + 1 + 1 + 3 + 16 * Θ.k + 200 < _; omega⟩

/-! ### readings -/
def tD (Θ : Tb) (W : Wd) (Ec : XK) (K : Fg) (mg : Str → Option Value) (e : E) : TE := fun σ H Q => ∃ ρ g Φ Ξ, EnvR K W ρ g σ H ∧ wpE Θ e Ξ ρ Φ ∧ Out K W g H Φ Q ∧ OutX mg g H Ξ Ec
def tAr (Θ : Tb) (W : Wd) (Ec : XK) (K : Fg) (mg : Str → Option Value) (e : E) : TA := fun σ H Q => ∃ ρ g Φ Ξ, EnvR K W ρ g σ H ∧ wpE Θ e Ξ ρ Φ ∧ (∀ ds vs g' H', Φ (.args ds) → Grow g H g' H' → DpAll K W g' vs ds → Q vs H') ∧ OutX mg g H Ξ Ec
def tPt (Θ : Tb) (W : Wd) (Ec : XK) (K : Fg) (mg : Str → Option Value) (e : E) : TO := fun σ H Q => ∃ ρ g Φ Ξ, EnvR K W ρ g σ H ∧ wpE Θ e Ξ ρ (fun r => partW r Φ) ∧ (∀ o g' H', Φ o → Grow g H g' H' → Q o H') ∧ OutX mg g H Ξ Ec
def tTs (Θ : Tb) (W : Wd) (Ec : XK) (K : Fg) (mg : Str → Option Value) (e : E) : TT := fun σ H Q => ∃ ρ g Φ Ξ, EnvR K W ρ g σ H ∧ wpE Θ e Ξ ρ Φ ∧ (∀ r, Φ r → ∃ b, r = .val (.bool b)) ∧ (∀ b g' H', Φ (.val (.bool b)) → Grow g H g' H' → Q b H') ∧ OutX mg g H Ξ Ec
def WalkD (K : Fg) (W : Wd) (J : It) (xs : List D) (g : Kn) : Prop := Walk J xs.length (fun H => Same g.G H) (fun i H x H' => ∀ gc, Ext g gc → Kno gc H → ∃ d g2, xs[i]? = some d ∧ Grow gc H g2 H' ∧ Dp K W g2 x d)
def tIt (Θ : Tb) (W : Wd) (Ec : XK) (K : Fg) (mg : Str → Option Value) (e : E) : TI := fun σ H P => ∃ ρ g Φ Ξ, EnvR K W ρ g σ H ∧ wpE Θ e Ξ ρ Φ ∧ (∀ r, Φ r → ∃ xs, itemsOf r = some xs) ∧ (∀ r xs g' H' J, Φ r → itemsOf r = some xs → Grow g H g' H' → WalkD K W J xs g' → P J H') ∧ OutX mg g H Ξ Ec
abbrev xD (Θ : Tb) (W : Wd) (Ec : XK) (X : Cx) (e : E) : TE := tD Θ W Ec X.K X.mg e
abbrev xAr (Θ : Tb) (W : Wd) (Ec : XK) (X : Cx) (e : E) : TA := tAr Θ W Ec X.K X.mg e
abbrev xPt (Θ : Tb) (W : Wd) (Ec : XK) (X : Cx) (e : E) : TO := tPt Θ W Ec X.K X.mg e
abbrev xTs (Θ : Tb) (W : Wd) (Ec : XK) (X : Cx) (e : E) : TT := tTs Θ W Ec X.K X.mg e
abbrev xIt (Θ : Tb) (W : Wd) (Ec : XK) (X : Cx) (e : E) : TI := tIt Θ W Ec X.K X.mg e
theorem pe_imp {X : Cx} {e : Expr} {t t' : TE} (h : PE X e t) (k : ∀ σ H Q, t' σ H Q → t σ H Q) : PE X e t' := ⟨fun pins s σ H Q I hw => h.run pins s σ H Q I (k σ H Q hw)⟩
theorem pa_imp {X : Cx} {e : List Expr} {t t' : TA} (h : PA X e t) (k : ∀ σ H Q, t' σ H Q → t σ H Q) : PA X e t' := ⟨fun pos pins s σ H Q I hw => h.run pos pins s σ H Q I (k σ H Q hw)⟩
theorem po_imp {X : Cx} {e : Option Expr} {t t' : TO} (h : PO X e t) (k : ∀ σ H Q, t' σ H Q → t σ H Q) : PO X e t' := ⟨fun pins s σ H Q I hw => h.run pins s σ H Q I (k σ H Q hw)⟩
theorem pt_imp {X : Cx} {e : Expr} {t t' : TT} (h : PT X e t) (k : ∀ σ H Q, t' σ H Q → t σ H Q) : PT X e t' := ⟨fun pins s σ H Q I hw => h.run pins s σ H Q I (k σ H Q hw)⟩
theorem pw_imp {X : Cx} {e : Expr} {t t' : TT} (h : PW X e t) (k : ∀ σ H Q, t' σ H Q → t σ H Q) : PW X e t' := ⟨fun wh pins s σ H Q I hw => h.run wh pins s σ H Q I (k σ H Q hw)⟩
theorem pi_imp {X : Cx} {tg e : Expr} {t t' : TI} (h : PI X tg e t) (k : ∀ σ H Q, t' σ H Q → t σ H Q) : PI X tg e t' := ⟨fun pins s σ H Q I hw => h.run pins s σ H Q I (k σ H Q hw)⟩

section
variable {Θ : Tb} {W : Wd} {sc : Scope} {Ec : XK} {gx : Bool} {X : Cx}
theorem vis_of {x : Str} (h : visB sc x = true) : Vis sc x := by
  unfold visB at h
  cases e : sc.names.lookup x with
  | none => rw [e] at h; cases h
  | some k => cases k <;> first | exact .inl e | exact .inr (.inl e) | exact .inr (.inr e) | (rw [e] at h; cases h)
theorem OkX.gl (ok : OkX Θ W sc Ec gx X) {x : Str} (h : glB sc x = true) : Gl X x := by
  unfold glB at h
  show X.env.scope.names.lookup x = some .globalImplicit
  rw [ok.sc]
  cases e : sc.names.lookup x with
  | none => rw [e] at h; cases h
  | some k => cases k <;> first | rfl | (rw [e] at h; cases h)
theorem okN_d {x : Str} (h : okN x = true) : (x == ("__debug__" : Str)) = false := by
  unfold okN at h
  simp only [Bool.and_eq_true, Bool.not_eq_true'] at h
  exact h.1.1
theorem okN_c {x : Str} (h : okN x = true) : (x == ("__classdict__" : Str)) = false := by
  unfold okN at h
  simp only [Bool.and_eq_true, Bool.not_eq_true'] at h
  exact h.1.2
theorem star_cons {e : Expr} {es : List Expr} {env : Env} (h : notStar e = true) : starEach (e :: es) env = (false, eval e env) :: starEach es env := by
  cases e <;> first | rfl | cases h
theorem star_any {pos : Pos} {env : Env} : ∀ {es : List Expr}, es.all notStar = true → (backTo pos (starEach es env)).any (·.1) = false
  | [], _ => rfl
  | e :: es, h => by
    rw [List.all_cons, Bool.and_eq_true] at h
    rw [star_cons h.1]
    show (false || (backTo pos (starEach es env)).any (·.1)) = false
    rw [star_any h.2]
    rfl
theorem attr_base {o : Expr} {n : Str} {env : Env} {w : Sem Value} (h : noCall0 o = true) : attributeBase o n env w = w := by
  cases o <;> first | rfl | skip
  rename_i f as ks p
  cases as <;> cases ks <;> cases f <;> first | rfl | cases h
theorem plain_ix {b : Expr} (h : plainIxB b = true) : PlainIx b := by
  cases b <;> first | exact fun _ _ => rfl | cases h
theorem pt_plain {e : Expr} (h : plainT e = true) {t : TE} (p : PE X e t) : PT X e (tB t) := by
  refine pt_val p ?_
  cases e with
  | UnaryOp op o p => cases op <;> first | (intro _; rfl) | cases h
  | BoolOp _ _ _ => cases h
  | IfExp _ _ _ _ => cases h
  | Compare _ _ _ _ => cases h
  | _ => intro _; rfl
theorem fold_set {e : Expr} {env : Env} {x : Value} (h : notSet e = true) : foldedSetIterable e env x = pure x := by
  cases e <;> first | rfl | cases h
theorem cline (ok : OkX Θ W sc Ec gx X) : X.A.units + 65 < cLine := by have := ok.room.un; omega
end
end PG

namespace PG
open PySem L2
section
variable {Θ : Tb} {W : Wd} {Ec : XK} {K : Fg} {mg : Str → Option Value} {ρ : List Sl} {g : Kn} {Φ : R → Prop} {Ξ : Ex} {σ : L2.St} {H : Hp} {a : E}
/-- a value that is given away -/
theorem mkD {Q : VK} (env : EnvR K W ρ g σ H) (wp : wpE Θ a Ξ ρ Φ) (ox : OutX mg g H Ξ Ec) (k : ∀ r v g2 H1, Φ r → Grow g H g2 H1 → Dp K W g2 v r.d → Q v H1) : tD Θ W Ec K mg a σ H Q :=
  ⟨ρ, g, Φ, Ξ, env, wp, fun r v g1 H1 h1 gr rr => let ⟨g2, gr2, _, d⟩ := rr.frz gr; k r v g2 H1 h1 gr2 d, ox⟩
/-- .. that is True or False -/
theorem mkB {Q : VK} (env : EnvR K W ρ g σ H) (wp : wpE Θ a Ξ ρ Φ) (ox : OutX mg g H Ξ Ec) (hb : ∀ r, Φ r → ∃ b, r = .val (.bool b)) (k : ∀ b g2 H1, Φ (.val (.bool b)) → Grow g H g2 H1 → Q (.bl b) H1) : tD Θ W Ec K mg a σ H Q :=
  ⟨ρ, g, Φ, Ξ, env, wp, fun r v g1 H1 h1 gr rr => by
    obtain ⟨b, rfl⟩ := hb r h1
    cases (show Dp K W g1 v (.bool b) from rr)
    exact k b g1 H1 h1 gr, ox⟩
theorem boolW_bl {A B : Prop} {r : R} (h : boolW A B r) : ∃ b, r = .val (.bool b) := by
  unfold boolW at h
  split at h
  · exact ⟨_, rfl⟩
  · exact ⟨_, rfl⟩
  · exact h.elim
theorem onB_bl {Φ : R → Prop} {r : R} (h : onB Φ r) : ∃ b, r = .val (.bool b) := by
  unfold onB at h
  split at h
  · exact ⟨_, rfl⟩
  · exact h.elim
theorem notW_bl {Φ : R → Prop} {r : R} (h : notW Φ r) : ∃ b, r = .val (.bool b) := by
  unfold notW at h
  split at h
  · exact ⟨_, rfl⟩
  · exact h.elim
theorem mkT {Q : Bool → Hp → Prop} (env : EnvR K W ρ g σ H) (wp : wpE Θ a Ξ ρ Φ) (ox : OutX mg g H Ξ Ec) (hb : ∀ r, Φ r → ∃ b, r = .val (.bool b)) (k : ∀ b g2 H1, Φ (.val (.bool b)) → Grow g H g2 H1 → Q b H1) : tTs Θ W Ec K mg a σ H Q :=
  ⟨ρ, g, Φ, Ξ, env, wp, hb, k, ox⟩
theorem mkA {Q : List V → Hp → Prop} (env : EnvR K W ρ g σ H) (wp : wpE Θ a Ξ ρ Φ) (ox : OutX mg g H Ξ Ec) (k : ∀ ds vs g' H', Φ (.args ds) → Grow g H g' H' → DpAll K W g' vs ds → Q vs H') : tAr Θ W Ec K mg a σ H Q := ⟨ρ, g, Φ, Ξ, env, wp, k, ox⟩
/-- a test's reading from a value's -/
theorem tts_of {Q : Bool → Hp → Prop} (h : tTs Θ W Ec K mg a σ H Q) : tD Θ W Ec K mg a σ H (fun x H' => ∃ k, x = .bl k ∧ Q k H') := by
  obtain ⟨ρ, g, Φ, Ξ, env, wp, hb, out, ox⟩ := h
  exact mkB env wp ox hb fun b g2 H1 h gr => ⟨b, rfl, out b g2 H1 h gr⟩
end
section
variable {Θ : Tb} {W : Wd} {sc : Scope} {Ec : XK} {gx : Bool} {X : Cx} {pos : Pos} {x y z : Expr} {a b c : E}

theorem s_var (ok : OkX Θ W sc Ec gx X) {i : Nat} {n : Str} (h1 : Θ.N[i]? = some n) (h2 : visB sc n = true) (h3 : okN n = true) : PE X (.Name n pos) (xD Θ W Ec X (.var i)) := by
  refine pe_imp (pe_var (i := i) (by rw [ok.N]; exact h1) (by rw [ok.sc]; exact vis_of h2) (okN_d h3) (okN_c h3)) fun σ H Q ⟨ρ, g, Φ, Ξ, env, wp, out, ox⟩ => ?_
  have wp : (match ρ[i]? with | some (.val d) => Φ (.val d) | _ => False) := wp
  split at wp
  · rename_i d e
    obtain ⟨v, hv, hd⟩ := env.val i d e
    exact ⟨v, hv, out.sc env.ok wp hd⟩
  · exact wp.elim
theorem s_int {i : Int} {k : Nat} : PE X (.Constant (.int i) k pos) (xD Θ W Ec X (.int i)) := pe_imp pe_int fun σ H Q ⟨ρ, g, Φ, Ξ, env, wp, out, ox⟩ => out.sc env.ok wp (.int i)
theorem s_bl {i : Bool} {k : Nat} : PE X (.Constant (.bool i) k pos) (xD Θ W Ec X (.bl i)) := pe_imp pe_bl fun σ H Q ⟨ρ, g, Φ, Ξ, env, wp, out, ox⟩ => out.sc env.ok wp (.bl i)
theorem s_str {i : Str} {k : Nat} : PE X (.Constant (.str i) k pos) (xD Θ W Ec X (.str i)) := pe_imp pe_str fun σ H Q ⟨ρ, g, Φ, Ξ, env, wp, out, ox⟩ => out.sc env.ok wp (.str i)
theorem s_non {k : Nat} : PE X (.Constant .none k pos) (xD Θ W Ec X .non) := pe_imp pe_non fun σ H Q ⟨ρ, g, Φ, Ξ, env, wp, out, ox⟩ => out.sc env.ok wp .non
theorem s_con (ok : OkX Θ W sc Ec gx X) {j : Nat} {n : Str} {p : Str × D} (h1 : Θ.κ[j]? = some p) (hn : p.1 = n) (h2 : glB sc n = true) (h3 : okN n = true) : PE X (.Name n pos) (xD Θ W Ec X (.con j)) := by
  subst hn
  obtain ⟨u, v, hm, rv, hd⟩ := ok.cons j p h1
  refine pe_imp (pe_glob (ok.gl h2) hm rv (okN_d h3)) fun σ H Q ⟨ρ, g, Φ, Ξ, env, wp, out, ox⟩ => ?_
  have wp : (match Θ.κ[j]? with | some p => Φ (.val p.2) | none => False) := wp
  rw [h1] at wp
  exact out.sc env.ok wp (hd g)
theorem s_bin {op : BOp} (ha : PE X x (xD Θ W Ec X a)) (hb : PE X y (xD Θ W Ec X b)) : PE X (.BinOp x (bop op) y pos) (xD Θ W Ec X (.bin op a b)) := by
  obtain ⟨r, ho, hw⟩ := bin_ok (X := X) (W := W) op
  exact pe_imp (pe_op ho ha hb) fun σ H Q ⟨ρ, g, Φ, Ξ, env, wp, out, ox⟩ => mkD env wp ox fun ra v g1 H1 h1 q1 d1 => mkD (env.grow q1) h1 (ox.step q1) fun rb u g2 H2 h2 q2 d2 =>
    hw v u g2 H2 _ _ Φ Q q2.ok (dp_mono q2.e d1) d2 h2 (out.step (q1.trans q2))
theorem s_neg (ha : PE X x (xD Θ W Ec X a)) : PE X (.UnaryOp .USub x pos) (xD Θ W Ec X (.neg a)) := by
  refine pe_imp (pe_un un_neg ha) fun σ H Q ⟨ρ, g, Φ, Ξ, env, wp, out, ox⟩ => mkD env wp ox fun ra v g1 H1 h1 q1 d1 => ?_
  generalize ra.d = d at h1 d1
  cases d1 <;> try exact h1.elim
  exact ⟨_, rfl, (out.step q1).sc q1.ok h1 (.int _)⟩
theorem cmp_core {op : COp} {r : R2} (hw : OpOk X.K W r (cmpW op)) {σ : L2.St} {H : Hp} {Q : VK} (h : xD Θ W Ec X (.cmp op a b) σ H Q) : tOp r (xD Θ W Ec X a) (xD Θ W Ec X b) σ H Q := by
  obtain ⟨ρ, g, Φ, Ξ, env, wp, out, ox⟩ := h
  exact mkD env wp ox fun ra v g1 H1 h1 q1 d1 => mkD (env.grow q1) h1 (ox.step q1) fun rb u g2 H2 h2 q2 d2 => hw v u g2 H2 _ _ Φ Q q2.ok (dp_mono q2.e d1) d2 h2 (out.step (q1.trans q2))
theorem s_cmp (ok : OkX Θ W sc Ec gx X) {op : COp} (hm : behindInMarks (cop op) y = false) (ha : PE X x (xD Θ W Ec X a)) (hb : PE X y (xD Θ W Ec X b)) : PE X (.Compare x [cop op] [y] pos) (xD Θ W Ec X (.cmp op a b)) := by
  obtain ⟨r, ho, hw⟩ := cmp_ok (X := X) (W := W) (cline ok) op
  exact pe_imp (pe_cmpR ho ha hb hm) fun σ H Q h => cmp_core hw h
theorem s_cmpT (ok : OkX Θ W sc Ec gx X) {op : COp} (hm : behindInMarks (cop op) y = false) (ha : PE X x (xD Θ W Ec X a)) (hb : PE X y (xD Θ W Ec X b)) : PT X (.Compare x [cop op] [y] pos) (xTs Θ W Ec X (.cmp op a b)) := by
  obtain ⟨r, ho, hw⟩ := cmp_ok (X := X) (W := W) (cline ok) op
  exact pt_imp (pt_cmpR ho ha hb hm) fun σ H Q h => cmp_core hw (tts_of h)
theorem s_plainT {e : E} (hp : plainT x = true) (h : PE X x (xD Θ W Ec X e)) : PT X x (xTs Θ W Ec X e) := pt_imp (pt_plain hp h) fun σ H Q h => tts_of h
/-- comparisons of whole numbers, by what they give -/
theorem ci_ok (op : COp) : ∃ r : R2, OpR X (compareOp (cop op)) r ∧ ∀ i j b (H : Hp) (Q : VK), cmpI op i j = some b → Q (.bl b) H → r (.int i) (.int j) H Q := by
  cases op with
  | lt => exact ⟨_, op_lt, fun i j b H Q h q => by cases h; exact ⟨_, _, rfl, rfl, q⟩⟩
  | le => exact ⟨_, op_le, fun i j b H Q h q => by cases h; exact ⟨_, _, rfl, rfl, q⟩⟩
  | gt => exact ⟨_, op_gt, fun i j b H Q h q => by cases h; exact ⟨_, _, rfl, rfl, q⟩⟩
  | ge => exact ⟨_, op_ge, fun i j b H Q h q => by cases h; exact ⟨_, _, rfl, rfl, q⟩⟩
  | eq => exact ⟨fun _ _ _ _ => False, fun _ _ _ _ _ _ _ _ _ _ _ _ h => h.elim, fun i j b H Q h => by cases h⟩
  | ne => exact ⟨fun _ _ _ _ => False, fun _ _ _ _ _ _ _ _ _ _ _ _ h => h.elim, fun i j b H Q h => by cases h⟩
  | isin => exact ⟨fun _ _ _ _ => False, fun _ _ _ _ _ _ _ _ _ _ _ _ h => h.elim, fun i j b H Q h => by cases h⟩
  | notin => exact ⟨fun _ _ _ _ => False, fun _ _ _ _ _ _ _ _ _ _ _ _ h => h.elim, fun i j b H Q h => by cases h⟩
theorem chain_core {op op2 : COp} {r r2 : R2} (hw : ∀ i j b (H : Hp) (Q : VK), cmpI op i j = some b → Q (.bl b) H → r (.int i) (.int j) H Q) (hw2 : ∀ i j b (H : Hp) (Q : VK), cmpI op2 i j = some b → Q (.bl b) H → r2 (.int i) (.int j) H Q)
    {σ : L2.St} {H : Hp} {Q : VK} (h : xD Θ W Ec X (.chain op op2 a b c) σ H Q) : tChain r r2 (xD Θ W Ec X a) (xD Θ W Ec X b) (xD Θ W Ec X c) σ H Q := by
  obtain ⟨ρ, g, Φ, Ξ, env, wp, out, ox⟩ := h
  refine mkD env wp ox fun ra v g1 H1 h1 q1 d1 => mkD (env.grow q1) h1 (ox.step q1) fun rb u g2 H2 h2 q2 d2 => ?_
  have q12 := q1.trans q2
  obtain ⟨i, j, t, e1, e2, e3, ht, hf⟩ := h2
  generalize ra.d = da at d1 e1
  generalize rb.d = db at d2 e2
  subst e1 e2
  cases d1
  cases d2
  refine hw i j t H2 _ e3 ?_
  cases t with
  | false => exact ⟨false, rfl, by simp only [Bool.false_eq_true, if_false]; exact (out.step q12).sc q12.ok (hf rfl) (.bl _)⟩
  | true =>
    refine ⟨true, rfl, ?_⟩
    simp only [if_true]
    refine mkD (env.grow q12) (ht rfl) (ox.step q12) fun rc w g3 H3 h3 q3 d3 => ?_
    obtain ⟨l, c', e4, e5, h3⟩ := h3
    generalize rc.d = dc at d3 e4
    subst e4
    cases d3
    exact hw2 j l c' H3 _ e5 ((out.step (q12.trans q3)).sc q3.ok h3 (.bl _))
theorem s_chain {op op2 : COp} (hm : lastMarks [cop op, cop op2] [y, z] = false) (ha : PE X x (xD Θ W Ec X a)) (hb : PE X y (xD Θ W Ec X b)) (hc : PE X z (xD Θ W Ec X c)) : PE X (.Compare x [cop op, cop op2] [y, z] pos) (xD Θ W Ec X (.chain op op2 a b c)) := by
  obtain ⟨r, ho, hw⟩ := ci_ok (X := X) op
  obtain ⟨r2, ho2, hw2⟩ := ci_ok (X := X) op2
  exact pe_imp (pe_chain ho ho2 ha hb hc hm) fun σ H Q h => chain_core hw hw2 h
theorem s_chainT {op op2 : COp} (hm : lastMarks [cop op, cop op2] [y, z] = false) (ha : PE X x (xD Θ W Ec X a)) (hb : PE X y (xD Θ W Ec X b)) (hc : PE X z (xD Θ W Ec X c)) : PT X (.Compare x [cop op, cop op2] [y, z] pos) (xTs Θ W Ec X (.chain op op2 a b c)) := by
  obtain ⟨r, ho, hw⟩ := ci_ok (X := X) op
  obtain ⟨r2, ho2, hw2⟩ := ci_ok (X := X) op2
  exact pt_imp (pt_chain ho ho2 ha hb hc hm) fun σ H Q h => chain_core hw hw2 (tts_of h)
theorem s_and {r : List Expr} (ha : PE X x (xD Θ W Ec X a)) (hb : PE X (.BoolOp .And (y :: r) pos) (xD Θ W Ec X b)) : PE X (.BoolOp .And (x :: y :: r) pos) (xD Θ W Ec X (.and_ a b)) := by
  refine pe_imp (pe_and ha hb) fun σ H Q ⟨ρ, g, Φ, Ξ, env, wp, out, ox⟩ => mkB env wp ox (fun r h => boolW_bl h) fun t g1 H1 h1 q1 => ⟨t, rfl, ?_⟩
  cases t with
  | true =>
    rw [if_pos rfl]
    exact mkB (env.grow q1) h1 (ox.step q1) (fun r h => onB_bl h) fun t2 g2 H2 h2 q2 => out _ _ _ _ h2 (q1.trans q2) (.bl _)
  | false =>
    rw [if_neg Bool.false_ne_true]
    exact out _ _ _ _ h1 q1 (.bl false)
theorem s_or {r : List Expr} (ha : PE X x (xD Θ W Ec X a)) (hb : PE X (.BoolOp .Or (y :: r) pos) (xD Θ W Ec X b)) : PE X (.BoolOp .Or (x :: y :: r) pos) (xD Θ W Ec X (.or_ a b)) := by
  refine pe_imp (pe_or ha hb) fun σ H Q ⟨ρ, g, Φ, Ξ, env, wp, out, ox⟩ => mkB env wp ox (fun r h => boolW_bl h) fun t g1 H1 h1 q1 => ⟨t, rfl, ?_⟩
  cases t with
  | true =>
    rw [if_pos rfl]
    exact out _ _ _ _ h1 q1 (.bl true)
  | false =>
    rw [if_neg Bool.false_ne_true]
    exact mkB (env.grow q1) h1 (ox.step q1) (fun r h => onB_bl h) fun t2 g2 H2 h2 q2 => out _ _ _ _ h2 (q1.trans q2) (.bl _)
theorem s_andW {r : List Expr} (ha : PT X x (xTs Θ W Ec X a)) (hb : PW X (.BoolOp .And (y :: r) pos) (xTs Θ W Ec X b)) : PW X (.BoolOp .And (x :: y :: r) pos) (xTs Θ W Ec X (.and_ a b)) := by
  refine pw_imp (pw_and ha hb) fun σ H Q ⟨ρ, g, Φ, Ξ, env, wp, hbl, out, ox⟩ => mkT env wp ox (fun r h => boolW_bl h) fun t g1 H1 h1 q1 => ?_
  cases t with
  | true =>
    rw [if_pos rfl]
    exact mkT (env.grow q1) h1 (ox.step q1) (fun r h => onB_bl h) fun t2 g2 H2 h2 q2 => out t2 g2 H2 h2 (q1.trans q2)
  | false =>
    rw [if_neg Bool.false_ne_true]
    exact out false g1 H1 h1 q1
theorem s_orW {r : List Expr} (ha : PT X x (xTs Θ W Ec X a)) (hb : PW X (.BoolOp .Or (y :: r) pos) (xTs Θ W Ec X b)) : PW X (.BoolOp .Or (x :: y :: r) pos) (xTs Θ W Ec X (.or_ a b)) := by
  refine pw_imp (pw_or ha hb) fun σ H Q ⟨ρ, g, Φ, Ξ, env, wp, hbl, out, ox⟩ => mkT env wp ox (fun r h => boolW_bl h) fun t g1 H1 h1 q1 => ?_
  cases t with
  | true =>
    rw [if_pos rfl]
    exact out true g1 H1 h1 q1
  | false =>
    rw [if_neg Bool.false_ne_true]
    exact mkT (env.grow q1) h1 (ox.step q1) (fun r h => onB_bl h) fun t2 g2 H2 h2 q2 => out t2 g2 H2 h2 (q1.trans q2)
theorem s_oneW {op : BoolOp} (ha : PT X x (xTs Θ W Ec X a)) : PW X (.BoolOp op [x] pos) (xTs Θ W Ec X (.one a)) := by
  cases op with
  | And => exact pw_imp (pw_and1 ha) fun σ H Q h => h
  | Or => exact pw_imp (pw_or1 ha) fun σ H Q h => h
theorem s_one {op : BoolOp} (ha : PE X x (xD Θ W Ec X a)) : PE X (.BoolOp op [x] pos) (xD Θ W Ec X (.one a)) := pe_imp (pe_one ha) fun σ H Q h => h
theorem s_not (ha : PE X x (xD Θ W Ec X a)) : PE X (.UnaryOp .Not x pos) (xD Θ W Ec X (.not_ a)) :=
  pe_imp (pe_not ha) fun σ H Q ⟨ρ, g, Φ, Ξ, env, wp, out, ox⟩ => mkB env wp ox (fun r h => notW_bl h) fun t g1 H1 h1 q1 => ⟨t, rfl, out _ _ _ _ h1 q1 (.bl _)⟩
theorem s_notT (ha : PT X x (xTs Θ W Ec X a)) : PT X (.UnaryOp .Not x pos) (xTs Θ W Ec X (.not_ a)) :=
  pt_imp (pt_not ha) fun σ H Q ⟨ρ, g, Φ, Ξ, env, wp, hbl, out, ox⟩ => mkT env wp ox (fun r h => notW_bl h) fun t g1 H1 h1 q1 => out _ _ _ h1 q1
theorem s_ite (hc : PT X x (xTs Θ W Ec X c)) (ha : PE X y (xD Θ W Ec X a)) (hb : PE X z (xD Θ W Ec X b)) : PE X (.IfExp x y z pos) (xD Θ W Ec X (.ite c a b)) := by
  refine pe_imp (pe_ifExp hc ha hb) fun σ H Q ⟨ρ, g, Φ, Ξ, env, wp, out, ox⟩ => mkT env wp ox (fun r h => boolW_bl h) fun t g1 H1 h1 q1 => ?_
  cases t with
  | true => rw [if_pos rfl]; exact ⟨ρ, g1, Φ, Ξ, env.grow q1, h1, out.step q1, ox.step q1⟩
  | false => rw [if_neg Bool.false_ne_true]; exact ⟨ρ, g1, Φ, Ξ, env.grow q1, h1, out.step q1, ox.step q1⟩
theorem s_nil : PA X [] (xAr Θ W Ec X .enil) := pa_imp pa_nil fun σ H Q ⟨ρ, g, Φ, Ξ, env, wp, out, ox⟩ => out [] [] g H wp (.refl env.ok) .nil
theorem s_cons {es : List Expr} (hs : notStar x = true) (ha : PE X x (xD Θ W Ec X a)) (hb : PA X es (xAr Θ W Ec X b)) : PA X (x :: es) (xAr Θ W Ec X (.econs a b)) :=
  pa_imp (pa_cons ha hb (star_cons hs)) fun σ H Q ⟨ρ, g, Φ, Ξ, env, wp, out, ox⟩ => mkD env wp ox fun ra v g1 H1 h1 q1 d1 => mkA (env.grow q1) h1 (ox.step q1) fun ds vs g2 H2 h2 q2 d2 => out _ _ _ _ h2 (q1.trans q2) (.cons (dp_mono q2.e d1) d2)
theorem s_tup {es : List Expr} {k : Nat} (ha : PA X es (xAr Θ W Ec X a)) : PE X (.Tuple es k pos) (xD Θ W Ec X (.tup a)) :=
  pe_imp (pe_tup ha) fun σ H Q ⟨ρ, g, Φ, Ξ, env, wp, out, ox⟩ => mkA env wp ox fun ds vs g1 H1 h1 q1 d1 => ⟨by rw [dpa_len d1]; exact h1.1, (out.step q1).nt q1.ok h1.2 d1⟩
theorem s_lst {es : List Expr} (ha : PA X es (xAr Θ W Ec X a)) : PE X (.List es pos) (xD Θ W Ec X (.lst a)) :=
  pe_imp (pe_lst ha) fun σ H Q ⟨ρ, g, Φ, Ξ, env, wp, out, ox⟩ => mkA env wp ox fun ds vs g1 H1 h1 q1 d1 => ⟨by rw [dpa_len d1]; exact h1.1, (out.step q1).nl q1.ok h1.2 d1⟩
theorem s_ix (hp : plainIxB y = true) (ha : PE X x (xD Θ W Ec X a)) (hb : PE X y (xD Θ W Ec X b)) : PE X (.Subscript x y pos) (xD Θ W Ec X (.ix a b)) := by
  obtain ⟨r, ho, hw⟩ := ix_ok (X := X) (W := W)
  exact pe_imp (pe_ix ho ha hb (plain_ix hp)) fun σ H Q ⟨ρ, g, Φ, Ξ, env, wp, out, ox⟩ => mkD env wp ox fun ra v g1 H1 h1 q1 d1 => mkD (env.grow q1) h1 (ox.step q1) fun rb u g2 H2 h2 q2 d2 =>
    hw v u g2 H2 _ _ Φ Q q2.ok (dp_mono q2.e d1) d2 h2 (out.step (q1.trans q2))
theorem s_po {e : E} (h : PE X x (xD Θ W Ec X e)) : PO X (some x) (xPt Θ W Ec X e) := by
  refine po_imp (po_some h) fun σ H Q ⟨ρ, g, Φ, Ξ, env, wp, out, ox⟩ => ⟨ρ, g, _, Ξ, env, wp, fun ra v g1 H1 h1 q1 r1 => ?_, ox⟩
  replace h1 : partW ra Φ := h1
  unfold partW at h1
  split at h1
  · exact (show False from r1).elim
  · rename_i i
    cases (show Dp X.K W g1 v (.int i) from r1)
    exact ⟨i, rfl, out _ g1 H1 h1 q1⟩
  · exact h1.elim
theorem s_pn : PO X none (xPt Θ W Ec X .nop) := po_imp po_none fun σ H Q ⟨ρ, g, Φ, Ξ, env, wp, out, ox⟩ => out none g H wp (.refl env.ok)
theorem s_sl {l h : Option Expr} {lo hi : E} {p2 : Pos} (ha : PE X x (xD Θ W Ec X a)) (hl : PO X l (xPt Θ W Ec X lo)) (hh : PO X h (xPt Θ W Ec X hi)) : PE X (.Subscript x (.Slice l h none p2) pos) (xD Θ W Ec X (.sl a lo hi)) := by
  obtain ⟨r, ho, hw⟩ := sl_ok (X := X) (W := W)
  exact pe_imp (pe_slice ho ha hl hh) fun σ H Q ⟨ρ, g, Φ, Ξ, env, wp, out, ox⟩ => mkD env wp ox fun ra v g1 H1 h1 q1 d1 => ⟨ρ, g1, _, Ξ, env.grow q1, h1, fun o g2 H2 h2 q2 => ⟨ρ, g2, _, Ξ, (env.grow q1).grow q2, h2, fun o2 g3 H3 h3 q3 =>
    hw v g3 H3 _ _ _ Φ Q q3.ok (dp_mono (q2.trans q3).e d1) h3 (out.step (q1.trans (q2.trans q3))), ox.step (q1.trans q2)⟩, ox.step q1⟩
theorem s_call (ok : OkX Θ W sc Ec gx X) {j : Nat} {fe : FEntry} {n : Str} {p : Pos} {es : List Expr} (h1 : Θ.φ[j]? = some fe) (hn : fe.name = n) (h2 : glB sc n = true) (h3 : okN n = true) (hs : (x :: es).all notStar = true) (ha : PA X (x :: es) (xAr Θ W Ec X a)) :
    PE X (.Call (.Name n p) (x :: es) [] pos) (xD Θ W Ec X (.call j a)) := by
  subst hn
  obtain ⟨f, fd, hm, hk, hb, F⟩ := ok.fns j fe h1
  have hs' := hs
  rw [List.all_cons, Bool.and_eq_true] at hs'
  refine pe_imp (pe_call F ok.room (ok.gl h2) hm hk hb .nil ok.pass ha (okN_d h3) (star_cons hs'.1) (star_any hs'.2)) fun σ H Q ⟨ρ, g, Φ, Ξ, env, wp, out, ox⟩ => mkA env wp ox fun ds vs g1 H1 h4 q1 d1 => ?_
  simp only [h1] at h4
  show spD X.K W X.mg fe.sp (vs ++ []) H1 Q Ec
  rw [List.append_nil]
  exact ⟨ds, g1, Φ, Ξ, q1.ok, (env.grow q1).tb, d1, h4, out.step q1, ox.step q1⟩
theorem ty_of {K : Fg} {W : Wd} {g : Kn} {H : Hp} {v : V} {d : D} {t : Ty} {r : Bool} (s : Kno g H) (h : Dp K W g v d) (e : isTy d t = some r) : ∃ u, TyX K H v (.type u) ∧ kitB u t.name = some r := by
  cases h with
  | non => exact ⟨_, .base .non, by cases t <;> cases e <;> decide +kernel⟩
  | bl b => exact ⟨_, .base (.bl b), by cases t <;> cases e <;> decide +kernel⟩
  | int i => exact ⟨_, .base (.int i), by cases t <;> cases e <;> decide +kernel⟩
  | str x => exact ⟨_, .base (.str x), by cases t <;> cases e <;> decide +kernel⟩
  | lst h1 h2 =>
    refine ⟨"list", ?_, by cases t <;> cases e <;> decide +kernel⟩
    rcases s.seq h1 with (h | ⟨o, h⟩) | ⟨o, its, n, hk, hc, _⟩
    · exact .base (.lst h)
    · exact .base (.frz h)
    · exact .kList hk hc
  | tup h1 h2 =>
    refine ⟨"tuple", ?_, by cases t <;> cases e <;> decide +kernel⟩
    rcases s.sqt h1 with (h | ⟨o, h⟩) | ⟨o, its, n, hk, hc, _⟩
    · exact .base (.tup h)
    · exact .fTuple h
    · exact .kTuple hk hc
  | obj _ _ _ _ => cases e
  | objC _ _ _ _ _ => cases e
theorem boot_ty (t : Ty) : bootBuiltins (PySem.Str.ofString t.name) = some (.type t.name) := by cases t <;> decide +kernel
theorem ty_plain (t : Ty) : PySem.Str.ofString t.name ≠ "__name__" ∧ (PySem.Str.ofString t.name == ("__debug__" : Str)) = false := by cases t <;> decide +kernel
theorem s_isi (ok : OkX Θ W sc Ec gx X) {t : Ty} {p p2 : Pos} (h1 : glB sc "isinstance" = true) (h2 : ("isinstance" : Str) ∈ Θ.bn) (h3 : glB sc (PySem.Str.ofString t.name) = true) (h4 : PySem.Str.ofString t.name ∈ Θ.bn) (hs : notStar x = true) (ha : PE X x (xD Θ W Ec X a)) :
    PE X (.Call (.Name "isinstance" p) [x, .Name (PySem.Str.ofString t.name) p2] [] pos) (xD Θ W Ec X (.isi a t)) := by
  have ht : PE X (.Name (PySem.Str.ofString t.name) p2) (tC (.ty t.name)) := pe_bltn (ok.gl h3) (ok.blt _ h4) (boot_ty t) rfl (ty_plain t).1 (ty_plain t).2
  refine pe_imp (pe_callB call_isi (ok.gl h1) (ok.blt _ h2) PyProof.Rows.boot_isinstance (pa_cons ha (pa_cons ht pa_nil) (star_cons hs)) (by decide) (by decide) (star_cons hs)) fun σ H Q ⟨ρ, g, Φ, Ξ, env, wp, out, ox⟩ => mkD env wp ox fun ra v g1 H1 h1 q1 d1 => ?_
  split at h1
  · rename_i r e
    obtain ⟨u, ty, hk⟩ := ty_of q1.ok d1 e
    exact ⟨v, .ty t.name, .type u, .type t.name, r, rfl, .ty _, ty, kit_ty hk, (out.step q1).sc q1.ok h1 (.bl _)⟩
  · exact h1.elim
theorem s_mix (ok : OkX Θ W sc Ec gx X) {ap : Pos} (h1 : noCall0 x = true) (h2 : notStar y = true) (hl : (ap.endLine == pos.line) = true) (ha : PE X x (xD Θ W Ec X a)) (hb : PE X y (xD Θ W Ec X b)) : PE X (.Call (.Attribute x "index" ap) [y] [] pos) (xD Θ W Ec X (.mix a b)) := by
  refine pe_imp (pe_bm PySem.F.plainAttrs_list PySem.F.slot_list_index PySem.F.type_list_index (mt_indexD (cline ok)) ha (pa_cons hb pa_nil (star_cons h2)) (attr_base h1) (by rw [star_cons h2]; rfl) hl (star_cons h2)) fun σ H Q ⟨ρ, g, Φ, Ξ, env, wp, out, ox⟩ => mkD env wp ox fun ra v g1 H1 h1 q1 d1 => ?_
  generalize ra.d = da at h1 d1
  cases d1 <;> try exact h1.elim
  rename_i p1 p2
  refine ⟨.inl ⟨rfl, _, q1.ok.seq p1⟩, mkD (env.grow q1) h1 (ox.step q1) fun rb u g2 H2 h3 q2 d2 => ?_⟩
  obtain ⟨s1, s2, j, zz, e1, e2, e3, hf⟩ := h3
  exact ⟨_, u, _, _, j, zz, rfl, rfl, dp_up q2.ok (dp_mono q2.e (.lst p1 p2)) (shaped_lay s1), dp_up q2.ok d2 (shaped_lay s2), s1, s2, e1, e2, e3, (out.step (q1.trans q2)).sc q2.ok hf (.int _)⟩
theorem s_join (ok : OkX Θ W sc Ec gx X) {ap : Pos} (h1 : noCall0 x = true) (h2 : notStar y = true) (hl : (ap.endLine == pos.line) = true) (ha : PE X x (xD Θ W Ec X a)) (hb : PE X y (xD Θ W Ec X b)) : PE X (.Call (.Attribute x "join" ap) [y] [] pos) (xD Θ W Ec X (.join a b)) := by
  refine pe_imp (pe_join ha hb (star_cons h2) (attr_base h1) hl) fun σ H Q ⟨ρ, g, Φ, Ξ, env, wp, out, ox⟩ => mkD env wp ox fun ra v g1 H1 h1 q1 d1 => ?_
  generalize ra.d = da at h1 d1
  cases d1 <;> try exact h1.elim
  rename_i z
  refine ⟨⟨z, rfl⟩, mkD (env.grow q1) h1 (ox.step q1) fun rb u g2 H2 h3 q2 d2 => ?_⟩
  generalize rb.d = db at h3 d2
  cases d2 <;> try exact h3.elim
  · rename_i p xs ds p1 p2
    obtain ⟨ys, e1, e2, hf⟩ := h3
    have e := dpa_strs p2 e1
    subst e
    exact ⟨z, p, ys, rfl, rfl, .inl (q2.ok.seq p1), e2, (out.step (q1.trans q2)).sc q2.ok hf (.str _)⟩
  · rename_i p xs ds p1 p2
    obtain ⟨ys, e1, e2, hf⟩ := h3
    have e := dpa_strs p2 e1
    subst e
    exact ⟨z, p, ys, rfl, rfl, .inr (q2.ok.sqt p1), e2, (out.step (q1.trans q2)).sc q2.ok hf (.str _)⟩
theorem s_isnon {n : Bool} {kk : Nat} {p2 : Pos} (ha : PE X x (xD Θ W Ec X a)) : PE X (.Compare x [if n then .IsNot else .Is] [.Constant .none kk p2] pos) (xD Θ W Ec X (.isnon n a)) := by
  cases n with
  | false =>
    refine pe_imp (pe_cmp (pc_isN ha) rfl) fun σ H Q ⟨ρ, g, Φ, Ξ, env, wp, out, ox⟩ => mkD env wp ox fun ra v g1 H1 h1 q1 d1 => ?_
    generalize ra.d = d at h1 d1
    cases d1 <;> first | exact (out.step q1).sc q1.ok h1 (.bl _) | exact h1.elim
  | true =>
    refine pe_imp (pe_cmp (pc_notN ha) rfl) fun σ H Q ⟨ρ, g, Φ, Ξ, env, wp, out, ox⟩ => mkD env wp ox fun ra v g1 H1 h1 q1 d1 => ?_
    generalize ra.d = d at h1 d1
    cases d1 <;> first | exact (out.step q1).sc q1.ok h1 (.bl _) | exact h1.elim
theorem s_isnonT {n : Bool} {kk : Nat} {p2 : Pos} (ha : PE X x (xD Θ W Ec X a)) : PT X (.Compare x [if n then .IsNot else .Is] [.Constant .none kk p2] pos) (xTs Θ W Ec X (.isnon n a)) := by
  cases n with
  | false =>
    refine pt_imp (pt_cmpR op_isN ha pe_non (nomark _)) fun σ H Q h => ?_
    obtain ⟨ρ, g, Φ, Ξ, env, wp, hb, out, ox⟩ := h
    refine mkD env wp ox fun ra v g1 H1 h1 q1 d1 => ?_
    generalize ra.d = d at h1 d1
    cases d1 <;> first | exact ⟨rfl, _, rfl, out _ g1 H1 h1 q1⟩ | exact h1.elim
  | true =>
    refine pt_imp (pt_cmpR op_notN ha pe_non (nomark _)) fun σ H Q h => ?_
    obtain ⟨ρ, g, Φ, Ξ, env, wp, hb, out, ox⟩ := h
    refine mkD env wp ox fun ra v g1 H1 h1 q1 d1 => ?_
    generalize ra.d = d at h1 d1
    cases d1 <;> first | exact ⟨rfl, _, rfl, out _ g1 H1 h1 q1⟩ | exact h1.elim
end
end PG

namespace PG
open PySem L2
section
variable {Θ : Tb} {W : Wd} {sc : Scope} {Ec : XK} {gx : Bool} {X : Cx} {pos : Pos} {x y z : Expr} {a b c : E}
/-! ### what is one's own is lent -/
theorem lend_env {i : Nat} {e : E} {ρ : List Sl} {g : Kn} {σ : L2.St} {H : Hp} {Φ : R → Prop} {Ξ : Ex} {K : Fg} (env : EnvR K W ρ g σ H) (wp : wpE Θ (.lend i e) Ξ ρ Φ) :
    ∃ ρ' g', EnvR K W ρ' g' σ H ∧ Ext g g' ∧ g'.Z = g.Z ∧ wpE Θ e Ξ ρ' (fun r => scalar r = true ∧ Φ r) := by
  have wp : (match ρ[i]? with | some (.own ds) => wpE Θ e Ξ (ρ.set i (.val (.list ds))) fun r => scalar r = true ∧ Φ r | _ => False) := wp
  split at wp
  · rename_i ds e1
    obtain ⟨p, xs, h1, h2, h3, hz, h4⟩ := env.own i ds e1
    have hi : i < ρ.length := (List.getElem?_eq_some_iff.mp e1).1
    have sG : Ext g (g.put p (.lst xs)) := ext_put h3
    refine ⟨ρ.set i (.val (.list ds)), g.put p (.lst xs), ⟨by rw [List.length_set]; exact env.len, kno_put env.ok h2 hz, env.tb, fun j d hj => ?_, fun j es hj => ?_, fun j k q ds1 ds2 hjk hj hk h5 h6 => ?_⟩, sG, rfl, wp⟩
    · by_cases e : i = j
      · subst e
        rw [List.getElem?_set_self hi] at hj
        cases hj
        exact ⟨_, h1, .lst (.of put_same) (dpa_mono sG h4)⟩
      · rw [List.getElem?_set_ne e] at hj
        obtain ⟨v, q1, q2⟩ := env.val j d hj
        exact ⟨v, q1, dp_mono sG q2⟩
    · by_cases e : i = j
      · subst e
        rw [List.getElem?_set_self hi] at hj
        cases hj
      · rw [List.getElem?_set_ne e] at hj
        obtain ⟨q, ys, q1, q2, q3, q3z, q4⟩ := env.own j es hj
        have ne : q ≠ p := fun z => env.sep i j p ds es e e1 hj h1 (by rw [q1, z])
        exact ⟨q, ys, q1, q2, (by show upd g.G p _ q = none; rw [upd_ne ne]; exact q3), q3z, dpa_mono sG q4⟩
    · have n1 : j ≠ i := fun z => by subst z; rw [List.getElem?_set_self hi] at hj; cases hj
      have n2 : k ≠ i := fun z => by subst z; rw [List.getElem?_set_self hi] at hk; cases hk
      rw [List.getElem?_set_ne (Ne.symm n1)] at hj
      rw [List.getElem?_set_ne (Ne.symm n2)] at hk
      exact env.sep j k q ds1 ds2 hjk hj hk h5 h6
  · exact wp.elim
theorem grow_back {g g' g1 : Kn} {H H1 : Hp} (s : Kno g H) (e : Ext g g') (ez : g'.Z = g.Z) (q : Grow g' H g1 H1) : Grow g H g H1 :=
  ⟨fun a o h z => q.h a o h (by rw [ez]; exact z), Ext.refl g, ⟨fun a o h => q.ok.sub a o (q.e.s a o (e.s a o h)), fun a φ h => ⟨(s.inv a φ h).1, (q.ok.inv a φ (q.e.z a φ (e.z a φ h))).2⟩⟩, (fun a o h n => by rw [n] at h; cases h), (fun a o h n => by rw [n] at h; cases h)⟩
theorem scalar_dp {K : Fg} {Hb : Hp} {g g1 : Kn} {H1 : Hp} {r : R} {v : V} (hs : scalar r = true) (r1 : RRep K W Hb g1 H1 r v) : RRep K W Hb g H1 r v := by
  cases r with
  | args _ => cases hs
  | new _ => cases hs
  | val d =>
    cases d with
    | none => cases (show Dp K W g1 v .none from r1); exact .non
    | bool b => cases (show Dp K W g1 v (.bool b) from r1); exact .bl b
    | int n => cases (show Dp K W g1 v (.int n) from r1); exact .int n
    | str z => cases (show Dp K W g1 v (.str z) from r1); exact .str z
    | list _ => cases hs
    | tuple _ => cases hs
    | dict _ => cases hs
theorem ox_back {mg : Str → Option Value} {g g' : Kn} {H : Hp} {Ξ : Ex} {E : XK} (s : Kno g H) (e : Ext g g') (ez : g'.Z = g.Z) (ox : OutX mg g H Ξ E) : OutX mg g' H Ξ E := fun n C g1 H1 h m q => ox n C g H1 h m (grow_back s e ez q)
theorem s_lend {i : Nat} {e : E} (h : PE X x (xD Θ W Ec X e)) : PE X x (xD Θ W Ec X (.lend i e)) := by
  refine pe_imp h fun σ H Q ⟨ρ, g, Φ, Ξ, env, wp, out, ox⟩ => ?_
  obtain ⟨ρ', g', env', e', ez, wp'⟩ := lend_env env wp
  exact ⟨ρ', g', _, Ξ, env', wp', fun r v g1 H1 hr q1 r1 => out r v g H1 hr.2 (grow_back env.ok e' ez q1) (scalar_dp hr.1 r1), ox_back env.ok e' ez ox⟩
theorem s_lendT {i : Nat} {e : E} (h : PT X x (xTs Θ W Ec X e)) : PT X x (xTs Θ W Ec X (.lend i e)) := by
  refine pt_imp h fun σ H Q ⟨ρ, g, Φ, Ξ, env, wp, hb, out, ox⟩ => ?_
  obtain ⟨ρ', g', env', e', ez, wp'⟩ := lend_env env wp
  exact ⟨ρ', g', _, Ξ, env', wp', fun r hr => hb r hr.2, fun k g1 H1 hr q1 => out k g H1 hr.2 (grow_back env.ok e' ez q1), ox_back env.ok e' ez ox⟩

/-! ### built-in functions -/
def CallOk (K : Fg) (W : Wd) (r : List V → Hp → VK → Prop) (w : List D → (R → Prop) → Prop) : Prop := ∀ vs g H ds Φ Q, Kno g H → DpAll K W g vs ds → w ds Φ → Out K W g H Φ Q → r vs H Q
theorem len_ok : ∃ r, CallR X (.builtin "len") r ∧ CallOk X.K W r lenW := by
  refine ⟨_, call_len_seq.or call_len_str, fun vs g H ds Φ Q s hv h o => ?_⟩
  cases hv with
  | nil => exact h.elim
  | cons h1 h2 => cases h2 with
    | cons _ _ => cases h1 <;> exact h.elim
    | nil =>
      cases h1 <;> try exact h.elim
      · exact .inr ⟨_, rfl, h.1, o.sc s h.2 (.int _)⟩
      · rename_i q1 q2; exact .inl ⟨_, _, rfl, .inl (s.seq q1), by rw [dpa_len q2]; exact o.sc s h (.int _)⟩
      · rename_i q1 q2; exact .inl ⟨_, _, rfl, .inr (s.sqt q1), by rw [dpa_len q2]; exact o.sc s h (.int _)⟩
theorem list_ok : ∃ r, CallR X (.type "list") r ∧ CallOk X.K W r listW := by
  refine ⟨_, call_list_of, fun vs g H ds Φ Q s hv h o => ?_⟩
  cases hv with
  | nil => exact h.elim
  | cons h1 h2 => cases h2 with
    | cons _ _ => cases h1 <;> exact h.elim
    | nil =>
      cases h1 <;> try exact h.elim
      · rename_i q1 q2; exact ⟨_, _, rfl, .inl (s.seq q1), o.nl s h q2⟩
      · rename_i q1 q2; exact ⟨_, _, rfl, .inr (s.sqt q1), o.nl s h q2⟩
theorem tuple_ok : ∃ r, CallR X (.type "tuple") r ∧ CallOk X.K W r tupleW := by
  refine ⟨_, call_tuple_of, fun vs g H ds Φ Q s hv h o => ?_⟩
  cases hv with
  | nil => exact h.elim
  | cons h1 h2 => cases h2 with
    | cons _ _ => cases h1 <;> exact h.elim
    | nil =>
      cases h1 <;> try exact h.elim
      · rename_i q1 q2; exact ⟨_, _, rfl, .inl ⟨s.seq q1, o.nt s h q2⟩⟩
      · rename_i q1 q2; exact ⟨_, _, rfl, .inr ⟨s.sqt q1, o.sc s h (.tup q1 q2)⟩⟩
theorem int_ok : ∃ r, CallR X (.type "int") r ∧ CallOk X.K W r intW := by
  refine ⟨_, call_int1, fun vs g H ds Φ Q s hv h o => ?_⟩
  cases hv with
  | nil => exact h.elim
  | cons h1 h2 => cases h2 with
    | cons _ _ => cases h1 <;> exact h.elim
    | nil =>
      cases h1 <;> try exact h.elim
      · exact .inr ⟨_, rfl, o.sc s h (.int _)⟩
      · exact .inl ⟨_, rfl, o.sc s h (.int _)⟩
theorem abs_ok : ∃ r, CallR X (.builtin "abs") r ∧ CallOk X.K W r absW := by
  refine ⟨_, call_abs, fun vs g H ds Φ Q s hv h o => ?_⟩
  cases hv with
  | nil => exact h.elim
  | cons h1 h2 => cases h2 with
    | cons _ _ => cases h1 <;> exact h.elim
    | nil =>
      cases h1 <;> try exact h.elim
      exact ⟨_, rfl, o.sc s h (.int _)⟩
theorem min2_ok (hc : X.calm = true) : ∃ r, CallR X (.builtin "min") r ∧ CallOk X.K W r min2W := by
  refine ⟨_, call_min2 hc, fun vs g H ds Φ Q s hv h o => ?_⟩
  cases hv with
  | nil => exact h.elim
  | cons h1 h2 => cases h2 with
    | nil => cases h1 <;> exact h.elim
    | cons h3 h4 => cases h4 with
      | cons _ _ => cases h1 <;> cases h3 <;> exact h.elim
      | nil =>
        cases h1 <;> cases h3 <;> try exact h.elim
        exact ⟨_, _, rfl, o.sc s h (.int _)⟩
theorem max2_ok (hc : X.calm = true) : ∃ r, CallR X (.builtin "max") r ∧ CallOk X.K W r max2W := by
  refine ⟨_, call_max2 hc, fun vs g H ds Φ Q s hv h o => ?_⟩
  cases hv with
  | nil => exact h.elim
  | cons h1 h2 => cases h2 with
    | nil => cases h1 <;> exact h.elim
    | cons h3 h4 => cases h4 with
      | cons _ _ => cases h1 <;> cases h3 <;> exact h.elim
      | nil =>
        cases h1 <;> cases h3 <;> try exact h.elim
        exact ⟨_, _, rfl, o.sc s h (.int _)⟩
theorem blt_core {r : List V → Hp → VK → Prop} {w : List D → (R → Prop) → Prop} {f : Bf} (hW : bltW f = w) (hw : CallOk X.K W r w) {σ : L2.St} {H : Hp} {Q : VK} (h : xD Θ W Ec X (.blt f a) σ H Q) : tCB r (xAr Θ W Ec X a) σ H Q := by
  obtain ⟨ρ, g, Φ, Ξ, env, wp, out, ox⟩ := h
  exact mkA env wp ox fun ds vs g1 H1 h1 q1 d1 => hw vs g1 H1 ds Φ Q q1.ok d1 (by rw [← hW]; exact h1) (out.step q1)
theorem s_blt (ok : OkX Θ W sc Ec gx X) {f : Bf} {p : Pos} {es : List Expr} (h1 : glB sc f.name = true) (h2 : f.name ∈ Θ.bn) (hs : (x :: es).all notStar = true) (ha : PA X (x :: es) (xAr Θ W Ec X a)) : PE X (.Call (.Name f.name p) (x :: es) [] pos) (xD Θ W Ec X (.blt f a)) := by
  have hs' := hs
  rw [List.all_cons, Bool.and_eq_true] at hs'
  have e1 : starEach (x :: es) X.env = (false, eval x X.env) :: starEach es X.env := star_cons hs'.1
  have e2 : (backTo pos (starEach es X.env)).any (·.1) = false := star_any hs'.2
  have gl := ok.gl h1
  have mg := ok.blt _ h2
  cases f with
  | len => obtain ⟨r, hr, hw⟩ := len_ok (X := X) (W := W); exact pe_imp (pe_callB hr gl mg PySem.boot_len ha (by decide) (by decide) e1 e2) fun σ H Q h => blt_core rfl hw h
  | list => obtain ⟨r, hr, hw⟩ := list_ok (X := X) (W := W); exact pe_imp (pe_callTy hr gl mg PyProof.Rows.boot_list ha (by decide) (by decide) e1 e2) fun σ H Q h => blt_core rfl hw h
  | tuple => obtain ⟨r, hr, hw⟩ := tuple_ok (X := X) (W := W); exact pe_imp (pe_callTy hr gl mg PyProof.Rows.boot_tuple ha (by decide) (by decide) e1 e2) fun σ H Q h => blt_core rfl hw h
  | int => obtain ⟨r, hr, hw⟩ := int_ok (X := X) (W := W); exact pe_imp (pe_callTy hr gl mg PyProof.Rows.boot_int ha (by decide) (by decide) e1 e2) fun σ H Q h => blt_core rfl hw h
  | abs => obtain ⟨r, hr, hw⟩ := abs_ok (X := X) (W := W); exact pe_imp (pe_callB hr gl mg (by decide +kernel) ha (by decide) (by decide) e1 e2) fun σ H Q h => blt_core rfl hw h
  | sum => exact pe_imp (pe_callB (X := X) (r := fun _ _ _ => False) (fun _ _ _ _ _ _ _ _ _ h => h.elim) gl mg PyProof.Rows.boot_sum ha (by decide) (by decide) e1 e2) fun σ H Q h => blt_core (f := .sum) (w := fun _ _ => False) rfl (fun _ _ _ _ _ _ _ _ h _ => h) h
  | min2 => obtain ⟨r, hr, hw⟩ := min2_ok (X := X) (W := W) ok.calm; exact pe_imp (pe_callB hr gl mg PyProof.Rows.boot_min ha (by decide) (by decide) e1 e2) fun σ H Q h => blt_core rfl hw h
  | max2 => obtain ⟨r, hr, hw⟩ := max2_ok (X := X) (W := W) ok.calm; exact pe_imp (pe_callB hr gl mg PyProof.Rows.boot_max ha (by decide) (by decide) e1 e2) fun σ H Q h => blt_core rfl hw h

/-! ### what is walked -/
theorem dpa_inv {K : Fg} {W : Wd} {g : Kn} : ∀ {vs : List V} {ds : List D} {n : Nat} {v : V}, DpAll K W g vs ds → vs[n]? = some v → ∃ d, ds[n]? = some d ∧ Dp K W g v d
  | _, _, n, _, .nil, h => by simp at h
  | _, _, 0, _, .cons a _, h => by simp at h; subst h; exact ⟨_, rfl, a⟩
  | _, _, n + 1, v, .cons _ b, h => by
    obtain ⟨d, h1, h2⟩ := dpa_inv (n := n) (v := v) b (by simpa using h)
    exact ⟨d, by simpa using h1, h2⟩
def iSeq (K : Fg) (tl : TE) : TI := fun σ H P => tl σ H fun x H1 => ∃ a, x = .ref a ∧ ((∃ xs, SqL K H1 a xs ∧ P (Itl K a) H1) ∨ ∃ xs, SqT K H1 a xs ∧ P (Itt K a) H1)
theorem pi_seq {tg l : Expr} {tl : TE} (hl : PE X l tl) : PI X tg l (iSeq X.K tl) := by
  refine ⟨fun pins s σ H R I h => ?_⟩
  refine thn (hl.run pins s σ H _ I h) fun v s1 ⟨x, H1, I1, r1, q1⟩ => ?_
  obtain ⟨a, e, q⟩ := q1
  subst e
  cases r1
  rcases q with ⟨xs, hq, q⟩ | ⟨xs, hq, q⟩
  · obtain ⟨its, rv, p, hz⟩ := I1.list hq
    refine wpAny_pyIter_list p.isList ?_
    refine ⟨s1.heap.objs.size, [s1.heap.objs.size], _, _, H1, rfl, I1.kept (t' := s1.toks) fun b o e => Heap.get?_push_of_some _ e, turn_list a _, ⟨_, Heap.get?_push_size _ rfl, rfl, rfl⟩, fun b hb => ?_, q⟩
    have e : b = s1.heap.objs.size := by simpa using hb
    subst e
    exact I1.fpOk (Nat.le_refl _) (I1.hok.fresh (Nat.le_refl _))
  · obtain ⟨its, rv, p, hz⟩ := I1.tuple hq
    refine wpAny_pyIter_tuple (show s1.heap.IsTuple a its.toArray from p) ?_
    refine ⟨s1.heap.objs.size, [s1.heap.objs.size], _, _, H1, rfl, I1.kept (t' := s1.toks) fun b o e => Heap.get?_push_of_some _ e, turn_tuple a _, ⟨_, Heap.get?_push_size _ rfl, rfl, rfl⟩, fun b hb => ?_, q⟩
    have e : b = s1.heap.objs.size := by simpa using hb
    subst e
    exact I1.fpOk (Nat.le_refl _) (I1.hok.fresh (Nat.le_refl _))
theorem s_pi {tg : Expr} {e : E} (h : PE X x (xD Θ W Ec X e)) : PI X tg x (xIt Θ W Ec X e) := by
  refine pi_imp (pi_seq h) fun σ H P ⟨ρ, g, Φ, Ξ, env, wp, hit, out, ox⟩ => mkD env wp ox fun r v g1 H1 h1 q1 d1 => ?_
  obtain ⟨xs, hx⟩ := hit r h1
  have go : ∀ J, WalkD X.K W J xs g1 → P J H1 := fun J w => out r xs g1 H1 J h1 hx q1 w
  have key : r.d = .list xs ∨ r.d = .tuple xs := by
    cases r with
    | new ds => cases hx; exact .inl rfl
    | args ds => cases hx
    | val d => cases d <;> cases hx <;> first | exact .inl rfl | exact .inr rfl
  generalize r.d = d at d1 key
  rcases key with rfl | rfl
  · cases d1 with
    | lst p1 p2 =>
      rename_i p vs
      refine ⟨p, rfl, .inl ⟨vs, q1.ok.seq p1, go _ ?_⟩⟩
      unfold WalkD
      rw [← dpa_len p2]
      refine walk_list.mono (fun H h => Same.seq h p1) fun i H v H' hi h hy => ?_
      intro gc s1 s2
      obtain ⟨rfl, hv⟩ := hy
      obtain ⟨d, e1, e2⟩ := dpa_inv p2 hv
      exact ⟨d, gc, e1, .refl s2, dp_mono s1 e2⟩
  · cases d1 with
    | tup p1 p2 =>
      rename_i p vs
      refine ⟨p, rfl, .inr ⟨vs, q1.ok.sqt p1, go _ ?_⟩⟩
      unfold WalkD
      rw [← dpa_len p2]
      refine walk_tup.mono (fun H h => sqt_mono h p1) fun i H v H' hi h hy => ?_
      intro gc s1 s2
      obtain ⟨rfl, hv⟩ := hy
      obtain ⟨d, e1, e2⟩ := dpa_inv p2 hv
      exact ⟨d, gc, e1, .refl s2, dp_mono s1 e2⟩
theorem rng_walk {K : Fg} {W : Wd} {lo : Int} {n : Nat} {g : Kn} : WalkD K W (Itr lo n) (rngL lo n) g := by
  unfold WalkD
  have e : (rngL lo n).length = n := by unfold rngL; rw [List.length_map, List.length_range]
  rw [e]
  refine walk_range.mono (fun _ _ => True.intro) fun i H v H' hi h hy => ?_
  intro gc s1 s2
  obtain ⟨rfl, rfl⟩ := hy
  refine ⟨.int (lo + i), gc, ?_, .refl s2, .int _⟩
  unfold rngL
  rw [List.getElem?_map, List.getElem?_range hi]
  rfl
theorem s_rng1 (ok : OkX Θ W sc Ec gx X) {tg : Expr} {p : Pos} (h1 : glB sc "range" = true) (h2 : ("range" : Str) ∈ Θ.bn) (hs : notStar x = true) (ha : PE X x (xD Θ W Ec X a)) : PI X tg (.Call (.Name "range" p) [x] [] pos) (xIt Θ W Ec X (.rng1 a)) := by
  refine pi_imp (pi_range1 (ok.gl h1) (ok.blt _ h2) (pa_cons ha pa_nil (star_cons hs)) (star_cons hs)) fun σ H P ⟨ρ, g, Φ, Ξ, env, wp, hit, out, ox⟩ => mkD env wp ox fun r v g1 H1 h1 q1 d1 => ?_
  generalize r.d = d at d1 h1
  cases d1 <;> try exact h1.elim
  obtain ⟨⟨b1, b2⟩, h1⟩ := h1
  exact ⟨_, rfl, b1, b2, out _ _ g1 H1 _ h1 rfl q1 rng_walk⟩
theorem s_rng2 (ok : OkX Θ W sc Ec gx X) {tg : Expr} {p : Pos} (h1 : glB sc "range" = true) (h2 : ("range" : Str) ∈ Θ.bn) (hs : notStar x = true) (hs2 : notStar y = true) (ha : PE X x (xD Θ W Ec X a)) (hb : PE X y (xD Θ W Ec X b)) : PI X tg (.Call (.Name "range" p) [x, y] [] pos) (xIt Θ W Ec X (.rng2 a b)) := by
  refine pi_imp (pi_range2 (ok.gl h1) (ok.blt _ h2) (pa_cons ha (pa_cons hb pa_nil (star_cons hs2)) (star_cons hs)) (by rw [star_cons hs, star_cons hs2]; rfl) (star_cons hs2)) fun σ H P ⟨ρ, g, Φ, Ξ, env, wp, hit, out, ox⟩ =>
    mkD env wp ox fun r v g1 H1 h1 q1 d1 => mkD (env.grow q1) h1 (ox.step q1) fun r' v' g2 H2 h3 q2 d2 => ?_
  generalize r.d = d at d1 h3
  generalize r'.d = d' at d2 h3
  cases d1 <;> cases d2 <;> try exact h3.elim
  obtain ⟨b1, h3⟩ := h3
  exact ⟨_, _, rfl, b1, out _ _ g2 H2 _ h3 rfl (q1.trans q2) rng_walk⟩
theorem intsOf_cons {d : D} {ds : List D} {ys : List Int} (h : intsOf (d :: ds) = some ys) : ∃ x zs, d = .int x ∧ intsOf ds = some zs ∧ ys = x :: zs := by
  unfold intsOf at h
  split at h
  · rename_i e; cases e
  · rename_i x r e
    cases e
    cases q : intsOf ds with
    | none => rw [q] at h; cases h
    | some zs => rw [q] at h; cases h; exact ⟨x, zs, rfl, rfl, rfl⟩
  · cases h
theorem dpa_ints {K : Fg} {W : Wd} {g : Kn} : ∀ {ds : List D} {vs : List V} {ns : List Int}, DpAll K W g vs ds → intsOf ds = some ns → vs = ns.map V.int
  | [], _, _, .nil, h => by simp only [intsOf, Option.some.injEq] at h; subst h; rfl
  | d :: r, _, ys, .cons a b, h => by
    obtain ⟨x, zs, rfl, h2, rfl⟩ := intsOf_cons h
    cases a
    rw [List.map_cons, dpa_ints b h2]
theorem ints_dpa {K : Fg} {W : Wd} {g : Kn} : ∀ zs : List Int, DpAll K W g (zs.map V.int) (zs.map .int)
  | [] => .nil
  | z :: zs => .cons (.int z) (ints_dpa zs)
theorem s_sset (ok : OkX Θ W sc Ec gx X) {p p2 q : Pos} (h1 : glB sc "sorted" = true) (h2 : ("sorted" : Str) ∈ Θ.bn) (h3 : glB sc "set" = true) (h4 : ("set" : Str) ∈ Θ.bn) (hs : notStar x = true) (ha : PE X x (xD Θ W Ec X a)) :
    PE X (.Call (.Name "sorted" p) [.Call (.Name "set" p2) [x] [] q] [] pos) (xD Θ W Ec X (.sset a)) := by
  refine pe_imp (pe_sortSetT ok.calm (ok.gl h1) (ok.blt _ h2) (ok.gl h3) (ok.blt _ h4) ha (star_cons hs)) fun σ H Q ⟨ρ, g, Φ, Ξ, env, wp, out, ox⟩ => mkD env wp ox fun r v g1 H1 h1 q1 d1 => ?_
  obtain ⟨ds, ns, es, e, hl, h1⟩ := h1
  generalize r.d = d at d1 es
  cases d1 <;> cases es
  · rename_i l vs p1 p2
    refine ⟨l, ns, rfl, .inl (by rw [← dpa_ints p2 e]; exact q1.ok.seq p1), hl, fun r zs z1 z2 n => ?_⟩
    exact (out.step q1).nl q1.ok (h1 zs z1 z2) (ints_dpa zs) r n
  · rename_i l vs p1 p2
    refine ⟨l, ns, rfl, .inr (by rw [← dpa_ints p2 e]; exact q1.ok.sqt p1), hl, fun r zs z1 z2 n => ?_⟩
    exact (out.step q1).nl q1.ok (h1 zs z1 z2) (ints_dpa zs) r n
theorem s_srt (ok : OkX Θ W sc Ec gx X) {p : Pos} (h1 : glB sc "sorted" = true) (h2 : ("sorted" : Str) ∈ Θ.bn) (hs : notStar x = true) (ha : PE X x (xD Θ W Ec X a)) :
    PE X (.Call (.Name "sorted" p) [x] [] pos) (xD Θ W Ec X (.srt a)) := by
  refine pe_imp (pe_callB cr_sortedI (ok.gl h1) (ok.blt _ h2) PyProof.Rows.boot_sorted (pa_cons ha pa_nil (star_cons hs)) (by decide) (by decide) (star_cons hs) rfl) fun σ H Q ⟨ρ, g, Φ, Ξ, env, wp, out, ox⟩ => mkD env wp ox fun r v g1 H1 h1 q1 d1 => ?_
  generalize r.d = d at d1 h1
  cases d1 <;> try exact h1.elim
  rename_i l vs ds p1 p2
  obtain ⟨ns, e, h1⟩ := h1
  exact ⟨l, ns, rfl, by rw [← dpa_ints p2 e]; exact q1.ok.seq p1, fun zs p z1 z2 n => (out.step q1).nl q1.ok (h1 zs z1 z2) (ints_dpa zs) p n⟩
theorem rg_dpa {K : Fg} {W : Wd} {g : Kn} {i j : Int} : DpAll K W g (rgV i j) (rngL i (j - i).toNat) := by
  unfold rgV rngL
  generalize (j - i).toNat = n
  generalize List.range n = l
  induction l with
  | nil => exact .nil
  | cons k l ih => exact .cons (.int _) ih
theorem s_lrg1 (ok : OkX Θ W sc Ec gx X) {p p2 q : Pos} (h1 : glB sc "list" = true) (h2 : ("list" : Str) ∈ Θ.bn) (h3 : glB sc "range" = true) (h4 : ("range" : Str) ∈ Θ.bn) (hs : notStar x = true) (ha : PE X x (xD Θ W Ec X a)) :
    PE X (.Call (.Name "list" p) [.Call (.Name "range" p2) [x] [] q] [] pos) (xD Θ W Ec X (.lrg1 a)) := by
  refine pe_imp (pe_listRg ok.calm (ok.gl h1) (ok.blt _ h2) (prg_1 (ok.gl h3) (ok.blt _ h4) ha (star_cons hs)) rfl) fun σ H Q ⟨ρ, g, Φ, Ξ, env, wp, out, ox⟩ => mkD env wp ox fun r v g1 H1 h1 q1 d1 => ?_
  generalize r.d = d at d1 h1
  cases d1 <;> try exact h1.elim
  rename_i j
  obtain ⟨⟨b1, b2⟩, h1⟩ := h1
  refine ⟨j, rfl, RgOk.of_le (by omega) b2 (by omega) b1, fun r n => ?_⟩
  exact (out.step q1).nl q1.ok h1 (by have := rg_dpa (K := X.K) (W := W) (g := g1) (i := 0) (j := j); rwa [Int.sub_zero] at this) r n
theorem s_trg1 (ok : OkX Θ W sc Ec gx X) {p p2 q : Pos} (h1 : glB sc "tuple" = true) (h2 : ("tuple" : Str) ∈ Θ.bn) (h3 : glB sc "range" = true) (h4 : ("range" : Str) ∈ Θ.bn) (hs : notStar x = true) (ha : PE X x (xD Θ W Ec X a)) :
    PE X (.Call (.Name "tuple" p) [.Call (.Name "range" p2) [x] [] q] [] pos) (xD Θ W Ec X (.trg1 a)) := by
  refine pe_imp (pe_tupRg ok.calm (ok.gl h1) (ok.blt _ h2) (prg_1 (ok.gl h3) (ok.blt _ h4) ha (star_cons hs)) rfl) fun σ H Q ⟨ρ, g, Φ, Ξ, env, wp, out, ox⟩ => mkD env wp ox fun r v g1 H1 h1 q1 d1 => ?_
  generalize r.d = d at d1 h1
  cases d1 <;> try exact h1.elim
  rename_i j
  obtain ⟨⟨b1, b2⟩, h1⟩ := h1
  refine ⟨j, rfl, RgOk.of_le (by omega) b2 (by omega) b1, fun r n => ?_⟩
  exact (out.step q1).nt q1.ok h1 (by have := rg_dpa (K := X.K) (W := W) (g := g1) (i := 0) (j := j); rwa [Int.sub_zero] at this) r n
theorem s_lrg2 (ok : OkX Θ W sc Ec gx X) {p p2 q : Pos} (h1 : glB sc "list" = true) (h2 : ("list" : Str) ∈ Θ.bn) (h3 : glB sc "range" = true) (h4 : ("range" : Str) ∈ Θ.bn) (hs : notStar x = true) (hs2 : notStar y = true) (ha : PE X x (xD Θ W Ec X a)) (hb : PE X y (xD Θ W Ec X b)) :
    PE X (.Call (.Name "list" p) [.Call (.Name "range" p2) [x, y] [] q] [] pos) (xD Θ W Ec X (.lrg2 a b)) := by
  refine pe_imp (pe_listRg ok.calm (ok.gl h1) (ok.blt _ h2) (prg_2 (ok.gl h3) (ok.blt _ h4) ha hb (star_cons hs) (star_cons hs2) (hp := star_any (es := [y]) (by simp [hs2]))) rfl) fun σ H Q ⟨ρ, g, Φ, Ξ, env, wp, out, ox⟩ =>
    mkD env wp ox fun r v g1 H1 h1 q1 d1 => mkD (env.grow q1) h1 (ox.step q1) fun r' v' g2 H2 h3 q2 d2 => ?_
  generalize r.d = d at d1 h3
  generalize r'.d = d' at d2 h3
  cases d1 <;> cases d2 <;> try exact h3.elim
  obtain ⟨⟨b1, b2, b3, b4⟩, h3⟩ := h3
  refine ⟨_, _, rfl, rfl, RgOk.of_le b1 b4 b2 b3, fun r n => ?_⟩
  exact (out.step (q1.trans q2)).nl q2.ok h3 rg_dpa r n
theorem s_enm (ok : OkX Θ W sc Ec gx X) {p tp : Pos} {elts : List Expr} {kk : Nat} (h1 : glB sc "enumerate" = true) (h2 : ("enumerate" : Str) ∈ Θ.bn) (hs : notStar x = true) (ha : PE X x (xD Θ W Ec X a)) : PI X (.Tuple elts kk tp) (.Call (.Name "enumerate" p) [x] [] pos) (xIt Θ W Ec X (.enm a)) := by
  refine pi_imp (pi_enum (ok.gl h1) (ok.blt _ h2) (pa_cons ha pa_nil (star_cons hs)) (star_cons hs)) fun σ H P ⟨ρ, g, Φ, Ξ, env, wp, hit, out, ox⟩ => mkD env wp ox fun r v g1 H1 h1 q1 d1 => ?_
  generalize r.d = d at d1 h1
  cases d1 <;> try exact h1.elim
  rename_i l vs ds p1 p2
  refine ⟨l, vs, rfl, q1.ok.seq p1, out _ _ g1 H1 _ h1 rfl q1 ?_⟩
  have e : (enmL ds).length = vs.length := by unfold enmL; rw [List.length_map, List.length_range, dpa_len p2]
  unfold WalkD
  rw [e]
  refine walk_enum.mono (fun H h => Same.seq h p1) fun i H v H' hi h hy => ?_
  intro gc s1 s2
  obtain ⟨T, u, z, rfl, nT, rfl, hu, hz⟩ := hy
  cases hu
  obtain ⟨d, e1, e2⟩ := dpa_inv p2 hz
  refine ⟨.tuple [.int (i : Nat), d], _, ?_, grow_tup s2 nT, .tup (.inl (.inl put_same)) (.cons (.int _) (.cons (dp_mono (s1.trans (ext_put (s2.freeG nT))) e2) .nil))⟩
  unfold enmL
  rw [List.getElem?_map, List.getElem?_range (by rw [← dpa_len p2]; exact hi)]
  show some (PyData.tuple [.int (i : Nat), ds.getD i .none]) = _
  rw [List.getD_eq_getElem?_getD, e1]
  rfl
end
end PG

namespace PG
open PySem L2

/-! ### slots set and forgotten -/
section
variable {K : Fg} {W : Wd} {ρ ρ' : List Sl} {g g' : Kn} {H H' : Hp} {σ : L2.St}
theorem env_set (e : EnvR K W ρ g σ H) {v : V} {d : D} (h : Dp K W g v d) (i : Nat) : EnvR K W (ρ.set i (.val d)) g (σ.set i (some v)) H := by
  have key : ∀ {j : Nat} {x : Sl}, (ρ.set i (.val d))[j]? = some x → (j = i ∧ x = .val d ∧ i < ρ.length) ∨ (j ≠ i ∧ ρ[j]? = some x) := fun {j x} hj => by
    by_cases q : i = j
    · subst q
      by_cases hi : i < ρ.length
      · rw [List.getElem?_set_self hi] at hj; cases hj; exact .inl ⟨rfl, rfl, hi⟩
      · rw [List.getElem?_eq_none (by simpa using hi)] at hj; cases hj
    · rw [List.getElem?_set_ne q] at hj; exact .inr ⟨Ne.symm q, hj⟩
  refine ⟨by rw [List.length_set, List.length_set]; exact e.len, e.ok, e.tb, fun j d' hj => ?_, fun j ds hj => ?_, fun j k a ds es hjk hj hk h5 h6 => ?_⟩
  · rcases key hj with ⟨rfl, q, hi⟩ | ⟨q, hj⟩
    · cases q
      exact ⟨v, List.getElem?_set_self (by rw [e.len]; exact hi), h⟩
    · obtain ⟨w, q1, q2⟩ := e.val j d' hj
      exact ⟨w, by rw [List.getElem?_set_ne (Ne.symm q)]; exact q1, q2⟩
  · rcases key hj with ⟨rfl, q, hi⟩ | ⟨q, hj⟩
    · cases q
    · obtain ⟨w, xs, q1, q2⟩ := e.own j ds hj
      exact ⟨w, xs, by rw [List.getElem?_set_ne (Ne.symm q)]; exact q1, q2⟩
  · rcases key hj with ⟨_, q, _⟩ | ⟨q, hj⟩
    · cases q
    rcases key hk with ⟨_, q, _⟩ | ⟨q2, hk⟩
    · cases q
    rw [List.getElem?_set_ne (Ne.symm q)] at h5
    rw [List.getElem?_set_ne (Ne.symm q2)] at h6
    exact e.sep j k a ds es hjk hj hk h5 h6
/-- some slots are known less of -/
theorem env_weak (e : EnvR K W ρ g σ H) {σ' : L2.St} (hl : σ'.length = ρ'.length) (w : ∀ (j : Nat) (x : Sl), ρ'[j]? = some x → x = .un ∨ (ρ[j]? = some x ∧ σ'[j]? = σ[j]?)) : EnvR K W ρ' g σ' H := by
  refine ⟨hl, e.ok, e.tb, fun j d' hj => ?_, fun j ds hj => ?_, fun j k a ds es hjk hj hk h5 h6 => ?_⟩
  · rcases w j _ hj with q | ⟨q1, q2⟩
    · cases q
    · rw [q2]; exact e.val j d' q1
  · rcases w j _ hj with q | ⟨q1, q2⟩
    · cases q
    · rw [q2]; exact e.own j ds q1
  · rcases w j _ hj with q | ⟨q1, q2⟩
    · cases q
    rcases w k _ hk with q | ⟨q3, q4⟩
    · cases q
    rw [q2] at h5
    rw [q4] at h6
    exact e.sep j k a ds es hjk q1 q3 h5 h6
theorem env_un (e : EnvR K W ρ g σ H) (i : Nat) (y : Option V) : EnvR K W (ρ.set i .un) g (σ.set i y) H := by
  refine env_weak e (by rw [List.length_set, List.length_set]; exact e.len) fun j x hj => ?_
  by_cases q : i = j
  · subst q
    by_cases hi : i < ρ.length
    · rw [List.getElem?_set_self hi] at hj; cases hj; exact .inl rfl
    · rw [List.getElem?_eq_none (by simpa using hi)] at hj; cases hj
  · rw [List.getElem?_set_ne q] at hj
    exact .inr ⟨hj, List.getElem?_set_ne q⟩
theorem env_wipe (e : EnvR K W ρ g σ H) : ∀ vs : List Nat, EnvR K W (wipeR ρ vs) g (wipe σ vs) H
  | [] => e
  | v :: vs => env_un (env_wipe e vs) v none
theorem wipe_set_core (σ : L2.St) (i : Nat) (y : Option V) : ∀ vs : List Nat, (wipe (σ.set i y) vs).set i none = (wipe σ vs).set i none
  | [] => by unfold wipe; rw [List.set_set]
  | v :: vs => by
    unfold wipe
    by_cases q : v = i
    · subst q; rw [List.set_set, List.set_set]; exact wipe_set_core σ v y vs
    · rw [List.set_comm _ _ q, List.set_comm (a := none) (b := none) (l := wipe σ vs) q, wipe_set_core σ i y vs]
theorem wipe_set (σ : L2.St) {i : Nat} (y : Option V) : ∀ {vs : List Nat}, i ∈ vs → wipe (σ.set i y) vs = wipe σ vs
  | v :: vs, h => by
    unfold wipe
    by_cases q : v = i
    · subst q; exact wipe_set_core σ v y vs
    · rw [wipe_set σ y ((List.mem_cons.mp h).resolve_left fun z => q z.symm)]
end

/-! ### targets -/
def gMany : List Nat → TGs
  | [] => gNil
  | i :: is => gCons (gName i) (gMany is)
def gT (K : Fg) : Tg → TG
  | .one i => gName i
  | .many is => gTup K is.length (gMany is)
section
variable {Θ : Tb} {W : Wd} {sc : Scope} {Ec : XK} {gx : Bool} {X : Cx} {pos : Pos} {x y z : Expr} {a b c : E}
theorem s_name (ok : OkX Θ W sc Ec gx X) {cell : Bool} (hf : cell = true → ∀ n, X.fn n = true) {i : Nat} (h : mName Θ.N sc cell i x = true) : PG X x (gName i) := by
  unfold mName at h
  split at h
  · rename_i n p
    simp only [Bool.and_eq_true, Bool.or_eq_true, decide_eq_true_eq] at h
    obtain ⟨h1, h2⟩ := h
    rcases h2 with h2 | ⟨h2, h3⟩
    · exact pg_name ok.nd (by rw [ok.N]; exact h1) (.inl (by rw [ok.sc]; exact h2)) (.inr (by rw [ok.sc]; exact h2))
    · exact pg_name ok.nd (by rw [ok.N]; exact h1) (.inr (by rw [ok.sc]; exact h3)) (.inl (hf h2 n))
  · cases h
theorem s_names (ok : OkX Θ W sc Ec gx X) {cell : Bool} (hf : cell = true → ∀ n, X.fn n = true) : ∀ {is : List Nat} {es : List Expr}, mNames Θ.N sc cell is es = true → PGs X es (gMany is) ∧ es.length = is.length ∧ (assignEach es X.env).length = is.length ∧ (assignEach es X.env).findIdx? (·.1) = none
  | [], [], _ => ⟨pgs_nil, rfl, rfl, rfl⟩
  | i :: is, e :: es, h => by
    unfold mNames at h
    rw [Bool.and_eq_true] at h
    obtain ⟨q1, q2, q3, q4⟩ := s_names ok hf h.2
    have h1 := s_name ok hf h.1
    have he := h.1
    unfold mName at he
    split at he
    · rename_i n p
      refine ⟨pgs_cons h1 q1, by rw [List.length_cons, List.length_cons, q2], ?_, ?_⟩
      · show (assignEach es X.env).length + 1 = is.length + 1
        rw [q3]
      · show List.findIdx? _ ((false, _) :: assignEach es X.env) = none
        rw [List.findIdx?_cons, q4]
        rfl
    · cases he
  | [], _ :: _, h => by simp [mNames] at h
  | _ :: _, [], h => by simp [mNames] at h
theorem s_tg (ok : OkX Θ W sc Ec gx X) {cell : Bool} (hf : cell = true → ∀ n, X.fn n = true) {tg : Tg} (h : mTg Θ.N sc cell tg x = true) : PG X x (gT X.K tg) := by
  unfold mTg at h
  split at h
  · exact s_name ok hf h
  · rename_i is es k p
    obtain ⟨q1, q2, q3, q4⟩ := s_names ok hf h
    exact pg_tup ok.calm q1 q3 q4
  · cases h
theorem run_many {K : Fg} {W : Wd} {Q : L2.St → Hp → Prop} : ∀ {is : List Nat} {ρ ρ' : List Sl} {g : Kn} {H : Hp} {σ : L2.St} {vs : List V} {ds : List D}, EnvR K W ρ g σ H → DpAll K W g vs ds → setMany ρ is ds = some ρ' →
    (∀ σ', EnvR K W ρ' g σ' H → (∀ ws : List Nat, (∀ i ∈ is, i ∈ ws) → wipe σ' ws = wipe σ ws) → Q σ' H) → gMany is vs σ H Q
  | [], ρ, ρ', g, H, σ, vs, ds, e, hv, hs, q => by
    cases ds with
    | cons _ _ => cases hs
    | nil => cases hs; cases hv; exact ⟨rfl, q σ e fun _ _ => rfl⟩
  | i :: is, ρ, ρ', g, H, σ, vs, ds, e, hv, hs, q => by
    cases ds with
    | nil => cases hs
    | cons d ds =>
      cases hv with
      | cons h1 h2 =>
        refine ⟨_, _, rfl, ?_⟩
        refine run_many (env_set e h1 i) h2 hs fun σ' e' hw => q σ' e' fun ws hi => ?_
        rw [hw ws fun j hj => hi j (List.mem_cons_of_mem _ hj)]
        exact wipe_set σ _ (hi i List.mem_cons_self)
theorem setMany_len : ∀ {is : List Nat} {ρ ρ' : List Sl} {ds : List D}, setMany ρ is ds = some ρ' → is.length = ds.length
  | [], _, _, [], _ => rfl
  | i :: is, _, _, d :: ds, h => by rw [List.length_cons, List.length_cons, setMany_len (ds := ds) h]
  | [], _, _, _ :: _, h => by cases h
  | _ :: _, _, _, [], h => by cases h
theorem run_tg {K : Fg} {W : Wd} {tg : Tg} {ρ ρ' : List Sl} {g : Kn} {H : Hp} {σ : L2.St} {v : V} {d : D} {Q : L2.St → Hp → Prop} (e : EnvR K W ρ g σ H) (hv : Dp K W g v d) (hs : bindT tg ρ d = some ρ')
    (q : ∀ σ', EnvR K W ρ' g σ' H → (∀ ws : List Nat, (∀ i ∈ tg.slots, i ∈ ws) → wipe σ' ws = wipe σ ws) → Q σ' H) : gT K tg v σ H Q := by
  cases tg with
  | one i =>
    cases hs
    exact q _ (env_set e hv i) fun ws hi => wipe_set σ _ (hi i (List.mem_singleton.mpr rfl))
  | many is =>
    cases hv with
    | tup h1 h2 =>
      have hl := setMany_len (show setMany ρ is _ = some ρ' from hs)
      exact ⟨_, _, rfl, e.ok.sqt h1, by rw [dpa_len h2, hl], run_many e h2 hs q⟩
    | _ => cases hs

/-! ### comprehensions -/
theorem wipe_wipe (σ : L2.St) : ∀ vs : List Nat, (∀ ws : List Nat, (∀ i ∈ vs, i ∈ ws) → wipe (wipe σ vs) ws = wipe σ ws)
  | [], _, _ => rfl
  | v :: vs, ws, h => by
    show wipe ((wipe σ vs).set v none) ws = wipe σ ws
    rw [wipe_set _ _ (h v List.mem_cons_self)]
    exact wipe_wipe σ vs ws fun i hi => h i (List.mem_cons_of_mem _ hi)
def tCd (Θ : Tb) (W : Wd) (Ec : XK) (K : Fg) (mg : Str → Option Value) (c : E) : TT := match c with
  | .yes => tYes
  | c => tTs Θ W Ec K mg c
theorem s_lc {own : List (Str × Nat)} {tg : Tg} {it c elt : E} {σ : L2.St} {H : Hp} {Q : VK} (hsub : ∀ i ∈ tg.slots, i ∈ own.map (·.2))
    (h : xD Θ W Ec X (.comp own tg it c elt) σ H Q) : tLc (xIt Θ W Ec X it) (gT X.K tg) (tCd Θ W E0 X.K X.mg c) (xD Θ W E0 X elt) (own.map (·.2)) σ H Q := by
  obtain ⟨ρ, g, Φ, Ξ, env, wp, out, ox⟩ := h
  refine ⟨ρ, g, _, Ξ, env, wp, fun r hr => let ⟨xs, h1, _⟩ := hr; ⟨xs, h1⟩, fun r xs g1 H1 J h1 hx q1 w => ?_, ox⟩
  obtain ⟨xs', hx', h1⟩ := h1
  rw [hx] at hx'
  cases hx'
  intro L nL
  have out1 := out.step q1
  have env1 := env.grow q1
  refine lc_it w (fun i Hc => ∃ gc acc dacc, Grow g1 H1 gc Hc ∧ Hc L = some (.lst acc) ∧ gc.G L = none ∧ gc.Z L = none ∧ DpAll X.K W gc acc dacc ∧
    compW (bindW tg (wipeR ρ (own.map (·.2)))) (fun ρ' k => wpE Θ c noEx ρ' k) (fun ρ' k => wpE Θ elt noEx ρ' k) (xs.drop i) dacc Φ) ?_ ?_ ?_ ?_
  · exact ⟨g1, [], [], grow_hid q1.ok nL, upd_same, q1.ok.freeG nL, q1.ok.freeZ nL, .nil, h1⟩
  · rintro i Hc _ ⟨gc, acc, dacc, q, _⟩
    exact q.e.s.trans q.ok.sub
  · rintro i x Hc Hc' hi ⟨gc, acc, dacc, q, hL, nG, nZ, ha, hw⟩ hy
    obtain ⟨d, g2, hd, q2, hv⟩ := hy gc q.e q.ok
    have hi' : i < xs.length := hi
    have ed : xs[i] = d := by rw [List.getElem?_eq_getElem hi'] at hd; exact Option.some.inj hd
    rw [List.drop_eq_getElem_cons hi', ed] at hw
    obtain ⟨ρ', hb, hw⟩ := hw
    have gg : Grow g1 H1 g2 Hc' := q.trans q2
    refine run_tg (env_wipe (env1.grow gg) (own.map (·.2))) hv hb fun σ2 e2 hwp => ⟨by rw [hwp _ hsub, wipe_wipe _ _ _ fun _ z => z], ?_⟩
    have body : ∀ (k : Bool) (g3 : Kn) (H3 : Hp), Grow g2 Hc' g3 H3 → (match k with
        | true => wpE Θ elt noEx ρ' fun y => dacc.length < sizeLine ∧ compW (bindW tg (wipeR ρ (own.map (·.2)))) (fun ρ' k => wpE Θ c noEx ρ' k) (fun ρ' k => wpE Θ elt noEx ρ' k) (xs.drop (i + 1)) (dacc ++ [y.d]) Φ
        | false => compW (bindW tg (wipeR ρ (own.map (·.2)))) (fun ρ' k => wpE Θ c noEx ρ' k) (fun ρ' k => wpE Θ elt noEx ρ' k) (xs.drop (i + 1)) dacc Φ) →
        (if k = true then xD Θ W E0 X elt σ2 H3 fun y H4 => ∃ acc, H4 L = some (.lst acc) ∧ acc.length < sizeLine ∧ ∃ gc acc' dacc, Grow g1 H1 gc (upd H4 L (.lst (acc ++ [y]))) ∧ upd H4 L (.lst (acc ++ [y])) L = some (.lst acc') ∧ gc.G L = none ∧ gc.Z L = none ∧ DpAll X.K W gc acc' dacc ∧
            compW (bindW tg (wipeR ρ (own.map (·.2)))) (fun ρ' k => wpE Θ c noEx ρ' k) (fun ρ' k => wpE Θ elt noEx ρ' k) (xs.drop (i + 1)) dacc Φ
          else ∃ gc acc dacc, Grow g1 H1 gc H3 ∧ H3 L = some (.lst acc) ∧ gc.G L = none ∧ gc.Z L = none ∧ DpAll X.K W gc acc dacc ∧
            compW (bindW tg (wipeR ρ (own.map (·.2)))) (fun ρ' k => wpE Θ c noEx ρ' k) (fun ρ' k => wpE Θ elt noEx ρ' k) (xs.drop (i + 1)) dacc Φ) := by
      intro k g3 H3 q3 hk
      have n2 : g2.G L = none := q2.hid nG hL
      have z2 : g2.Z L = none := q2.hidZ nZ hL
      have L2' : Hc' L = some (.lst acc) := q2.h _ _ hL nZ
      have n3 : g3.G L = none := q3.hid n2 L2'
      have z3 : g3.Z L = none := q3.hidZ z2 L2'
      have L3 : H3 L = some (.lst acc) := q3.h _ _ L2' z2
      have d3 : DpAll X.K W g3 acc dacc := dpa_mono (q2.trans q3).e ha
      cases k with
      | false =>
        rw [if_neg Bool.false_ne_true]
        exact ⟨g3, acc, dacc, gg.trans q3, L3, n3, z3, d3, hk⟩
      | true =>
        rw [if_pos rfl]
        refine mkD (e2.grow q3) hk OutX.none fun r y g5 H4 hr q5 d5 => ?_
        have L4 : H4 L = some (.lst acc) := q5.h _ _ L3 z3
        have n5 : g5.G L = none := q5.hid n3 L3
        have z5 : g5.Z L = none := q5.hidZ z3 L3
        have gg5 : Grow g1 H1 g5 H4 := (gg.trans q3).trans q5
        refine ⟨acc, L4, by rw [dpa_len d3]; exact hr.1, g5, acc ++ [y], dacc ++ [r.d], ⟨fun b o q z => ?_, gg5.e, ⟨fun b o q => ?_, fun b φ q => ?_⟩, gg5.new, gg5.newZ⟩, upd_same, n5, z5, dpa_app (dpa_mono q5.e d3) (.cons d5 .nil), hr.2⟩
        · rw [upd_ne (ne_of_none q nL)]; exact gg5.h b o q z
        · rw [upd_ne (ne_of_none q n5)]; exact gg5.ok.sub b o q
        · obtain ⟨h1, o, h2, h3⟩ := gg5.ok.inv b φ q
          have nb : b ≠ L := fun e => by rw [e, z5] at q; cases q
          exact ⟨h1, o, by rw [upd_ne nb]; exact h2, h3⟩
    unfold tCd
    split
    · exact body true g2 Hc' (.refl q2.ok) hw
    · refine mkT e2 hw OutX.none (fun r hr => boolW_bl hr) fun k g3 H3 hk q3 => body k g3 H3 q3 ?_
      cases k with
      | true => exact hk
      | false => exact hk
  · rintro Hc ⟨gc, acc, dacc, q, hL, nG, nZ, ha, hw⟩
    rw [List.drop_length] at hw
    exact out1 _ _ gc Hc hw q ⟨L, acc, rfl, hL, nG, nZ, nL, ha⟩
/-- all(..), any(..) -/
theorem s_gx {fin : Bool} {own : List (Str × Nat)} {tg : Tg} {it elt : E} {σ : L2.St} {H : Hp} {Q : VK} {P : Addr} (hsub : ∀ i ∈ tg.slots, i ∈ own.map (·.2)) (hP : P ∈ W.tb)
    (h : xD Θ W Ec X (.gen fin own tg it elt) σ H Q) : QG.tGx P (xIt Θ W Ec X it) (gT X.K tg) (xD Θ W E0 X elt) (own.map (·.2)) fin σ H Q := by
  obtain ⟨ρ, g, Φ, Ξ, env, wp, out, ox⟩ := h
  refine ⟨ρ, g, _, Ξ, env, wp, fun r hr => let ⟨xs, h1, _⟩ := hr; ⟨xs, h1⟩, fun r xs g1 H1 J h1 hx q1 w => ?_, ox⟩
  obtain ⟨xs', hx', h1⟩ := h1
  rw [hx] at hx'
  cases hx'
  have out1 := out.step q1
  have env1 := env.grow q1
  have zP := env1.tb P hP
  obtain ⟨nGP, o, hoP, ps, rfl, tk⟩ := env1.ok.inv P _ zP
  refine ⟨⟨ps, hoP, tk⟩, fun H2 hT => ?_⟩
  have qT : Grow g1 H1 g1 H2 := by
    refine ⟨fun a o h z => ?_, Ext.refl _, ⟨fun a o h => ?_, fun a φ h => ?_⟩, (fun a o h n => by rw [n] at h; cases h), (fun a o h n => by rw [n] at h; cases h)⟩
    · have na : a ≠ P := fun e => by rw [e, zP] at z; cases z
      rw [hT.2 a na]; exact h
    · have na : a ≠ P := fun e => by rw [e, nGP] at h; cases h
      rw [hT.2 a na]; exact env1.ok.sub a o h
    · by_cases e : a = P
      · subst e
        rw [zP] at h
        cases h
        obtain ⟨ps', h1, h2⟩ := hT.1
        exact ⟨nGP, _, h1, ps', rfl, h2⟩
      · obtain ⟨i1, o, i2, i3⟩ := env1.ok.inv a φ h
        exact ⟨i1, o, by rw [hT.2 a e]; exact i2, i3⟩
  refine ⟨fun i m Hc => i + m = xs.length ∧ ∃ gc, Grow g1 H1 gc Hc ∧ genW fin (bindW tg (wipeR ρ (own.map (·.2)))) (fun ρ' k => wpE Θ elt noEx ρ' k) (xs.drop i) Φ, ⟨xs.length, Nat.zero_add _, g1, qT, h1⟩, ?_⟩
  rintro i m Hc ⟨him, gc, q, hw⟩
  by_cases hi : i < xs.length
  · refine .inr ⟨w.goes i Hc hi (q.e.s.trans q.ok.sub), fun x H' hy => ?_⟩
    obtain ⟨d, g2, hd, q2, hv⟩ := w.yields i Hc x H' hi (q.e.s.trans q.ok.sub) hy gc q.e q.ok
    have ed : xs[i] = d := by rw [List.getElem?_eq_getElem hi] at hd; exact Option.some.inj hd
    rw [List.drop_eq_getElem_cons hi, ed] at hw
    obtain ⟨ρ', hb, hw⟩ := hw
    have gg : Grow g1 H1 g2 H' := q.trans q2
    refine run_tg (env_wipe (env1.grow gg) (own.map (·.2))) hv hb fun σ2 e2 hwp => ⟨by rw [hwp _ hsub, wipe_wipe _ _ _ fun _ z => z], ?_⟩
    refine mkB e2 hw OutX.none (fun r hr => let ⟨c, e, _⟩ := hr; ⟨c, e⟩) fun b g3 H3 hb3 q3 => ⟨b, rfl, ?_⟩
    obtain ⟨c, e, hb3⟩ := hb3
    cases e
    by_cases eb : b = fin
    · rw [if_pos eb] at hb3 ⊢
      exact ⟨m - 1, by omega, by omega, g3, gg.trans q3, hb3⟩
    · rw [if_neg eb] at hb3 ⊢
      exact out1 _ _ g3 H3 hb3 (gg.trans q3) (.bl b)
  · have he : i = xs.length := by omega
    subst he
    rw [List.drop_length] at hw
    exact .inl ⟨w.stops Hc (q.e.s.trans q.ok.sub), out1 _ _ gc Hc hw q (.bl fin)⟩
theorem blk_ok {N : List Str} {sc scope : Scope} {own : List (Str × Nat)} (h : blkB N sc scope own = true) : BlkOk N sc scope own := by
  unfold blkB at h
  simp only [Bool.and_eq_true, decide_eq_true_eq, List.all_eq_true, Bool.or_eq_true, Bool.not_eq_true', decide_eq_false_iff_not, Bool.or_eq_false_iff] at h
  obtain ⟨⟨⟨⟨h1, h2⟩, h3⟩, h4⟩, h5⟩ := h
  refine ⟨h1, h2, h3, fun y hy e => ?_, fun y hy e => ?_⟩
  · rcases h4 y hy with (q | q) | q
    · exact absurd e q
    · exact .inl q
    · exact .inr q
  · rcases h5 y hy with (q | q) | q
    · rcases e with e | e
      · exact absurd e q.1
      · exact absurd e q.2
    · exact .inl q
    · exact .inr q
theorem s_comp (ok : OkX Θ W sc Ec gx X) {own : List (Str × Nat)} {tg : Tg} {it c elt : E} {tge iter el : Expr} {ifs : List Expr} {scope : Scope} (hb : blkB Θ.N sc scope own = true) (htg : mTg Θ.N (relS scope sc) false tg tge = true) (hsub : ∀ i ∈ tg.slots, i ∈ own.map (·.2)) (hns : notSet iter = true)
    (hi : PI X tge iter (xIt Θ W Ec X it)) (ht : ∀ (X' : Cx), X'.K = X.K → X'.mg = X.mg → OkX Θ W (relS scope sc) E0 false X' → PTs X' ifs (tCd Θ W E0 X'.K X'.mg c)) (he : ∀ (X' : Cx), X'.K = X.K → X'.mg = X.mg → OkX Θ W (relS scope sc) E0 false X' → PE X' el (xD Θ W E0 X' elt)) :
    PE X (.ListComp el [⟨tge, iter, ifs, 0⟩] scope pos) (xD Θ W Ec X (.comp own tg it c elt)) := by
  refine pe_imp (pe_lc (tt := tCd Θ W E0 X.K X.mg c) (te := xD Θ W E0 X elt) (g := gT X.K tg) ok.calm ok.nd hi (by rw [ok.N, ok.sc]; exact blk_ok hb)
    (fun s H C cl fp => s_tg (X := X.blk s H scope (compEnvC scope cl C X.env) fp) (ok.blk s H C cl fp) (fun z => by cases z) htg)
    (fun s H C cl fp => ht (X.blk s H scope (compEnvC scope cl C X.env) fp) rfl rfl (ok.blk s H C cl fp))
    (fun s H C cl fp => he (X.blk s H scope (compEnvC scope cl C X.env) fp) rfl rfl (ok.blk s H C cl fp)) (fun _ => fold_set hns)) fun σ H Q h => s_lc hsub h
theorem gx_nocell {scope : Scope} (h : gxB scope = true) : (∀ y ∈ scope.names, y.2 ≠ .cell) ∧ scope.isCoroutine = false ∧ scope.names.lookup (".0" : Str) = some NameKind.local := by
  unfold gxB at h
  simp only [Bool.and_eq_true, Bool.not_eq_true', List.all_eq_true, decide_eq_true_eq, decide_eq_false_iff_not] at h
  exact ⟨h.1.1, h.1.2, h.2⟩
theorem fold_gen {iter : Expr} {env : Env} {v : Value} (h : notSet iter = true) (h2 : notList iter = true) : genFold iter env v = pure v := by
  cases iter <;> first | rfl | (cases h; done) | (cases h2; done)
theorem s_gen (ok : OkX Θ W sc Ec true X) {fin : Bool} {own : List (Str × Nat)} {tg : Tg} {it elt : E} {tge iter el : Expr} {scope : Scope} {p gp : Pos} (hgl : glB sc (gxN fin) = true) (hbn : gxN fin ∈ Θ.bn) (hb : blkB Θ.N sc scope own = true) (hgx : gxB scope = true) (htg : mTg Θ.N scope false tg tge = true) (hsub : ∀ i ∈ tg.slots, i ∈ own.map (·.2)) (hns : notSet iter = true) (hnl : notList iter = true)
    (hi : PI X tge iter (xIt Θ W Ec X it)) (he : ∀ (X' : Cx), X'.K = X.K → X'.mg = X.mg → OkX Θ W scope E0 false X' → PE X' el (xD Θ W E0 X' elt)) :
    PE X (.Call (.Name (gxN fin) p) [.GeneratorExp el [⟨tge, iter, [], 0⟩] scope gp] [] pos) (xD Θ W Ec X (.gen fin own tg it elt)) := by
  obtain ⟨c, P, hc, TB, hP⟩ := ok.tab rfl
  obtain ⟨n1, n2, n3⟩ := gx_nocell hgx
  cases fin with
  | true =>
    refine pe_imp (QG.pe_all (g := gT X.K tg) (te := xD Θ W E0 X elt) ok.room ok.calm ok.nd (ok.gl hgl) (ok.blt _ hbn) TB hc (by rw [ok.N, ok.sc]; exact blk_ok hb) n1 n2 n3 hi
      (fun s H cenv fp pn hce => s_tg (X := QG.gxc X (X.A.in1.in1.deeper cenv) s H cenv fp pn) (ok.gxc s H cenv fp pn hce) (fun z => by cases z) htg)
      (fun s H cenv fp pn hce => he (QG.gxc X (X.A.in1.in1.deeper cenv) s H cenv fp pn) rfl rfl (ok.gxc s H cenv fp pn hce)) (fun v => fold_gen hns hnl)) fun σ H Q h => s_gx hsub hP h
  | false =>
    refine pe_imp (QG.pe_any (g := gT X.K tg) (te := xD Θ W E0 X elt) ok.room ok.calm ok.nd (ok.gl hgl) (ok.blt _ hbn) TB hc (by rw [ok.N, ok.sc]; exact blk_ok hb) n1 n2 n3 hi
      (fun s H cenv fp pn hce => s_tg (X := QG.gxc X (X.A.in1.in1.deeper cenv) s H cenv fp pn) (ok.gxc s H cenv fp pn hce) (fun z => by cases z) htg)
      (fun s H cenv fp pn hce => he (QG.gxc X (X.A.in1.in1.deeper cenv) s H cenv fp pn) rfl rfl (ok.gxc s H cenv fp pn hce)) (fun v => fold_gen hns hnl)) fun σ H Q h => s_gx hsub hP h
end
end PG

namespace PG
open PySem L2
def isL : E → Bool
  | .enil | .econs _ _ => true
  | _ => false
def isR : E → Bool
  | .rng1 _ | .rng2 _ _ | .enm _ => true
  | _ => false
def isBO : E → Bool
  | .and_ _ _ | .or_ _ _ | .one _ => true
  | _ => false
/-- may stand as a test -/
def isTs : E → Bool
  | .enil | .econs _ _ | .rng1 _ | .rng2 _ _ | .enm _ | .ite _ _ _ | .nop | .yes => false
  | .and_ a b => isTs a && isBO b && isTs b
  | .or_ a b => isTs a && isBO b && isTs b
  | .one a => isTs a
  | .not_ a => isTs a
  | .lend _ e => isTs e
  | _ => true
structure Snd (Θ : Tb) (W : Wd) (Ec : XK) (X : Cx) (e' : E) (es : List Expr) : Prop where
  pe : isL e' = false → isR e' = false → ∀ e, es = [e] → PE X e (xD Θ W Ec X e')
  pa : isL e' = true → PA X es (xAr Θ W Ec X e')
  pi : isL e' = false → ∀ e tg, (isEn e' = true → isTup tg = true) → es = [e] → PI X tg e (xIt Θ W Ec X e')
  pw : isBO e' = true → isTs e' = true → ∀ e, es = [e] → PW X e (xTs Θ W Ec X e')
  pt : isTs e' = true → ∀ e, es = [e] → PT X e (xTs Θ W Ec X e')
section
variable {Θ : Tb} {W : Wd} {sc : Scope} {Ec : XK} {X : Cx} {e' : E} {e : Expr} {es : List Expr}
theorem Snd.plain (hl : isL e' = false) (hb : isBO e' = false) (hp : plainT e = true) (h : PE X e (xD Θ W Ec X e')) : Snd Θ W Ec X e' [e] where
  pe := fun _ _ x q => by cases q; exact h
  pa := fun q => by rw [hl] at q; cases q
  pi := fun _ x tg _ q => by cases q; exact s_pi h
  pw := fun q => by rw [hb] at q; cases q
  pt := fun _ x q => by cases q; exact s_plainT hp h
theorem Snd.bo (hl : isL e' = false) (h : PE X e (xD Θ W Ec X e')) (hw : isTs e' = true → PW X e (xTs Θ W Ec X e')) : Snd Θ W Ec X e' [e] where
  pe := fun _ _ x q => by cases q; exact h
  pa := fun q => by rw [hl] at q; cases q
  pi := fun _ x tg _ q => by cases q; exact s_pi h
  pw := fun _ t x q => by cases q; exact hw t
  pt := fun t x q => by cases q; exact (hw t).pt
theorem Snd.tst (hl : isL e' = false) (hb : isBO e' = false) (h : PE X e (xD Θ W Ec X e')) (ht : isTs e' = true → PT X e (xTs Θ W Ec X e')) : Snd Θ W Ec X e' [e] where
  pe := fun _ _ x q => by cases q; exact h
  pa := fun q => by rw [hl] at q; cases q
  pi := fun _ x tg _ q => by cases q; exact s_pi h
  pw := fun q => by rw [hb] at q; cases q
  pt := fun t x q => by cases q; exact ht t
theorem Snd.args (hl : isL e' = true) (hs : isTs e' = false) (h : PA X es (xAr Θ W Ec X e')) : Snd Θ W Ec X e' es where
  pe := fun q => by rw [hl] at q; cases q
  pa := fun _ => h
  pi := fun q => by rw [hl] at q; cases q
  pw := fun _ q => by rw [hs] at q; cases q
  pt := fun q => by rw [hs] at q; cases q
theorem Snd.rng (hr : isR e' = true) (hl : isL e' = false) (hs : isTs e' = false) (h : ∀ tg, (isEn e' = true → isTup tg = true) → PI X tg e (xIt Θ W Ec X e')) : Snd Θ W Ec X e' [e] where
  pe := fun _ q => by rw [hr] at q; cases q
  pa := fun q => by rw [hl] at q; cases q
  pi := fun _ x tg t q => by cases q; exact h tg t
  pw := fun _ q => by rw [hs] at q; cases q
  pt := fun q => by rw [hs] at q; cases q
end
/-- sorts: what stands where a value is wanted is no list of values and no range -/
def okS : E → Bool
  | .bin _ a b | .cmp _ a b | .and_ a b | .or_ a b | .ix a b | .mix a b | .join a b | .rng2 a b => !isL a && !isR a && !isL b && !isR b && okS a && okS b
  | .lrg2 a b => !isL a && !isR a && !isL b && !isR b && okS a && okS b
  | .chain _ _ a b c => !isL a && !isR a && !isL b && !isR b && !isL c && !isR c && okS a && okS b && okS c
  | .gen _ _ _ it elt => !isL it && okS it && !isL elt && !isR elt && okS elt
  | .neg a | .one a | .not_ a | .isi a _ | .rng1 a | .sset a | .srt a | .lrg1 a | .trg1 a | .isnon _ a | .enm a => !isL a && !isR a && okS a
  | .ite c a b => !isL c && !isR c && isTs c && !isL a && !isR a && !isL b && !isR b && okS c && okS a && okS b
  | .sl a b c => !isL c && !isR c && !isL a && !isR a && !isL b && !isR b && okS c && okS a && okS b
  | .tup a | .lst a | .call _ a | .blt _ a => isL a && okS a
  | .econs a r => !isL a && !isR a && okS a && isL r && okS r
  | .comp _ _ it c elt => !isL it && okS it && (isYes c || (isTs c && okS c)) && !isL elt && !isR elt && okS elt
  | .lend _ e => !isL e && !isR e && okS e
  | _ => true
theorem sound {Θ : Tb} {W : Wd} : ∀ (e' : E) (Ec : XK) (gx : Bool) (sc : Scope) (es : List Expr) (X : Cx), OkX Θ W sc Ec gx X → okS e' = true → mE Θ.st e' gx sc es = true → Snd Θ W Ec X e' es := by
  intro e'
  induction e' with
  | var i =>
    intro Ec gx sc es X ok hs h
    unfold mE at h
    split at h
    · simp only [Bool.and_eq_true, decide_eq_true_eq] at h
      exact .plain rfl rfl rfl (s_var ok h.1.1 h.1.2 h.2)
    · cases h
  | int i =>
    intro Ec gx sc es X ok hs h
    unfold mE at h
    split at h
    · simp only [decide_eq_true_eq] at h
      subst h
      exact .plain rfl rfl rfl s_int
    · cases h
  | bl i =>
    intro Ec gx sc es X ok hs h
    unfold mE at h
    split at h
    · simp only [decide_eq_true_eq] at h
      subst h
      exact .plain rfl rfl rfl s_bl
    · cases h
  | str i =>
    intro Ec gx sc es X ok hs h
    unfold mE at h
    split at h
    · simp only [decide_eq_true_eq] at h
      subst h
      exact .plain rfl rfl rfl s_str
    · cases h
  | non =>
    intro Ec gx sc es X ok hs h
    unfold mE at h
    split at h
    · exact .plain rfl rfl rfl s_non
    · cases h
  | con j =>
    intro Ec gx sc es X ok hs h
    unfold mE at h
    split at h
    · simp only [Bool.and_eq_true] at h
      obtain ⟨⟨h1, h2⟩, h3⟩ := h
      have h1 : (Θ.κ.map (·.1))[j]? = some _ := of_decide_eq_true h1
      rw [List.getElem?_map] at h1
      cases e : Θ.κ[j]? with
      | none => rw [e] at h1; cases h1
      | some p => rw [e] at h1; exact .plain rfl rfl rfl (s_con ok e (Option.some.inj h1) h2 h3)
    · cases h
  | bin op a b iha ihb =>
    intro Ec gx sc es X ok hs h
    unfold mE at h
    simp only [okS, Bool.and_eq_true, Bool.not_eq_true'] at hs
    split at h
    · simp only [Bool.and_eq_true, decide_eq_true_eq] at h
      obtain ⟨⟨rfl, h1⟩, h2⟩ := h
      exact .plain rfl rfl rfl (s_bin ((iha Ec gx sc _ X ok hs.1.2 h1).pe hs.1.1.1.1.1 hs.1.1.1.1.2 _ rfl) ((ihb Ec gx sc _ X ok hs.2 h2).pe hs.1.1.1.2 hs.1.1.2 _ rfl))
    · cases h
  | neg a iha =>
    intro Ec gx sc es X ok hs h
    unfold mE at h
    simp only [okS, Bool.and_eq_true, Bool.not_eq_true'] at hs
    split at h
    · exact .plain rfl rfl rfl (s_neg ((iha Ec gx sc _ X ok hs.2 h).pe hs.1.1 hs.1.2 _ rfl))
    · cases h
  | cmp op a b iha ihb =>
    intro Ec gx sc es X ok hs h
    unfold mE at h
    simp only [okS, Bool.and_eq_true, Bool.not_eq_true'] at hs
    split at h
    · simp only [Bool.and_eq_true, decide_eq_true_eq, Bool.not_eq_true'] at h
      obtain ⟨⟨⟨rfl, h3⟩, h1⟩, h2⟩ := h
      have p1 := (iha Ec gx sc _ X ok hs.1.2 h1).pe hs.1.1.1.1.1 hs.1.1.1.1.2 _ rfl
      have p2 := (ihb Ec gx sc _ X ok hs.2 h2).pe hs.1.1.1.2 hs.1.1.2 _ rfl
      exact .tst rfl rfl (s_cmp ok h3 p1 p2) fun _ => s_cmpT ok h3 p1 p2
    · cases h
  | and_ a b iha ihb =>
    intro Ec gx sc es X ok hs h
    unfold mE at h
    simp only [okS, Bool.and_eq_true, Bool.not_eq_true'] at hs
    split at h
    · simp only [Bool.and_eq_true] at h
      have s1 := iha Ec gx sc _ X ok hs.1.2 h.1
      have s2 := ihb Ec gx sc _ X ok hs.2 h.2
      refine .bo rfl (s_and (s1.pe hs.1.1.1.1.1 hs.1.1.1.1.2 _ rfl) (s2.pe hs.1.1.1.2 hs.1.1.2 _ rfl)) fun t => ?_
      simp only [isTs, Bool.and_eq_true] at t
      exact s_andW (s1.pt t.1.1 _ rfl) (s2.pw t.1.2 t.2 _ rfl)
    · cases h
  | or_ a b iha ihb =>
    intro Ec gx sc es X ok hs h
    unfold mE at h
    simp only [okS, Bool.and_eq_true, Bool.not_eq_true'] at hs
    split at h
    · simp only [Bool.and_eq_true] at h
      have s1 := iha Ec gx sc _ X ok hs.1.2 h.1
      have s2 := ihb Ec gx sc _ X ok hs.2 h.2
      refine .bo rfl (s_or (s1.pe hs.1.1.1.1.1 hs.1.1.1.1.2 _ rfl) (s2.pe hs.1.1.1.2 hs.1.1.2 _ rfl)) fun t => ?_
      simp only [isTs, Bool.and_eq_true] at t
      exact s_orW (s1.pt t.1.1 _ rfl) (s2.pw t.1.2 t.2 _ rfl)
    · cases h
  | one a iha =>
    intro Ec gx sc es X ok hs h
    unfold mE at h
    simp only [okS, Bool.and_eq_true, Bool.not_eq_true'] at hs
    split at h
    · have s1 := iha Ec gx sc _ X ok hs.2 h
      exact .bo rfl (s_one (s1.pe hs.1.1 hs.1.2 _ rfl)) fun t => s_oneW (s1.pt t _ rfl)
    · cases h
  | not_ a iha =>
    intro Ec gx sc es X ok hs h
    unfold mE at h
    simp only [okS, Bool.and_eq_true, Bool.not_eq_true'] at hs
    split at h
    · have s1 := iha Ec gx sc _ X ok hs.2 h
      exact .tst rfl rfl (s_not (s1.pe hs.1.1 hs.1.2 _ rfl)) fun t => s_notT (s1.pt t _ rfl)
    · cases h
  | ite c a b ihc iha ihb =>
    intro Ec gx sc es X ok hs h
    unfold mE at h
    simp only [okS, Bool.and_eq_true, Bool.not_eq_true'] at hs
    obtain ⟨⟨⟨⟨⟨⟨⟨⟨⟨c1, c2⟩, c3⟩, a1⟩, a2⟩, b1⟩, b2⟩, c4⟩, a4⟩, b4⟩ := hs
    split at h
    · simp only [Bool.and_eq_true] at h
      exact .tst rfl rfl (s_ite ((ihc Ec gx sc _ X ok c4 h.1.1).pt c3 _ rfl) ((iha Ec gx sc _ X ok a4 h.1.2).pe a1 a2 _ rfl) ((ihb Ec gx sc _ X ok b4 h.2).pe b1 b2 _ rfl)) fun t => by cases t
    · cases h
  | tup a iha =>
    intro Ec gx sc es X ok hs h
    unfold mE at h
    simp only [okS, Bool.and_eq_true] at hs
    split at h
    · exact .plain rfl rfl rfl (s_tup ((iha Ec gx sc _ X ok hs.2 h).pa hs.1))
    · cases h
  | lst a iha =>
    intro Ec gx sc es X ok hs h
    unfold mE at h
    simp only [okS, Bool.and_eq_true] at hs
    split at h
    · exact .plain rfl rfl rfl (s_lst ((iha Ec gx sc _ X ok hs.2 h).pa hs.1))
    · cases h
  | enil =>
    intro Ec gx sc es X ok hs h
    unfold mE at h
    split at h
    · exact .args rfl rfl s_nil
    · cases h
  | econs a r iha ihr =>
    intro Ec gx sc es X ok hs h
    unfold mE at h
    simp only [okS, Bool.and_eq_true, Bool.not_eq_true'] at hs
    split at h
    · simp only [Bool.and_eq_true] at h
      exact .args rfl rfl (s_cons h.1.1 ((iha Ec gx sc _ X ok hs.1.1.2 h.1.2).pe hs.1.1.1.1 hs.1.1.1.2 _ rfl) ((ihr Ec gx sc _ X ok hs.2 h.2).pa hs.1.2))
    · cases h
  | ix a b iha ihb =>
    intro Ec gx sc es X ok hs h
    unfold mE at h
    simp only [okS, Bool.and_eq_true, Bool.not_eq_true'] at hs
    split at h
    · simp only [Bool.and_eq_true] at h
      exact .plain rfl rfl rfl (s_ix h.1.1 ((iha Ec gx sc _ X ok hs.1.2 h.1.2).pe hs.1.1.1.1.1 hs.1.1.1.1.2 _ rfl) ((ihb Ec gx sc _ X ok hs.2 h.2).pe hs.1.1.1.2 hs.1.1.2 _ rfl))
    · cases h
  | sl a lo hi iha ihl ihh =>
    intro Ec gx sc es X ok hs h
    unfold mE at h
    simp only [okS, Bool.and_eq_true, Bool.not_eq_true'] at hs
    obtain ⟨⟨⟨⟨⟨⟨⟨⟨c1, c2⟩, a1⟩, a2⟩, b1⟩, b2⟩, c4⟩, a4⟩, b4⟩ := hs
    split at h
    · rename_i x l hh p2 p
      simp only [Bool.and_eq_true] at h
      refine .plain rfl rfl rfl (s_sl ((iha Ec gx sc _ X ok a4 h.1.1).pe a1 a2 _ rfl) ?_ ?_)
      · have q := h.1.2
        cases l with
        | none => cases lo <;> first | (cases q; done) | exact s_pn
        | some l => exact s_po ((ihl Ec gx sc _ X ok b4 q).pe b1 b2 _ rfl)
      · have q := h.2
        cases hh with
        | none => cases hi <;> first | (cases q; done) | exact s_pn
        | some l => exact s_po ((ihh Ec gx sc _ X ok c4 q).pe c1 c2 _ rfl)
    · cases h
  | nop =>
    intro Ec gx sc es X ok hs h
    cases h
  | yes =>
    intro Ec gx sc es X ok hs h
    cases h
  | call j a iha =>
    intro Ec gx sc es X ok hs h
    unfold mE at h
    simp only [okS, Bool.and_eq_true] at hs
    split at h
    · simp only [Bool.and_eq_true] at h
      obtain ⟨⟨⟨⟨h1, h2⟩, h3⟩, h4⟩, h5⟩ := h
      have h1 : (Θ.φ.map (·.name))[j]? = some _ := of_decide_eq_true h1
      rw [List.getElem?_map] at h1
      cases e : Θ.φ[j]? with
      | none => rw [e] at h1; cases h1
      | some fe => rw [e] at h1; exact .plain rfl rfl rfl (s_call ok e (Option.some.inj h1) h2 h3 h4 ((iha Ec gx sc _ X ok hs.2 h5).pa hs.1))
    · cases h
  | blt f a iha =>
    intro Ec gx sc es X ok hs h
    unfold mE at h
    simp only [okS, Bool.and_eq_true] at hs
    split at h
    · simp only [Bool.and_eq_true, decide_eq_true_eq] at h
      obtain ⟨⟨⟨⟨rfl, h2⟩, h3⟩, h4⟩, h5⟩ := h
      exact .plain rfl rfl rfl (s_blt ok h2 h3 h4 ((iha Ec gx sc _ X ok hs.2 h5).pa hs.1))
    · cases h
  | isi a t iha =>
    intro Ec gx sc es X ok hs h
    unfold mE at h
    simp only [okS, Bool.and_eq_true, Bool.not_eq_true'] at hs
    split at h
    · simp only [Bool.and_eq_true, decide_eq_true_eq] at h
      obtain ⟨⟨⟨⟨⟨⟨⟨rfl, h1⟩, h2⟩, rfl⟩, h3⟩, h4⟩, h5⟩, h6⟩ := h
      exact .plain rfl rfl rfl (s_isi ok h1 h2 h3 h4 h5 ((iha Ec gx sc _ X ok hs.2 h6).pe hs.1.1 hs.1.2 _ rfl))
    · cases h
  | mix o a iho iha =>
    intro Ec gx sc es X ok hs h
    unfold mE at h
    simp only [okS, Bool.and_eq_true, Bool.not_eq_true'] at hs
    split at h
    · simp only [Bool.and_eq_true, decide_eq_true_eq] at h
      obtain ⟨⟨⟨⟨⟨rfl, h1⟩, h2⟩, h3⟩, h4⟩, h5⟩ := h
      exact .plain rfl rfl rfl (s_mix ok h1 h2 h3 ((iho Ec gx sc _ X ok hs.1.2 h4).pe hs.1.1.1.1.1 hs.1.1.1.1.2 _ rfl) ((iha Ec gx sc _ X ok hs.2 h5).pe hs.1.1.1.2 hs.1.1.2 _ rfl))
    · cases h
  | join o a iho iha =>
    intro Ec gx sc es X ok hs h
    unfold mE at h
    simp only [okS, Bool.and_eq_true, Bool.not_eq_true'] at hs
    split at h
    · simp only [Bool.and_eq_true, decide_eq_true_eq] at h
      obtain ⟨⟨⟨⟨⟨rfl, h1⟩, h2⟩, h3⟩, h4⟩, h5⟩ := h
      exact .plain rfl rfl rfl (s_join ok h1 h2 h3 ((iho Ec gx sc _ X ok hs.1.2 h4).pe hs.1.1.1.1.1 hs.1.1.1.1.2 _ rfl) ((iha Ec gx sc _ X ok hs.2 h5).pe hs.1.1.1.2 hs.1.1.2 _ rfl))
    · cases h
  | comp own tg it c elt ihi ihc ihe =>
    intro Ec gx sc es X ok hs h
    unfold mE at h
    simp only [okS, Bool.and_eq_true, Bool.not_eq_true', Bool.or_eq_true] at hs
    obtain ⟨⟨⟨⟨⟨i1, i2⟩, c1⟩, e1⟩, e2⟩, e3⟩ := hs
    split at h
    · rename_i el t iter ifs scope p
      simp only [Bool.and_eq_true] at h
      obtain ⟨⟨⟨⟨⟨⟨⟨h1, h2⟩, h3⟩, h4⟩, hen⟩, h5⟩, h6⟩, h7⟩ := h
      have hen : isEn it = true → isTup t = true := fun z => by rw [z] at hen; simpa using hen
      refine .plain rfl rfl rfl (s_comp ok h1 h2 (fun i hi => of_decide_eq_true (List.all_eq_true.mp h3 i hi)) h4 ((ihi Ec gx sc _ X ok i2 h5).pi i1 _ t hen rfl) (fun X' hK hm ok' => ?_) (fun X' hK hm ok' => (ihe E0 false _ _ X' ok' e3 h7).pe e1 e2 _ rfl))
      split at h6
      · cases c <;> first | (cases h6; done) | exact pts_nil
      · rename_i x
        have c2 : isTs c = true ∧ okS c = true := by
          rcases c1 with c1 | c1
          · cases c <;> first | (cases c1; done) | (cases h6; done)
          · exact c1
        have s := (ihc E0 false _ _ X' ok' c2.2 h6).pt c2.1 _ rfl
        have e : tCd Θ W E0 X'.K X'.mg c = tTs Θ W E0 X'.K X'.mg c := by cases c <;> first | rfl | (cases h6; done)
        rw [e]
        exact pts_one s
      · cases h6
    · cases h
  | rng1 a iha =>
    intro Ec gx sc es X ok hs h
    unfold mE at h
    simp only [okS, Bool.and_eq_true, Bool.not_eq_true'] at hs
    split at h
    · simp only [Bool.and_eq_true, decide_eq_true_eq] at h
      obtain ⟨⟨⟨⟨rfl, h1⟩, h2⟩, h3⟩, h4⟩ := h
      exact .rng rfl rfl rfl fun tg _ => s_rng1 ok h1 h2 h3 ((iha Ec gx sc _ X ok hs.2 h4).pe hs.1.1 hs.1.2 _ rfl)
    · cases h
  | rng2 a b iha ihb =>
    intro Ec gx sc es X ok hs h
    unfold mE at h
    simp only [okS, Bool.and_eq_true, Bool.not_eq_true'] at hs
    split at h
    · simp only [Bool.and_eq_true, decide_eq_true_eq] at h
      obtain ⟨⟨⟨⟨⟨⟨rfl, h1⟩, h2⟩, h3⟩, h4⟩, h5⟩, h6⟩ := h
      exact .rng rfl rfl rfl fun tg _ => s_rng2 ok h1 h2 h3 h4 ((iha Ec gx sc _ X ok hs.1.2 h5).pe hs.1.1.1.1.1 hs.1.1.1.1.2 _ rfl) ((ihb Ec gx sc _ X ok hs.2 h6).pe hs.1.1.1.2 hs.1.1.2 _ rfl)
    · cases h
  | sset a iha =>
    intro Ec gx sc es X ok hs h
    unfold mE at h
    simp only [okS, Bool.and_eq_true, Bool.not_eq_true'] at hs
    split at h
    · simp only [Bool.and_eq_true, decide_eq_true_eq] at h
      obtain ⟨⟨⟨⟨⟨⟨⟨rfl, h1⟩, h2⟩, rfl⟩, h3⟩, h4⟩, h5⟩, h6⟩ := h
      exact .plain rfl rfl rfl (s_sset ok h1 h2 h3 h4 h5 ((iha Ec gx sc _ X ok hs.2 h6).pe hs.1.1 hs.1.2 _ rfl))
    · cases h
  | lrg1 a iha =>
    intro Ec gx sc es X ok hs h
    unfold mE at h
    simp only [okS, Bool.and_eq_true, Bool.not_eq_true'] at hs
    split at h
    · simp only [Bool.and_eq_true, decide_eq_true_eq] at h
      obtain ⟨⟨⟨⟨⟨⟨⟨rfl, h1⟩, h2⟩, rfl⟩, h3⟩, h4⟩, h5⟩, h6⟩ := h
      exact .plain rfl rfl rfl (s_lrg1 ok h1 h2 h3 h4 h5 ((iha Ec gx sc _ X ok hs.2 h6).pe hs.1.1 hs.1.2 _ rfl))
    · cases h
  | lrg2 a b iha ihb =>
    intro Ec gx sc es X ok hs h
    unfold mE at h
    simp only [okS, Bool.and_eq_true, Bool.not_eq_true'] at hs
    split at h
    · simp only [Bool.and_eq_true, decide_eq_true_eq] at h
      obtain ⟨⟨⟨⟨⟨⟨⟨⟨⟨rfl, h1⟩, h2⟩, rfl⟩, h3⟩, h4⟩, h5⟩, h5'⟩, h6⟩, h7⟩ := h
      exact .plain rfl rfl rfl (s_lrg2 ok h1 h2 h3 h4 h5 h5' ((iha Ec gx sc _ X ok hs.1.2 h6).pe hs.1.1.1.1.1 hs.1.1.1.1.2 _ rfl) ((ihb Ec gx sc _ X ok hs.2 h7).pe hs.1.1.1.2 hs.1.1.2 _ rfl))
    · cases h
  | enm a iha =>
    intro Ec gx sc es X ok hs h
    unfold mE at h
    simp only [okS, Bool.and_eq_true, Bool.not_eq_true'] at hs
    split at h
    · simp only [Bool.and_eq_true, decide_eq_true_eq] at h
      obtain ⟨⟨⟨⟨rfl, h1⟩, h2⟩, h3⟩, h4⟩ := h
      refine .rng rfl rfl rfl fun tg t => ?_
      cases tg <;> first | exact s_enm ok h1 h2 h3 ((iha Ec gx sc _ X ok hs.2 h4).pe hs.1.1 hs.1.2 _ rfl) | exact absurd (t rfl) Bool.false_ne_true
    · cases h
  | chain op op2 a b c iha ihb ihc =>
    intro Ec gx sc es X ok hs h
    unfold mE at h
    simp only [okS, Bool.and_eq_true, Bool.not_eq_true'] at hs
    obtain ⟨⟨⟨⟨⟨⟨⟨⟨a1, a2⟩, b1⟩, b2⟩, c1⟩, c2⟩, a3⟩, b3⟩, c3⟩ := hs
    split at h
    · simp only [Bool.and_eq_true, decide_eq_true_eq, Bool.not_eq_true'] at h
      obtain ⟨⟨⟨⟨⟨rfl, rfl⟩, h0⟩, h1⟩, h2⟩, h3⟩ := h
      have p1 := (iha Ec gx sc _ X ok a3 h1).pe a1 a2 _ rfl
      have p2 := (ihb Ec gx sc _ X ok b3 h2).pe b1 b2 _ rfl
      have p3 := (ihc Ec gx sc _ X ok c3 h3).pe c1 c2 _ rfl
      exact .tst rfl rfl (s_chain h0 p1 p2 p3) fun _ => s_chainT h0 p1 p2 p3
    · cases h
  | gen fin own tg it elt ihi ihe =>
    intro Ec gx sc es X ok hs h
    unfold mE at h
    simp only [okS, Bool.and_eq_true, Bool.not_eq_true'] at hs
    obtain ⟨⟨⟨⟨i1, i2⟩, e1⟩, e2⟩, e3⟩ := hs
    split at h
    · rename_i x p el t iter scope gp cp
      simp only [Bool.and_eq_true, decide_eq_true_eq] at h
      obtain ⟨⟨⟨⟨⟨⟨⟨⟨⟨⟨⟨⟨rfl, rfl⟩, h1⟩, h2⟩, h3⟩, h4⟩, h5⟩, h6⟩, h7⟩, h8⟩, hen⟩, h9⟩, h10⟩ := h
      have hen : isEn it = true → isTup t = true := fun z => by rw [z] at hen; simpa using hen
      exact .plain rfl rfl rfl (s_gen ok h1 h2 h3 h4 h5 (fun i hi => of_decide_eq_true (List.all_eq_true.mp h6 i hi)) h7 h8 ((ihi Ec true sc _ X ok i2 h9).pi i1 _ t hen rfl) (fun X' hK hm ok' => (ihe E0 false _ _ X' ok' e3 h10).pe e1 e2 _ rfl))
    · cases h
  | srt a iha =>
    intro Ec gx sc es X ok hs h
    unfold mE at h
    simp only [okS, Bool.and_eq_true, Bool.not_eq_true'] at hs
    split at h
    · simp only [Bool.and_eq_true, decide_eq_true_eq] at h
      obtain ⟨⟨⟨⟨rfl, h1⟩, h2⟩, h3⟩, h4⟩ := h
      exact .plain rfl rfl rfl (s_srt ok h1 h2 h3 ((iha Ec gx sc _ X ok hs.2 h4).pe hs.1.1 hs.1.2 _ rfl))
    · cases h
  | trg1 a iha =>
    intro Ec gx sc es X ok hs h
    unfold mE at h
    simp only [okS, Bool.and_eq_true, Bool.not_eq_true'] at hs
    split at h
    · simp only [Bool.and_eq_true, decide_eq_true_eq] at h
      obtain ⟨⟨⟨⟨⟨⟨⟨rfl, h1⟩, h2⟩, rfl⟩, h3⟩, h4⟩, h5⟩, h6⟩ := h
      exact .plain rfl rfl rfl (s_trg1 ok h1 h2 h3 h4 h5 ((iha Ec gx sc _ X ok hs.2 h6).pe hs.1.1 hs.1.2 _ rfl))
    · cases h
  | isnon n a iha =>
    intro Ec gx sc es X ok hs h
    unfold mE at h
    simp only [okS, Bool.and_eq_true, Bool.not_eq_true'] at hs
    split at h
    · simp only [Bool.and_eq_true, decide_eq_true_eq] at h
      obtain ⟨rfl, h1⟩ := h
      have p := (iha Ec gx sc _ X ok hs.2 h1).pe hs.1.1 hs.1.2 _ rfl
      exact .tst rfl rfl (s_isnon p) fun _ => s_isnonT p
    · cases h
  | lend i e ih =>
    intro Ec gx sc es X ok hs h
    have h : mE Θ.st e gx sc es = true := h
    simp only [okS, Bool.and_eq_true, Bool.not_eq_true'] at hs
    have s := ih Ec gx sc es X ok hs.2 h
    exact ⟨fun _ _ x q => s_lend (s.pe hs.1.1 hs.1.2 x q), (fun q => by cases q), fun _ x tg _ q => s_pi (s_lend (s.pe hs.1.1 hs.1.2 x q)), (fun q => by cases q), fun t x q => s_lendT (s.pt t x q)⟩
end PG

namespace PG
open PySem L2

inductive S where
  | nil | seq (a b : S)
  | set (i : Nat) (own : Bool) (e : E)
  | setLc (i : Nat) (own : Bool) (e : E)
  | unpack (is : List Nat) (e : E)
  | ret (e : E) | retO (i : Nat) | retN
  | ife (c : E) (a b : S)
  | for_ (tg : Tg) (it : E) (b : S)
  | while_ (c : E) (b : S)
  | app (i : Nat) (e : E)
  | expr (e : E)
  | frz (i : Nat)
  | aug (i : Nat) (op : BOp) (e : E)
  | raise_ (n : Str)
  | seti (i : Nat) (ix e : E)
  | pass | brk | cont
structure Post where
  nx : List Sl → Prop
  rt : R → Prop
  bk : List Sl → Prop
  ct : List Sl → Prop
  ex : Ex
/-- x op= e, of whole numbers -/
def augW (op : BOp) : D → R → (D → Prop) → Prop
  | .int i, .val (.int j), k => match op with
    | .add => k (.int (i + j))
    | .sub => k (.int (i - j))
    | .bor => k (.int (Builtin.bitOr i j))
    | _ => False
  | _, _, _ => False
def putW (own : Bool) (i : Nat) (ρ : List Sl) (k : List Sl → Prop) : R → Prop
  | .new ds => match own with
    | true => k (ρ.set i (.own ds))
    | false => k (ρ.set i (.val (.list ds)))
  | .val d => match own with
    | true => False
    | false => k (ρ.set i (.val d))
  | .args _ => False
def loopW (t : List Sl → D → Option (List Sl)) (b : List Sl → (List Sl → Prop) → Prop) : List D → List Sl → (List Sl → Prop) → Prop
  | [], ρ, k => k ρ
  | x :: r, ρ, k => ∃ ρ', t ρ x = some ρ' ∧ b ρ' fun ρ'' => loopW t b r ρ'' k
def whileW (c : List Sl → (R → Prop) → Prop) (b : List Sl → (List Sl → Prop) → Prop) (k : List Sl → Prop) : Nat → List Sl → Prop
  | 0, _ => False
  | n + 1, ρ => c ρ (boolW (b ρ fun ρ' => whileW c b k n ρ') (k ρ))
def wpS (Θ : Tb) : S → List Sl → Post → Prop
  | .nil, ρ, P => P.nx ρ
  | .seq a b, ρ, P => wpS Θ a ρ { P with nx := fun ρ' => wpS Θ b ρ' P }
  | .set i own e, ρ, P => wpE Θ e P.ex ρ (putW own i ρ P.nx)
  | .setLc i own e, ρ, P => wpE Θ e P.ex ρ (putW own i ρ P.nx)
  | .unpack is e, ρ, P => wpE Θ e P.ex ρ fun r => match r with
    | .val (.tuple ds) => ∃ ρ', setMany ρ is ds = some ρ' ∧ P.nx ρ'
    | _ => False
  | .ret e, ρ, P => wpE Θ e P.ex ρ P.rt
  | .retO i, ρ, P => match ρ[i]? with
    | some (.own ds) => P.rt (.new ds)
    | _ => False
  | .retN, _, P => P.rt (.val .none)
  | .ife c a b, ρ, P => wpE Θ c P.ex ρ (boolW (wpS Θ a ρ P) (wpS Θ b ρ P))
  | .for_ tg it b, ρ, P => wpE Θ it P.ex ρ fun r => itemsW r fun xs => loopW (bindT tg) (fun ρ' k => wpS Θ b ρ' { nx := k, ct := k, bk := P.nx, rt := P.rt, ex := P.ex }) xs ρ P.nx
  | .while_ c b, ρ, P => ∃ n, whileW (fun ρ' k => wpE Θ c P.ex ρ' k) (fun ρ' k => wpS Θ b ρ' { nx := k, ct := k, bk := P.nx, rt := P.rt, ex := P.ex }) P.nx n ρ
  | .app i e, ρ, P => match ρ[i]? with
    | some (.own ds) => wpE Θ e P.ex ρ fun r => ds.length < sizeLine ∧ P.nx (ρ.set i (.own (ds ++ [r.d])))
    | _ => False
  | .expr e, ρ, P => wpE Θ e P.ex ρ fun _ => P.nx ρ
  | .frz i, ρ, P => match ρ[i]? with
    | some (.own ds) => P.nx (ρ.set i (.val (.list ds)))
    | _ => False
  | .aug i op e, ρ, P => match ρ[i]? with
    | some (.val d) => wpE Θ e P.ex ρ fun r => augW op d r fun z => P.nx (ρ.set i (.val z))
    | _ => False
  | .raise_ n, _, P => P.ex n
  | .seti i ix e, ρ, P => match ρ[i]? with
    | some (.own ds) => wpE Θ e P.ex ρ fun r => wpE Θ ix P.ex ρ fun k => ∃ z j, k = .val (.int z) ∧ ixN ds.length z = some j ∧ P.nx (ρ.set i (.own (ds.set j r.d)))
    | _ => False
  | .pass, ρ, P => P.nx ρ
  | .brk, ρ, P => P.bk ρ
  | .cont, ρ, P => P.ct ρ

def isG : S → Bool
  | .frz _ => true
  | _ => false
def isB : S → Bool
  | .nil | .seq _ _ => true
  | _ => false
def notComp : Expr → Bool
  | .ListComp .. | .SetComp .. | .DictComp .. => false
  | _ => true
def notTup : Expr → Bool
  | .Tuple .. => false
  | _ => true
/-- a comprehension given to a name that other blocks read too: stored as any value -/
def cellLc (sc : Scope) (x : Str) : Expr → Bool
  | .ListComp .. => decide (sc.names.lookup x = some .cell)
  | _ => false
def mS (Θ : Ts) (gx : Bool) (sc : Scope) : S → List Stmt → Bool
  | .nil, sts => sts.isEmpty
  | .seq a b, sts => if isG a then isB b && mS Θ gx sc b sts else match sts with
    | st :: rest => !isB a && mS Θ gx sc a [st] && isB b && mS Θ gx sc b rest
    | [] => false
  | .set i _ e, sts => match sts with
    | [.Assign [.Name x _] v _] => mName Θ.N sc true i (.Name x ⟨0, 0, 0, 0⟩) && (notComp v || cellLc sc x v) && !isL e && !isR e && okS e && mE Θ e gx sc [v]
    | _ => false
  | .setLc i _ e, sts => match sts with
    | [.Assign [.Name x px] (.ListComp el [⟨t, iter, ifs, 0⟩] scope p) _] => decide (Θ.N[i]? = some x) && decide (sc.names.lookup x = some .local) && (px.line == p.line) && decide (sc.kind = .function) &&
        !(scope.names.any fun (n, k) => n == x && (k == .local || k == .cell)) && (match e with | .comp .. => true | _ => false) && okS e && mE Θ e gx sc [.ListComp el [⟨t, iter, ifs, 0⟩] scope p]
    | _ => false
  | .unpack is e, sts => match sts with
    | [.Assign [.Tuple ts k p] v _] => mNames Θ.N sc true is ts && notTup v && !isL e && !isR e && okS e && mE Θ e gx sc [v]
    | _ => false
  | .ret e, sts => match sts with
    | [.Return (some v) _] => !isL e && !isR e && okS e && mE Θ e gx sc [v]
    | _ => false
  | .retO i, sts => match sts with
    | [.Return (some (.Name x _)) _] => decide (Θ.N[i]? = some x) && visB sc x && okN x
    | _ => false
  | .retN, sts => match sts with
    | [.Return none _] => true
    | _ => false
  | .ife c a b, sts => match sts with
    | [.If t p q _] => isTs c && okS c && mE Θ c gx sc [t] && isB a && isB b && mS Θ gx sc a p && mS Θ gx sc b q
    | _ => false
  | .for_ tg it b, sts => match sts with
    | [.For t iter body [] _] => mTg Θ.N sc true tg t && notSet iter && (!isEn it || isTup t) && !isL it && okS it && mE Θ it gx sc [iter] && isB b && mS Θ gx sc b body
    | _ => false
  | .while_ c b, sts => match sts with
    | [.While t body [] _] => isTs c && okS c && mE Θ c gx sc [t] && isB b && mS Θ gx sc b body
    | _ => false
  | .app i e, sts => match sts with
    | [.Expr (.Call (.Attribute (.Name x _) n ap) [y] [] cp) _] => decide (Θ.N[i]? = some x) && visB sc x && okN x && decide (n = "append") && notStar y && (ap.endLine == cp.line) && !isL e && !isR e && okS e && mE Θ e gx sc [y]
    | _ => false
  | .expr e, sts => match sts with
    | [.Expr v _] => notComp v && !isL e && !isR e && okS e && mE Θ e gx sc [v]
    | _ => false
  | .frz _, _ => false
  | .aug i op e, sts => match sts with
    | [.AugAssign (.Name x _) o y _] => decide (Θ.N[i]? = some x) && (decide (sc.names.lookup x = some .local) || decide (sc.names.lookup x = some .cell)) && decide (o = bop op) && !isL e && !isR e && okS e && mE Θ e gx sc [y]
    | _ => false
  | .raise_ n, sts => match sts with
    | [.Raise (some (.Call (.Name x _) [.Constant (.str _) _ _] [] _)) none _] => decide (x = n) && decide (n ∈ Θ.xs) && glB sc n && okN n
    | _ => false
  | .seti i ix e, sts => match sts with
    | [.Assign [.Subscript (.Name x _) y _] v _] => decide (Θ.N[i]? = some x) && visB sc x && okN x && notTup v && notComp v && !isL e && !isR e && okS e && mE Θ e gx sc [v] && plainIxB y && !isL ix && !isR ix && okS ix && mE Θ ix gx sc [y]
    | _ => false
  | .pass, sts => match sts with
    | [.Pass _] => true
    | _ => false
  | .brk, sts => match sts with
    | [.Break _] => true
    | _ => false
  | .cont, sts => match sts with
    | [.Continue _] => true
    | _ => false

/-- an exception's own class of the module -/
def ExcAt (K : Fg) (mg : Str → Option Value) (n : Str) : Prop := ∃ C, mg n = some (.ref C) ∧ PySem.W.excIn K C [.type "ValueError", .type "Exception", .type "BaseException", .type "object"] "ValueError.__new__" = true ∧ PySem.W.keepIn K (.ref C) = true ∧
  PySem.W.subIn K (.ref C) (.type "BaseException") = some true ∧ PySem.W.typeIn K (.ref C) = some (.type "type")
structure OkF (Θ : Tb) (W : Wd) (sc : Scope) (Ec : XK) (gx : Bool) (X : Cx) : Prop extends OkX Θ W sc Ec gx X where
  fn : ∀ x, X.fn x = true
  own : PassesOwn (model X.prog X.w) X.A X.env X.xe
  takes : Takes X (fun cls d _ H => Ec cls d H)
  exc : ∀ n ∈ Θ.xs, ExcAt X.K X.mg n
/-- the slots, over the entry g0, H0 of the def -/
structure EnvS (K : Fg) (W : Wd) (g0 : Kn) (H0 : Hp) (ρ : List Sl) (g : Kn) (σ : L2.St) (H : Hp) : Prop where
  env : EnvR K W ρ g σ H
  g : Grow g0 H0 g H
  young : ∀ (i : Nat) (ds : List D) (a : Addr), ρ[i]? = some (Sl.own ds) → σ[i]? = some (some (.ref a)) → H0 a = none
structure OutS (K : Fg) (W : Wd) (mg : Str → Option Value) (g0 : Kn) (H0 : Hp) (Ec : XK) (P : Post) (D : Ends) : Prop where
  nx : ∀ ρ g σ H, P.nx ρ → EnvS K W g0 H0 ρ g σ H → D.nx σ H
  bk : ∀ ρ g σ H, P.bk ρ → EnvS K W g0 H0 ρ g σ H → D.bk σ H
  ct : ∀ ρ g σ H, P.ct ρ → EnvS K W g0 H0 ρ g σ H → D.ct σ H
  rt : ∀ r v g H, P.rt r → Grow g0 H0 g H → RRep K W H0 g H r v → D.rt v H
  ex : OutX mg g0 H0 P.ex Ec
def tS (Θ : Tb) (W : Wd) (Ec : XK) (K : Fg) (mg : Str → Option Value) (s : S) : TS := fun D σ H => ∃ g0 H0 ρ g P, EnvS K W g0 H0 ρ g σ H ∧ wpS Θ s ρ P ∧ OutS K W mg g0 H0 Ec P D
abbrev xS (Θ : Tb) (W : Wd) (Ec : XK) (X : Cx) (s : S) : TS := tS Θ W Ec X.K X.mg s
theorem ps_imp {X : Cx} {e : Stmt} {t t' : TS} (h : PS X e t) (k : ∀ D σ H, t' D σ H → t D σ H) : PS X e t' := ⟨fun pins s σ H D I hw => h.run pins s σ H D I (k D σ H hw)⟩
theorem pss_imp {X : Cx} {e : List Stmt} {t t' : TS} (h : PSs X e t) (k : ∀ D σ H, t' D σ H → t D σ H) : PSs X e t' := ⟨fun pins s σ H D I hw => h.run pins s σ H D I (k D σ H hw)⟩

section
variable {K : Fg} {W : Wd} {g0 g g' : Kn} {H0 H H' : Hp} {ρ ρ' : List Sl} {σ : L2.St}
theorem EnvS.grow (e : EnvS K W g0 H0 ρ g σ H) (q : Grow g H g' H') : EnvS K W g0 H0 ρ g' σ H' := ⟨e.env.grow q, e.g.trans q, e.young⟩
theorem EnvS.set (e : EnvS K W g0 H0 ρ g σ H) {v : V} {d : D} (h : Dp K W g v d) (i : Nat) : EnvS K W g0 H0 (ρ.set i (.val d)) g (σ.set i (some v)) H := by
  refine ⟨env_set e.env h i, e.g, fun j ds a hj hs => ?_⟩
  by_cases q : i = j
  · subst q
    by_cases hi : i < ρ.length
    · rw [List.getElem?_set_self hi] at hj; cases hj
    · rw [List.getElem?_eq_none (by simpa using hi)] at hj; cases hj
  · rw [List.getElem?_set_ne q] at hj hs
    exact e.young j ds a hj hs
/-- a new list becomes one's own -/
theorem EnvS.setO (e : EnvS K W g0 H0 ρ g σ H) (q0 : Grow g H g' H') {a : Addr} {xs : List V} {ds : List D} (h1 : H' a = some (.lst xs)) (h2 : g'.G a = none) (hz : g'.Z a = none) (h3 : H a = none) (h4 : DpAll K W g' xs ds) (i : Nat) :
    EnvS K W g0 H0 (ρ.set i (.own ds)) g' (σ.set i (some (.ref a))) H' := by
  have e' := e.grow q0
  have key : ∀ {j : Nat} {x : Sl}, (ρ.set i (.own ds))[j]? = some x → (j = i ∧ x = .own ds ∧ i < ρ.length) ∨ (j ≠ i ∧ ρ[j]? = some x) := fun {j x} hj => by
    by_cases q : i = j
    · subst q
      by_cases hi : i < ρ.length
      · rw [List.getElem?_set_self hi] at hj; cases hj; exact .inl ⟨rfl, rfl, hi⟩
      · rw [List.getElem?_eq_none (by simpa using hi)] at hj; cases hj
    · rw [List.getElem?_set_ne q] at hj; exact .inr ⟨Ne.symm q, hj⟩
  have nA : ∀ (j : Nat) (es : List D), ρ[j]? = some (Sl.own es) → σ[j]? = some (some (.ref a)) → False := fun j es hj hs => by
    obtain ⟨b, ys, q1, q2, _⟩ := e.env.own j es hj
    rw [hs] at q1
    cases q1
    rw [h3] at q2
    cases q2
  refine ⟨⟨by rw [List.length_set, List.length_set]; exact e.env.len, e'.env.ok, e'.env.tb, fun j d hj => ?_, fun j es hj => ?_, fun j k b es fs hjk hj0 hk h5 h6 => ?_⟩, e'.g, fun j es b hj hs => ?_⟩
  · rcases key hj with ⟨_, q, _⟩ | ⟨q, hj⟩
    · cases q
    · obtain ⟨w, q1, q2⟩ := e'.env.val j d hj
      exact ⟨w, by rw [List.getElem?_set_ne (Ne.symm q)]; exact q1, q2⟩
  · rcases key hj with ⟨rfl, q, hi⟩ | ⟨q, hj⟩
    · cases q
      exact ⟨a, xs, List.getElem?_set_self (by rw [e.env.len]; exact hi), h1, h2, hz, h4⟩
    · obtain ⟨w, ys, q1, q2⟩ := e'.env.own j es hj
      exact ⟨w, ys, by rw [List.getElem?_set_ne (Ne.symm q)]; exact q1, q2⟩
  · rcases key hj0 with ⟨rfl, q, hi⟩ | ⟨q, hj⟩
    · rcases key hk with ⟨rfl, _, _⟩ | ⟨q2, hk⟩
      · exact hjk rfl
      · rw [List.getElem?_set_self (by rw [e.env.len]; exact hi)] at h5
        rw [List.getElem?_set_ne (Ne.symm q2)] at h6
        cases h5
        exact nA k fs hk h6
    · clear hj0
      rw [List.getElem?_set_ne (Ne.symm q)] at h5
      rcases key hk with ⟨rfl, q2, hi⟩ | ⟨q2, hk⟩
      · rw [List.getElem?_set_self (by rw [e.env.len]; exact hi)] at h6
        cases h6
        exact nA j es hj h5
      · rw [List.getElem?_set_ne (Ne.symm q2)] at h6
        exact e.env.sep j k b es fs hjk hj hk h5 h6
  · rcases key hj with ⟨rfl, q, hi⟩ | ⟨q, hj⟩
    · rw [List.getElem?_set_self (by rw [e.env.len]; exact hi)] at hs
      cases hs
      exact e.g.free h3
    · rw [List.getElem?_set_ne (Ne.symm q)] at hs
      exact e.young j es b hj hs
theorem EnvS.put (e : EnvS K W g0 H0 ρ g σ H) (q0 : Grow g H g' H') {own : Bool} {i : Nat} {k : List Sl → Prop} {r : R} {v : V} (hp : putW own i ρ k r) (rr : RRep K W H g' H' r v) : ∃ ρ' g2, k ρ' ∧ EnvS K W g0 H0 ρ' g2 (σ.set i (some v)) H' := by
  cases r with
  | args _ => exact hp.elim
  | val d =>
    cases own with
    | true => exact hp.elim
    | false => exact ⟨_, g', hp, (e.grow q0).set rr i⟩
  | new ds =>
    cases own with
    | true =>
      obtain ⟨a, xs, rfl, h1, h2, hz, h3, h4⟩ := rr
      exact ⟨_, g', hp, e.setO q0 h1 h2 hz h3 h4 i⟩
    | false =>
      obtain ⟨g2, q2, _, hd⟩ := RRep.frz q0 rr
      exact ⟨_, g2, hp, (e.grow q2).set hd i⟩
/-- one's own list is given away -/
theorem EnvS.frz (e : EnvS K W g0 H0 ρ g σ H) {i : Nat} {ds : List D} (h : ρ[i]? = some (.own ds)) : ∃ g2, EnvS K W g0 H0 (ρ.set i (.val (.list ds))) g2 σ H := by
  obtain ⟨p, xs, h1, h2, h3, hz, h4⟩ := e.env.own i ds h
  have hi : i < ρ.length := (List.getElem?_eq_some_iff.mp h).1
  have sG : Ext g (g.put p (.lst xs)) := ext_put h3
  have y0 := e.young i ds p h h1
  refine ⟨g.put p (.lst xs), ⟨by rw [List.length_set]; exact e.env.len, kno_put e.env.ok h2 hz, e.env.tb, fun j d hj => ?_, fun j es hj => ?_, fun j k q ds1 ds2 hjk hj hk h5 h6 => ?_⟩, grow_put e.g h2 h3 hz y0, fun j es a hj hs => ?_⟩
  · by_cases q : i = j
    · subst q
      rw [List.getElem?_set_self hi] at hj
      cases hj
      exact ⟨_, h1, .lst (.of put_same) (dpa_mono sG h4)⟩
    · rw [List.getElem?_set_ne q] at hj
      obtain ⟨v, q1, q2⟩ := e.env.val j d hj
      exact ⟨v, q1, dp_mono sG q2⟩
  · by_cases q : i = j
    · subst q
      rw [List.getElem?_set_self hi] at hj
      cases hj
    · rw [List.getElem?_set_ne q] at hj
      obtain ⟨b, ys, q1, q2, q3, q3z, q4⟩ := e.env.own j es hj
      have ne : b ≠ p := fun z => e.env.sep i j p ds es q h hj h1 (by rw [q1, z])
      exact ⟨b, ys, q1, q2, (by show upd g.G p _ b = none; rw [upd_ne ne]; exact q3), q3z, dpa_mono sG q4⟩
  · have n1 : j ≠ i := fun z => by subst z; rw [List.getElem?_set_self hi] at hj; cases hj
    have n2 : k ≠ i := fun z => by subst z; rw [List.getElem?_set_self hi] at hk; cases hk
    rw [List.getElem?_set_ne (Ne.symm n1)] at hj
    rw [List.getElem?_set_ne (Ne.symm n2)] at hk
    exact e.env.sep j k q ds1 ds2 hjk hj hk h5 h6
  · by_cases q : i = j
    · subst q
      rw [List.getElem?_set_self hi] at hj
      cases hj
    · rw [List.getElem?_set_ne q] at hj
      exact e.young j es a hj hs
/-- one's own list is written: to a list of things that are known -/
theorem EnvS.wr (e : EnvS K W g0 H0 ρ g σ H) (q0 : Grow g H g' H') {i : Nat} {ds es : List D} {l : Addr} {xs ys : List V} (h : ρ[i]? = some (.own ds)) (hs : σ[i]? = some (some (.ref l))) (hl : H l = some (.lst xs)) (hG : g.G l = none) (hZ : g.Z l = none) (hy : DpAll K W g' ys es) :
    EnvS K W g0 H0 (ρ.set i (.own es)) g' σ (upd H' l (.lst ys)) := by
  have hi : i < ρ.length := (List.getElem?_eq_some_iff.mp h).1
  have e' := e.grow q0
  have n' : g'.G l = none := q0.hid hG hl
  have z' : g'.Z l = none := q0.hidZ hZ hl
  have y0 : H0 l = none := e.young i ds l h hs
  have key : ∀ {j : Nat} {x : Sl}, (ρ.set i (.own es))[j]? = some x → (j = i ∧ x = .own es) ∨ (j ≠ i ∧ ρ[j]? = some x) := fun {j x} hj => by
    by_cases q : i = j
    · subst q
      rw [List.getElem?_set_self hi] at hj; cases hj; exact .inl ⟨rfl, rfl⟩
    · rw [List.getElem?_set_ne q] at hj; exact .inr ⟨Ne.symm q, hj⟩
  have back : ∀ {j : Nat} {fs : List D}, (ρ.set i (.own es))[j]? = some (.own fs) → ∃ fs', ρ[j]? = some (.own fs') := fun {j fs} hj => by
    rcases key hj with ⟨rfl, _⟩ | ⟨_, q⟩
    · exact ⟨ds, h⟩
    · exact ⟨fs, q⟩
  have ok' : Kno g' (upd H' l (.lst ys)) := ⟨fun b o q => by rw [upd_ne (ne_of_none q n')]; exact e'.env.ok.sub b o q, fun b φ q => by
    obtain ⟨i1, o, i2, i3⟩ := e'.env.ok.inv b φ q
    have nb : b ≠ l := fun z => by rw [z, z'] at q; cases q
    exact ⟨i1, o, by rw [upd_ne nb]; exact i2, i3⟩⟩
  refine ⟨⟨by rw [List.length_set]; exact e.env.len, ok', e'.env.tb, fun j d' hj => ?_, fun j fs hj => ?_, fun j k b fs1 fs hjk hj hk h5 h6 => ?_⟩, ⟨fun b o q z => by rw [upd_ne (ne_of_none q y0)]; exact e'.g.h b o q z, e'.g.e, ok', e'.g.new, e'.g.newZ⟩, fun j fs b hj q => ?_⟩
  · rcases key hj with ⟨_, q⟩ | ⟨_, hj⟩
    · cases q
    · exact e'.env.val j d' hj
  · rcases key hj with ⟨rfl, q⟩ | ⟨ne, hj⟩
    · cases q
      exact ⟨l, _, hs, upd_same, n', z', hy⟩
    · obtain ⟨b, zs, q1, q2, q3, q3z, q4⟩ := e'.env.own j fs hj
      have nb : b ≠ l := fun z => e.env.sep j i l fs ds ne hj h (by rw [q1, z]) hs
      exact ⟨b, zs, q1, by rw [upd_ne nb]; exact q2, q3, q3z, q4⟩
  · obtain ⟨es', hj⟩ := back hj
    obtain ⟨fs', hk⟩ := back hk
    exact e.env.sep j k b es' fs' hjk hj hk h5 h6
  · obtain ⟨es', hj⟩ := back hj
    exact e.young j es' b hj q
end
end PG

namespace PG
open PySem L2
section
variable {K : Fg} {W : Wd} {g0 g g' : Kn} {H0 H H' : Hp} {ρ ρ' : List Sl} {σ : L2.St}
theorem grow_low (a : Grow g0 H0 g' H') (b : Grow g' H0 g H) : Grow g0 H0 g H := ⟨fun x o h z => b.h x o h (by
    cases e : g'.Z x with
    | none => rfl
    | some φ => have := a.newZ x φ e z; rw [h] at this; cases this), a.e.trans b.e, b.ok, fun x o h n => by
  cases e : g'.G x with
  | some u => exact a.new x u e n
  | none => exact b.new x o h e, fun x φ h n => by
  cases e : g'.Z x with
  | some u => exact a.newZ x u e n
  | none => exact b.newZ x φ h e⟩
theorem EnvS.low (e : EnvS K W g' H0 ρ g σ H) (a : Grow g0 H0 g' H') : EnvS K W g0 H0 ρ g σ H := ⟨e.env, grow_low a e.g, e.young⟩
theorem EnvS.base (e : EnvS K W g0 H0 ρ g σ H) : EnvS K W g H0 ρ g σ H := ⟨e.env, ⟨fun x o h z => e.g.h x o h (by
    cases q : g0.Z x with
    | none => rfl
    | some φ => rw [e.g.e.z x φ q] at z; cases z), Ext.refl g, e.env.ok, (fun b o q n => by rw [n] at q; cases q), (fun b o q n => by rw [n] at q; cases q)⟩, e.young⟩
theorem run_manyS {Q : L2.St → Hp → Prop} : ∀ {is : List Nat} {ρ ρ' : List Sl} {σ : L2.St} {vs : List V} {ds : List D}, EnvS K W g0 H0 ρ g σ H → DpAll K W g vs ds → setMany ρ is ds = some ρ' →
    (∀ σ', EnvS K W g0 H0 ρ' g σ' H → Q σ' H) → gMany is vs σ H Q
  | [], ρ, ρ', σ, vs, ds, e, hv, hs, q => by
    cases ds with
    | cons _ _ => cases hs
    | nil => cases hs; cases hv; exact ⟨rfl, q σ e⟩
  | i :: is, ρ, ρ', σ, vs, ds, e, hv, hs, q => by
    cases ds with
    | nil => cases hs
    | cons d ds =>
      cases hv with
      | cons h1 h2 => exact ⟨_, _, rfl, run_manyS (e.set h1 i) h2 hs q⟩
theorem run_tgS {tg : Tg} {v : V} {d : D} {Q : L2.St → Hp → Prop} (e : EnvS K W g0 H0 ρ g σ H) (hv : Dp K W g v d) (hs : bindT tg ρ d = some ρ') (q : ∀ σ', EnvS K W g0 H0 ρ' g σ' H → Q σ' H) : gT K tg v σ H Q := by
  cases tg with
  | one i =>
    cases hs
    exact q _ (e.set hv i)
  | many is =>
    cases hv with
    | tup h1 h2 =>
      have hl := setMany_len (show setMany ρ is _ = some ρ' from hs)
      exact ⟨_, _, rfl, e.env.ok.sqt h1, by rw [dpa_len h2, hl], run_manyS e h2 hs q⟩
    | _ => cases hs
theorem dpa_set {d : D} {v : V} (h : Dp K W g v d) : ∀ {vs : List V} {ds : List D} (n : Nat), DpAll K W g vs ds → DpAll K W g (vs.set n v) (ds.set n d)
  | _, _, _, .nil => .nil
  | _, _, 0, .cons _ b => .cons h b
  | _, _, n + 1, .cons a b => .cons a (dpa_set h n b)
end
/-! x op= e -/
theorem ip_or {X : Cx} : PIp X .BitOr (ipI fun i j => Builtin.bitOr i j) := by
  intro pins s σ H x y v u Q I r1 r2 h
  obtain ⟨i, j, e1, e2, q⟩ := h
  subst e1; subst e2
  obtain ⟨t, rfl⟩ := r1
  obtain ⟨t', rfl⟩ := r2
  exact PyProof.Rows.ior_int ⟨.int _, H, I.tok _, ⟨_, rfl⟩, q⟩
theorem ip_of (X : Cx) (op : BOp) : ∃ f : Int → Int → Option Int, PIp X (bop op) (fun x y H Q => ∃ i j z, x = .int i ∧ y = .int j ∧ f i j = some z ∧ Q (.int z) H) ∧ ∀ d r k, augW op d r k → ∃ i j z, d = .int i ∧ r = .val (.int j) ∧ f i j = some z ∧ k (.int z) := by
  have get : ∀ d r k, augW op d r k → ∃ i j, d = .int i ∧ r = .val (.int j) := fun d r k h => by
    unfold augW at h
    split at h
    · exact ⟨_, _, rfl, rfl⟩
    · exact h.elim
  have no : (∀ i j k, ¬ augW op (.int i) (.val (.int j)) k) → ∃ f : Int → Int → Option Int, PIp X (bop op) (fun x y H Q => ∃ i j z, x = .int i ∧ y = .int j ∧ f i j = some z ∧ Q (.int z) H) ∧ ∀ d r k, augW op d r k → ∃ i j z, d = .int i ∧ r = .val (.int j) ∧ f i j = some z ∧ k (.int z) := fun hn =>
    ⟨fun _ _ => none, (fun _ _ _ _ _ _ _ _ _ _ _ _ h => by obtain ⟨_, _, _, _, _, h, _⟩ := h; cases h), fun d r k h => by
      obtain ⟨i, j, rfl, rfl⟩ := get d r k h
      exact (hn i j k h).elim⟩
  cases op with
  | add => exact ⟨fun i j => some (i + j), (fun pins s σ H x y v u Q I r1 r2 h => ip_add pins s σ H x y v u Q I r1 r2 (by obtain ⟨i, j, z, e1, e2, e3, h⟩ := h; cases e3; exact ⟨i, j, e1, e2, h⟩)), fun d r k h => by obtain ⟨i, j, rfl, rfl⟩ := get d r k h; exact ⟨i, j, _, rfl, rfl, rfl, h⟩⟩
  | sub => exact ⟨fun i j => some (i - j), (fun pins s σ H x y v u Q I r1 r2 h => ip_sub pins s σ H x y v u Q I r1 r2 (by obtain ⟨i, j, z, e1, e2, e3, h⟩ := h; cases e3; exact ⟨i, j, e1, e2, h⟩)), fun d r k h => by obtain ⟨i, j, rfl, rfl⟩ := get d r k h; exact ⟨i, j, _, rfl, rfl, rfl, h⟩⟩
  | bor => exact ⟨fun i j => some (Builtin.bitOr i j), (fun pins s σ H x y v u Q I r1 r2 h => ip_or pins s σ H x y v u Q I r1 r2 (by obtain ⟨i, j, z, e1, e2, e3, h⟩ := h; cases e3; exact ⟨i, j, e1, e2, h⟩)), fun d r k h => by obtain ⟨i, j, rfl, rfl⟩ := get d r k h; exact ⟨i, j, _, rfl, rfl, rfl, h⟩⟩
  | mul => exact no fun _ _ _ h => h
  | fdiv => exact no fun _ _ _ h => h
  | mod => exact no fun _ _ _ h => h
  | pow => exact no fun _ _ _ h => h
  | shl => exact no fun _ _ _ h => h
  | shr => exact no fun _ _ _ h => h
  | band => exact no fun _ _ _ h => h
  | bxor => exact no fun _ _ _ h => h

theorem rrep_young {K : Fg} {W : Wd} {Hb H1 : Hp} {g' : Kn} {H' : Hp} {r : R} {v : V} (f : ∀ a, H1 a = none → Hb a = none) (h : RRep K W H1 g' H' r v) : RRep K W Hb g' H' r v := rrep_free f h

structure SndS (Θ : Tb) (W : Wd) (Ec : XK) (X : Cx) (s : S) (sts : List Stmt) : Prop where
  bl : isB s = true → PSs X sts (xS Θ W Ec X s)
  st : isB s = false → ∀ st, sts = [st] → PS X st (xS Θ W Ec X s)
section
variable {Θ : Tb} {W : Wd} {Ec : XK} {gx : Bool} {sc : Scope} {X : Cx} {st : Stmt} {s : S} {sts : List Stmt}
theorem SndS.one (hb : isB s = false) (h : PS X st (xS Θ W Ec X s)) : SndS Θ W Ec X s [st] := ⟨fun q => (by rw [hb] at q; cases q), fun _ x q => by cases q; exact h⟩
theorem SndS.blk (hb : isB s = true) (h : PSs X sts (xS Θ W Ec X s)) : SndS Θ W Ec X s sts := ⟨fun _ => h, fun q => (by rw [hb] at q; cases q)⟩
theorem sw_false {v : Expr} {t : Option Expr} {l : Nat} {env : Env} (h : notComp v = true) : swapsWith v t l env = pure false := by
  cases v <;> first | (cases t <;> rfl) | cases h
theorem sw_cell {v : Expr} {x : Str} {p : Pos} {l : Nat} {env : Env} (h : cellLc env.scope x v = true) : swapsWith v (some (.Name x p)) l env = pure false := by
  cases v with
  | ListComp el gs scope q =>
    have k : env.kindOf x = some .cell := of_decide_eq_true h
    unfold swapsWith
    simp only [k]
    cases env.blockKind <;> rfl
  | _ => cases h
theorem sw_sole {v : Expr} {ts : List Expr} {k : Nat} {p : Pos} {l : Nat} {env : Env} : swapsWithSole [.Tuple ts k p] v l env = pure false := by
  cases v <;> rfl
theorem sw_none {v : Expr} {ts : List Expr} {k : Nat} {p : Pos} {env : Env} (h : notTup v = true) : swappedStores [.Tuple ts k p] v env = pure none := by
  cases v <;> first | rfl | cases h
theorem sw_sub {v o i : Expr} {p : Pos} {l : Nat} {env : Env} (h : notComp v = true) : swapsWithSole [.Subscript o i p] v l env = pure false := by
  cases v <;> first | rfl | cases h
theorem sw_sub2 {v o i : Expr} {p : Pos} {env : Env} (h : notTup v = true) : swappedStores [.Subscript o i p] v env = pure none := by
  cases v <;> first | rfl | cases h
/-- an expression, in a statement -/
theorem mkS {K : Fg} {mg : Str → Option Value} {g0 g : Kn} {H0 H : Hp} {ρ : List Sl} {σ : L2.St} {P : Post} {D : Ends} {e : E} {Φ : R → Prop} {Q : VK} (env : EnvS K W g0 H0 ρ g σ H) (out : OutS K W mg g0 H0 Ec P D) (wp : wpE Θ e P.ex ρ Φ)
    (k : ∀ r v g2 H2, Φ r → Grow g H g2 H2 → RRep K W H g2 H2 r v → Q v H2) : tD Θ W Ec K mg e σ H Q := ⟨ρ, g, Φ, P.ex, env.env, wp, k, out.ex.step env.g⟩
theorem mkST {K : Fg} {mg : Str → Option Value} {g0 g : Kn} {H0 H : Hp} {ρ : List Sl} {σ : L2.St} {P : Post} {D : Ends} {e : E} {A B : Prop} {Q : Bool → Hp → Prop} (env : EnvS K W g0 H0 ρ g σ H) (out : OutS K W mg g0 H0 Ec P D) (wp : wpE Θ e P.ex ρ (boolW A B))
    (k : ∀ b g2 H2, boolW A B (.val (.bool b)) → Grow g H g2 H2 → Q b H2) : tTs Θ W Ec K mg e σ H Q := ⟨ρ, g, _, P.ex, env.env, wp, fun r h => boolW_bl h, k, out.ex.step env.g⟩
theorem soundS : ∀ (s : S) (sts : List Stmt) (X : Cx), OkF Θ W sc Ec gx X → mS Θ.st gx sc s sts = true → SndS Θ W Ec X s sts := by
  intro s
  induction s with
  | nil =>
    intro sts X ok h
    unfold mS at h
    cases sts with
    | cons _ _ => cases h
    | nil => exact .blk rfl (pss_imp pss_nil fun D σ H ⟨g0, H0, ρ, g, P, env, wp, out⟩ => out.nx ρ g σ H wp env)
  | seq a b iha ihb =>
    intro sts X ok h
    unfold mS at h
    split at h
    · rename_i hg
      simp only [Bool.and_eq_true] at h
      have s2 := (ihb sts X ok h.2)
      cases a <;> first | (cases hg; done) | skip
      rename_i i
      refine .blk rfl (pss_imp (s2.bl h.1) fun D σ H ⟨g0, H0, ρ, g, P, env, wp, out⟩ => ?_)
      have wp : (match ρ[i]? with | some (.own ds) => wpS Θ b (ρ.set i (.val (.list ds))) P | _ => False) := wp
      split at wp
      · rename_i ds e
        obtain ⟨g2, env2⟩ := env.frz e
        exact ⟨g0, H0, _, g2, P, env2, wp, out⟩
      · exact wp.elim
    · split at h
      · rename_i st rest
        simp only [Bool.and_eq_true, Bool.not_eq_true'] at h
        have s1 := (iha [st] X ok h.1.1.2).st h.1.1.1 st rfl
        have s2 := (ihb rest X ok h.2).bl h.1.2
        refine .blk rfl (pss_imp (pss_cons s1 s2) fun D σ H ⟨g0, H0, ρ, g, P, env, wp, out⟩ => ?_)
        exact ⟨g0, H0, ρ, g, _, env, wp, ⟨fun ρ' g' σ' H' hn he => ⟨g0, H0, ρ', g', P, he, hn, out⟩, out.bk, out.ct, out.rt, out.ex⟩⟩
      · cases h
  | set i own e =>
    intro sts X ok h
    unfold mS at h
    split at h
    · rename_i x px v p
      simp only [Bool.and_eq_true, Bool.or_eq_true, Bool.not_eq_true'] at h
      obtain ⟨⟨⟨⟨⟨h1, h2⟩, h3⟩, h4⟩, h5⟩, h6⟩ := h
      have he := (sound e Ec gx sc [v] X ok.toOkX h5 h6).pe h3 h4 v rfl
      unfold mName at h1
      simp only [Bool.and_eq_true, Bool.or_eq_true, decide_eq_true_eq] at h1
      have hl : Loc X.env.scope x := by
        rw [ok.sc]
        rcases h1.2 with q | q
        · exact .inl q
        · exact .inr q.2
      have hsw : swapsWith v (some (.Name x px)) p.line X.env = pure false := by
        rcases h2 with q | q
        · exact sw_false q
        · exact sw_cell (by rw [ok.sc]; exact q)
      refine .one rfl (ps_imp (ps_set (i := i) ok.nd (by rw [ok.N]; exact h1.1) hl he hsw (.inl (ok.fn x))) fun D σ H ⟨g0, H0, ρ, g, P, env, wp, out⟩ => ?_)
      refine mkS env out wp fun r v g1 H1 hr q1 rr => ?_
      obtain ⟨ρ', g2, hk, env2⟩ := env.put q1 hr rr
      exact out.nx _ _ _ _ hk env2
    · cases h
  | setLc i own e =>
    intro sts X ok h
    unfold mS at h
    split at h
    · rename_i x px el t iter ifs scope p sp
      simp only [Bool.and_eq_true, decide_eq_true_eq, Bool.not_eq_true'] at h
      obtain ⟨⟨⟨⟨⟨⟨⟨h1, h2⟩, h3⟩, hk⟩, h4⟩, h5⟩, h6⟩, h7⟩ := h
      cases e <;> first | (cases h5; done) | skip
      rename_i own' tg it c elt
      simp only [okS, Bool.and_eq_true, Bool.not_eq_true', Bool.or_eq_true] at h6
      obtain ⟨⟨⟨⟨⟨i1, i2⟩, c1⟩, e1⟩, e2⟩, e3⟩ := h6
      simp only [mE, Bool.and_eq_true] at h7
      obtain ⟨⟨⟨⟨⟨⟨⟨m1, m2⟩, m3⟩, m4⟩, men⟩, m5⟩, m6⟩, m7⟩ := h7
      have men : isEn it = true → isTup t = true := fun z => by rw [z] at men; simpa using men
      have ht : ∀ X', OkX Θ W (relS scope sc) E0 false X' → PTs X' ifs (tCd Θ W E0 X'.K X'.mg c) := fun X' ok' => by
        split at m6
        · cases c <;> first | (cases m6; done) | exact pts_nil
        · rename_i x
          have c2 : isTs c = true ∧ okS c = true := by
            rcases c1 with c1 | c1
            · cases c <;> first | (cases c1; done) | (cases m6; done)
            · exact c1
          have s := (sound c E0 false _ _ X' ok' c2.2 m6).pt c2.1 _ rfl
          have e : tCd Θ W E0 X'.K X'.mg c = tTs Θ W E0 X'.K X'.mg c := by cases c <;> first | rfl | (cases m6; done)
          rw [e]
          exact pts_one s
        · cases m6
      refine .one rfl (ps_imp (ps_setLc (i := i) (tt := tCd Θ W E0 X.K X.mg c) (te := xD Θ W E0 X elt) (g := gT X.K tg) ok.calm ok.nd (by rw [ok.N]; exact h1) (by rw [ok.sc]; exact h2) (sw_true (by rw [ok.sc]; exact hk) (by rw [ok.sc]; exact h2) h3 h4)
        ((sound it Ec gx sc [iter] X ok.toOkX i2 m5).pi i1 iter t men rfl) (by rw [ok.N, ok.sc]; exact blk_ok m1)
        (fun s H C cl fp => s_tg (X := X.blk s H scope (compEnvC scope cl C X.env) fp) (ok.toOkX.blk s H C cl fp) (fun z => by cases z) m2)
        (fun s H C cl fp => ht (X.blk s H scope (compEnvC scope cl C X.env) fp) (ok.toOkX.blk s H C cl fp))
        (fun s H C cl fp => (sound elt E0 false _ _ (X.blk s H scope (compEnvC scope cl C X.env) fp) (ok.toOkX.blk s H C cl fp) e3 m7).pe e1 e2 _ rfl) (fun _ => fold_set m4)) fun D σ H ⟨g0, H0, ρ, g, P, env, wp, out⟩ => ?_)
      refine s_lc (fun j hj => of_decide_eq_true (List.all_eq_true.mp m3 j hj)) (mkS env out wp fun r v g1 H1 hr q1 rr => ?_)
      obtain ⟨ρ', g2, hk, env2⟩ := env.put q1 hr rr
      exact out.nx _ _ _ _ hk env2
    · cases h
  | unpack is e =>
    intro sts X ok h
    unfold mS at h
    split at h
    · rename_i ts k p v q
      simp only [Bool.and_eq_true, Bool.not_eq_true'] at h
      obtain ⟨⟨⟨⟨⟨h1, h2⟩, h3⟩, h4⟩, h5⟩, h6⟩ := h
      have he := (sound e Ec gx sc [v] X ok.toOkX h5 h6).pe h3 h4 v rfl
      have hg : PG X (.Tuple ts k p) (gT X.K (.many is)) := s_tg ok.toOkX (cell := true) (fun _ => ok.fn) (show mTg Θ.st.N sc true (.many is) (.Tuple ts k p) = true from h1)
      refine .one rfl (ps_imp (ps_asg he hg sw_sole (sw_none h2)) fun D σ H ⟨g0, H0, ρ, g, P, env, wp, out⟩ => ?_)
      refine mkS env out wp fun r v g1 H1 hr q1 rr => ?_
      split at hr
      · obtain ⟨ρ', hs, hk⟩ := hr
        exact run_tgS (tg := .many is) (env.grow q1) rr hs fun σ' e' => out.nx _ _ _ _ hk e'
      · exact hr.elim
    · cases h
  | ret e =>
    intro sts X ok h
    unfold mS at h
    split at h
    · simp only [Bool.and_eq_true, Bool.not_eq_true'] at h
      obtain ⟨⟨⟨h3, h4⟩, h5⟩, h6⟩ := h
      have he := (sound e Ec gx sc _ X ok.toOkX h5 h6).pe h3 h4 _ rfl
      refine .one rfl (ps_imp (ps_ret he) fun D σ H ⟨g0, H0, ρ, g, P, env, wp, out⟩ => ?_)
      exact mkS env out wp fun r v g1 H1 hr q1 rr => out.rt r v g1 H1 hr (env.g.trans q1) (rrep_free (fun _ => env.g.free) rr)
    · cases h
  | retO i =>
    intro sts X ok h
    unfold mS at h
    split at h
    · rename_i x px q
      simp only [Bool.and_eq_true, decide_eq_true_eq] at h
      have he : PE X (.Name x px) (tVar i) := pe_var (by rw [ok.N]; exact h.1.1) (by rw [ok.sc]; exact vis_of h.1.2) (okN_d h.2) (okN_c h.2)
      refine .one rfl (ps_imp (ps_ret he) fun D σ H ⟨g0, H0, ρ, g, P, env, wp, out⟩ => ?_)
      have wp : (match ρ[i]? with | some (.own ds) => P.rt (.new ds) | _ => False) := wp
      split at wp
      · rename_i ds e
        obtain ⟨a, xs, h1, h2, h3, hz, h4⟩ := env.env.own i ds e
        exact ⟨_, h1, out.rt _ _ g H wp env.g ⟨a, xs, rfl, h2, h3, hz, env.young i ds a e h1, h4⟩⟩
      · exact wp.elim
    · cases h
  | retN =>
    intro sts X ok h
    unfold mS at h
    split at h
    · exact .one rfl (ps_imp ps_retN fun D σ H ⟨g0, H0, ρ, g, P, env, wp, out⟩ => out.rt _ _ g H wp env.g .non)
    · cases h
  | ife c a b iha ihb =>
    intro sts X ok h
    unfold mS at h
    split at h
    · simp only [Bool.and_eq_true] at h
      obtain ⟨⟨⟨⟨⟨⟨h1, h2⟩, h3⟩, h4⟩, h5⟩, h6⟩, h7⟩ := h
      have hc := (sound c Ec gx sc _ X ok.toOkX h2 h3).pt h1 _ rfl
      refine .one rfl (ps_imp (ps_if hc ((iha _ X ok h6).bl h4) ((ihb _ X ok h7).bl h5)) fun D σ H ⟨g0, H0, ρ, g, P, env, wp, out⟩ => ?_)
      refine mkST env out wp fun k g1 H1 hk q1 => ?_
      cases k with
      | true => rw [if_pos rfl]; exact ⟨g0, H0, ρ, g1, P, env.grow q1, hk, out⟩
      | false => rw [if_neg Bool.false_ne_true]; exact ⟨g0, H0, ρ, g1, P, env.grow q1, hk, out⟩
    · cases h
  | for_ tg it b ihb =>
    intro sts X ok h
    unfold mS at h
    split at h
    · rename_i t iter body p
      simp only [Bool.and_eq_true, Bool.not_eq_true'] at h
      obtain ⟨⟨⟨⟨⟨⟨⟨h1, h2⟩, hen⟩, h3⟩, h4⟩, h5⟩, h6⟩, h7⟩ := h
      have hen : isEn it = true → isTup t = true := fun z => by rw [z] at hen; simpa using hen
      have hi := (sound it Ec gx sc [iter] X ok.toOkX h4 h5).pi h3 iter t hen rfl
      have hg := s_tg ok.toOkX (cell := true) (fun _ => ok.fn) h1
      refine .one rfl (ps_imp (ps_for ok.own ok.calm hi hg ((ihb body X ok h7).bl h6) (fun _ => fold_set h2)) fun D σ H ⟨g0, H0, ρ, g, P, env, wp, out⟩ => ?_)
      refine ⟨ρ, g, _, P.ex, env.env, wp, fun r hr => let ⟨xs, q, _⟩ := hr; ⟨xs, q⟩, fun r xs g1 H1 J hr hx q1 w => ?_, out.ex.step env.g⟩
      obtain ⟨xs', hx', hr⟩ := hr
      rw [hx] at hx'
      cases hx'
      have env1 := env.grow q1
      refine for_it w (fun i σ H => ∃ ρ g, EnvS X.K W g1 H0 ρ g σ H ∧ loopW (bindT tg) (fun ρ' k => wpS Θ b ρ' { nx := k, ct := k, bk := P.nx, rt := P.rt, ex := P.ex }) (xs.drop i) ρ P.nx) ⟨ρ, g1, env1.base, hr⟩ ?_ ?_ ?_
      · rintro i σ H _ ⟨ρ, g, e, _⟩
        exact e.g.e.s.trans e.g.ok.sub
      · rintro i x σ H Hx hi ⟨ρ, g, e, hw⟩ hy
        obtain ⟨d, g2, hd, q2, hv⟩ := hy g e.g.e e.g.ok
        have hi' : i < xs.length := hi
        have ed : xs[i] = d := by rw [List.getElem?_eq_getElem hi'] at hd; exact Option.some.inj hd
        rw [List.drop_eq_getElem_cons hi', ed] at hw
        obtain ⟨ρ', hb, hw⟩ := hw
        refine run_tgS (e.grow q2) hv hb fun σ2 e2 => ?_
        exact ⟨g1, H0, ρ', g2, _, e2, hw, ⟨fun ρ3 g3 σ3 H3 hn he => ⟨ρ3, g3, he, hn⟩, fun ρ3 g3 σ3 H3 hn he => out.nx _ _ _ _ hn (he.low env1.g), fun ρ3 g3 σ3 H3 hn he => ⟨ρ3, g3, he, hn⟩, fun r v g3 H3 hr q3 rr => out.rt r v g3 H3 hr (grow_low env1.g q3) rr,
          fun n C g3 H3 hn hm q3 => out.ex n C g3 H3 hn hm (grow_low env1.g q3)⟩⟩
      · rintro σ H ⟨ρ, g, e, hw⟩
        rw [List.drop_length] at hw
        exact out.nx _ _ _ _ hw (e.low env1.g)
    · cases h
  | while_ c b ihb =>
    intro sts X ok h
    unfold mS at h
    split at h
    · simp only [Bool.and_eq_true] at h
      obtain ⟨⟨⟨⟨h1, h2⟩, h3⟩, h4⟩, h5⟩ := h
      have hc := (sound c Ec gx sc _ X ok.toOkX h2 h3).pt h1 _ rfl
      refine .one rfl (ps_imp (ps_while ok.own hc ((ihb _ X ok h5).bl h4)) fun D σ H ⟨g0, H0, ρ, g, P, env, wp, out⟩ => ?_)
      obtain ⟨n, wp⟩ := wp
      refine ⟨fun m σ H => ∃ ρ g, EnvS X.K W g0 H0 ρ g σ H ∧ whileW (fun ρ' k => wpE Θ c P.ex ρ' k) (fun ρ' k => wpS Θ b ρ' { nx := k, ct := k, bk := P.nx, rt := P.rt, ex := P.ex }) P.nx m ρ, ⟨n, ρ, g, env, wp⟩, ?_⟩
      rintro m σ H ⟨ρ, g, e, hw⟩
      cases m with
      | zero => exact hw.elim
      | succ m =>
        refine mkST e out hw fun k g1 H1 hk q1 => ?_
        cases k with
        | true =>
          rw [if_pos rfl]
          refine ⟨fun σ H => ∃ ρ g, EnvS X.K W g0 H0 ρ g σ H ∧ whileW (fun ρ' k => wpE Θ c P.ex ρ' k) (fun ρ' k => wpS Θ b ρ' { nx := k, ct := k, bk := P.nx, rt := P.rt, ex := P.ex }) P.nx m ρ, fun σ' H' q => ⟨m, Nat.lt_succ_self m, q⟩, ?_⟩
          exact ⟨g0, H0, ρ, g1, _, e.grow q1, hk, ⟨fun ρ3 g3 σ3 H3 hn he => ⟨ρ3, g3, he, hn⟩, fun ρ3 g3 σ3 H3 hn he => out.nx _ _ _ _ hn he, fun ρ3 g3 σ3 H3 hn he => ⟨ρ3, g3, he, hn⟩, out.rt, out.ex⟩⟩
        | false => rw [if_neg Bool.false_ne_true]; exact out.nx _ _ _ _ hk (e.grow q1)
    · cases h
  | app i e =>
    intro sts X ok h
    unfold mS at h
    split at h
    · rename_i x px n ap y cp p
      simp only [Bool.and_eq_true, decide_eq_true_eq, Bool.not_eq_true'] at h
      obtain ⟨⟨⟨⟨⟨⟨⟨⟨⟨h1, h2⟩, h3⟩, rfl⟩, h4⟩, h5⟩, h6⟩, h7⟩, h8⟩, h9⟩ := h
      have hv : PE X (.Name x px) (tVar i) := pe_var (by rw [ok.N]; exact h1) (by rw [ok.sc]; exact vis_of h2) (okN_d h3) (okN_c h3)
      have he := (sound e Ec gx sc [y] X ok.toOkX h8 h9).pe h6 h7 y rfl
      have hm := pe_bm (cpos := cp) PySem.F.plainAttrs_list PySem.F.slot_list_append PySem.F.type_list_append mt_append hv (pa_cons he pa_nil (star_cons h4)) (attr_base rfl) (by rw [star_cons h4]; rfl) h5 (star_cons h4)
      refine .one rfl (ps_imp (ps_expr hm) fun D σ H ⟨g0, H0, ρ, g, P, env, wp, out⟩ => ?_)
      have wp : (match ρ[i]? with | some (.own ds) => wpE Θ e P.ex ρ fun r => ds.length < sizeLine ∧ P.nx (ρ.set i (.own (ds ++ [r.d]))) | _ => False) := wp
      split at wp
      · rename_i ds e1
        obtain ⟨l, xs, p1, p2, p3, pz, p4⟩ := env.env.own i ds e1
        refine ⟨_, p1, .inl ⟨rfl, _, .of p2⟩, mkS env out wp fun r v g1 H1 hr q1 rr => ?_⟩
        obtain ⟨g2, q2, _, hd⟩ := RRep.frz q1 rr
        exact ⟨l, xs, v, rfl, rfl, q1.h _ _ p2 pz, by rw [dpa_len p4]; exact hr.1, out.nx _ _ _ _ hr.2 (env.wr q2 e1 p1 p2 p3 pz (dpa_app (dpa_mono q2.e p4) (.cons hd .nil)))⟩
      · exact wp.elim
    · cases h
  | expr e =>
    intro sts X ok h
    unfold mS at h
    split at h
    · simp only [Bool.and_eq_true, Bool.not_eq_true'] at h
      obtain ⟨⟨⟨⟨h1, h3⟩, h4⟩, h5⟩, h6⟩ := h
      have he := (sound e Ec gx sc _ X ok.toOkX h5 h6).pe h3 h4 _ rfl
      refine .one rfl (ps_imp (ps_expr he (sw_false h1)) fun D σ H ⟨g0, H0, ρ, g, P, env, wp, out⟩ => ?_)
      exact mkS env out wp fun r v g1 H1 hr q1 rr => out.nx _ _ _ _ hr (env.grow q1)
    · cases h
  | frz i =>
    intro sts X ok h
    cases h
  | aug i op e =>
    intro sts X ok h
    unfold mS at h
    split at h
    · rename_i x px o y p
      simp only [Bool.and_eq_true, Bool.or_eq_true, decide_eq_true_eq, Bool.not_eq_true'] at h
      obtain ⟨⟨⟨⟨⟨⟨h1, h2⟩, rfl⟩, h3⟩, h4⟩, h5⟩, h6⟩ := h
      have he := (sound e Ec gx sc [y] X ok.toOkX h5 h6).pe h3 h4 y rfl
      obtain ⟨f, hp, hf⟩ := ip_of X op
      refine .one rfl (ps_imp (ps_aug (i := i) ok.nd (by rw [ok.N]; exact h1) (by rw [ok.sc]; exact h2) he hp (.inl (ok.fn x))) fun D σ H ⟨g0, H0, ρ, g, P, env, wp, out⟩ => ?_)
      have wp : (match ρ[i]? with | some (.val d) => wpE Θ e P.ex ρ fun r => augW op d r fun z => P.nx (ρ.set i (.val z)) | _ => False) := wp
      split at wp
      · rename_i d e1
        obtain ⟨v, hv, hd⟩ := env.env.val i d e1
        refine ⟨v, hv, mkS env out wp fun r u g1 H1 hr q1 rr => ?_⟩
        obtain ⟨a, b, z, rfl, rfl, e2, hk⟩ := hf _ _ _ hr
        cases hd
        cases (show Dp X.K W g1 u (.int b) from rr)
        exact ⟨a, b, z, rfl, rfl, e2, out.nx _ _ _ _ hk ((env.grow q1).set (.int z) i)⟩
      · exact wp.elim
    · cases h
  | raise_ n =>
    intro sts X ok h
    unfold mS at h
    split at h
    · rename_i x px m j p2 p3 p4
      simp only [Bool.and_eq_true, decide_eq_true_eq] at h
      obtain ⟨⟨⟨rfl, h1⟩, h2⟩, h3⟩ := h
      obtain ⟨C, gC, xP, kC, bP, tP⟩ := ok.exc _ h1
      refine .one rfl (ps_imp (ps_raise ok.calm ok.takes (pmk_own PySem.F.excBase_ValueError xP gC kC (raises_own bP tP) (ok.gl h2) (okN_d h3))) fun D σ H ⟨g0, H0, ρ, g, P, env, wp, out⟩ => ?_)
      exact out.ex _ C g H wp gC env.g
    · cases h
  | seti i ix e =>
    intro sts X ok h
    unfold mS at h
    split at h
    · rename_i x px y sp v p
      simp only [Bool.and_eq_true, decide_eq_true_eq, Bool.not_eq_true'] at h
      obtain ⟨⟨⟨⟨⟨⟨⟨⟨⟨⟨⟨⟨⟨h1, h2⟩, h3⟩, t1⟩, t2⟩, h4⟩, h5⟩, h6⟩, h7⟩, h8⟩, h9⟩, h10⟩, h11⟩, h12⟩ := h
      have hv : PE X (.Name x px) (tVar i) := pe_var (by rw [ok.N]; exact h1) (by rw [ok.sc]; exact vis_of h2) (okN_d h3) (okN_c h3)
      have he := (sound e Ec gx sc [v] X ok.toOkX h6 h7).pe h4 h5 v rfl
      have hi := (sound ix Ec gx sc [y] X ok.toOkX h11 h12).pe h9 h10 y rfl
      refine .one rfl (ps_imp (ps_asg he (pg_sub hv hi set_list (by cases y <;> first | (intro _; rfl) | cases h8)) (sw_sub t2) (sw_sub2 t1)) fun D σ H ⟨g0, H0, ρ, g, P, env, wp, out⟩ => ?_)
      have wp : (match ρ[i]? with | some (.own ds) => wpE Θ e P.ex ρ fun r => wpE Θ ix P.ex ρ fun k => ∃ z j, k = .val (.int z) ∧ ixN ds.length z = some j ∧ P.nx (ρ.set i (.own (ds.set j r.d))) | _ => False) := wp
      split at wp
      · rename_i ds e1
        refine mkS env out wp fun r u g1 H1 hr q1 rr => ?_
        obtain ⟨g2, q2, _, hd⟩ := RRep.frz q1 rr
        obtain ⟨l, xs, p1, p2, p3, pz, p4⟩ := env.env.own i ds e1
        refine ⟨_, p1, mkS (env.grow q2) out hr fun rk k g3 H3 h3 q3 rr3 => ?_⟩
        obtain ⟨z, j, rfl, hj, hn⟩ := h3
        cases (show Dp X.K W g3 k (.int z) from rr3)
        exact ⟨l, xs, z, j, rfl, rfl, (q2.trans q3).h _ _ p2 pz, by rw [dpa_len p4]; exact hj, out.nx _ _ _ _ hn (env.wr (q2.trans q3) e1 p1 p2 p3 pz (dpa_set (dp_mono q3.e hd) j (dpa_mono (q2.trans q3).e p4)))⟩
      · exact wp.elim
    · cases h
  | pass =>
    intro sts X ok h
    unfold mS at h
    split at h
    · exact .one rfl (ps_imp ps_pass fun D σ H ⟨g0, H0, ρ, g, P, env, wp, out⟩ => out.nx _ _ _ _ wp env)
    · cases h
  | brk =>
    intro sts X ok h
    unfold mS at h
    split at h
    · exact .one rfl (ps_imp ps_break fun D σ H ⟨g0, H0, ρ, g, P, env, wp, out⟩ => out.bk _ _ _ _ wp env)
    · cases h
  | cont =>
    intro sts X ok h
    unfold mS at h
    split at h
    · exact .one rfl (ps_imp ps_continue fun D σ H ⟨g0, H0, ρ, g, P, env, wp, out⟩ => out.ct _ _ _ _ wp env)
    · cases h
end
end PG

namespace PG
open PySem L2 PyProof.Rows
/-- a def that keeps its promise, with at most k calls one within another -/
def FnIn (P : Program) (w : World) (K : Fg) (W : Wd) (mg : Str → Option Value) (base : Heap) (k : Nat) (fe : FEntry) : Prop :=
  ∃ f fd, mg fe.name = some (.ref f) ∧ PySem.W.keepIn K (.ref f) = true ∧ Binds K fd fe.ps [] ∧ FnOk P w K mg base (L2.CX P w) k f fd fe.ps (spD K W mg fe.sp)
structure TabOk (Θ : Tb) (P : Program) (w : World) (K : Fg) (W : Wd) (mg : Str → Option Value) (base : Heap) : Prop where
  fns : ∀ (j : Nat) (fe : FEntry), Θ.φ[j]? = some fe → FnIn P w K W mg base Θ.k fe
  cons : ∀ (j : Nat) (p : Str × D), Θ.κ[j]? = some p → ∃ u v, mg p.1 = some u ∧ RelV v u ∧ ∀ g, Dp K W g v p.2
  blt : ∀ x ∈ Θ.bn, mg x = none
  exc : ∀ n ∈ Θ.xs, ExcAt K mg n
def rho0 (N : List Str) (ds : List D) : List Sl := ds.map .val ++ List.replicate (N.length - ds.length) .un
def postOf (Ξ : Ex) (Φ : R → Prop) : Post := { nx := fun _ => Φ (.val .none), rt := Φ, bk := fun _ => False, ct := fun _ => False, ex := Ξ }
theorem dpa_at {K : Fg} {W : Wd} {g : Kn} {vs : List V} {ds : List D} (h : DpAll K W g vs ds) (n : Nat) {i : Nat} {d : D} (e : (ds.map Sl.val ++ List.replicate n Sl.un)[i]? = some (Sl.val d)) (m : Nat) :
    ∃ v, (vs.map some ++ List.replicate m none)[i]? = some (some v) ∧ Dp K W g v d := by
  have hl := dpa_len h
  by_cases hi : i < ds.length
  · rw [List.getElem?_append_left (by simpa using hi), List.getElem?_map] at e
    cases q : ds[i]? with
    | none => rw [q] at e; cases e
    | some d' =>
      rw [q] at e
      cases e
      obtain ⟨v, h1, h2⟩ := dpa_get h q
      refine ⟨v, ?_, h2⟩
      rw [List.getElem?_append_left (by simpa [hl] using hi), List.getElem?_map, h1]
      rfl
  · rw [List.getElem?_append_right (by simpa using hi), List.getElem?_replicate] at e
    split at e <;> cases e
/-- a def of the text as it stands behind the top, its code at cdv -/
structure FunC (K : Fg) (x : Str) (st : Stmt) (cdv : Value) (f : Addr) (fd : FuncData) : Prop where
  ex : ∃ (oc : Value) (od : Option Addr) (kV doc pm : Value) (an : Option Addr) (ct : Value) (osl : Array (Option Value)),
    fd = PySem.W.fnOf x x (defArgs st) (defBody st) (defScope st) .none kV doc pm an cdv ct ∧ K.lookup f = some ⟨oc, od, .func fd, osl⟩ ∧ PySem.W.codeIn K cdv x = true
  kp : PySem.W.keepIn K (.ref f) = true
section
variable {P : Program} {w : World} {K : Fg} {W : Wd} {mg : Str → Option Value} {base : Heap}
theorem FnIn.mono {j k : Nat} {fe : FEntry} (h : FnIn P w K W mg base j fe) (l : j ≤ k) : FnIn P w K W mg base k fe :=
  let ⟨f, fd, h1, h2, h3, h4⟩ := h
  ⟨f, fd, h1, h2, h3, h4.mono l⟩
/-- THE RULE for a def; gx: it holds generator expressions (one level more) -/
theorem def_fn {Θ : Tb} {x : Str} {st : Stmt} {cdv : Value} {f : Addr} {fd : FuncData} {ps : List Str} {sp : List D → Ex → (R → Prop) → Prop} {body : S} (gx : Bool) (T : TabOk Θ P w K W mg base) (F : FunC K x st cdv f fd) (hgx : gx = true → ∃ c Q, cdv = .ref c ∧ GxR.TabB base mg c Q ∧ Q ∈ W.tb)
    (Sc : FnScope Θ.N ps (defScope st)) (hbl : isB body = true) (hc : mS Θ.st gx (defScope st) body (defBody st) = true) (hlen : ∀ ds Ξ Φ, sp ds Ξ Φ → ds.length = ps.length)
    (hwp : ∀ ds Ξ Φ, sp ds Ξ Φ → wpS Θ body (rho0 Θ.N ds) (postOf Ξ Φ)) : FnOk P w K mg base (L2.CX P w) (Θ.k + 1 + (if gx then 1 else 0)) f fd ps (spD K W mg sp) := by
  obtain ⟨oc, od, kV, doc, pm, an, ct, osl, rfl, lk, hcd⟩ := F.ex
  have e : Θ.k + 1 + (if gx = true then 1 else 0) = (Θ.k + (if gx = true then 1 else 0)) + 1 := by omega
  rw [e]
  refine fn_of (CX := L2.CX P w) lk hcd Sc (fun vs H Q E h => ?_) fun A outer s H vs Q E hr h => ?_
  · obtain ⟨ds, g, Φ, Ξ, _, _, h1, h2, _⟩ := h
    rw [dpa_len h1]
    exact hlen ds Ξ Φ h2
  · obtain ⟨ds, g, Φ, Ξ, sG, tb, h1, h2, out, ox⟩ := h
    have ok : OkF Θ W (defScope st) E gx (cxOf (L2.CX P w) P w K mg base Θ.N x (defScope st) f cdv A outer s H E) :=
      { N := rfl, nd := Sc.nd, sc := rfl, calm := rfl, room := hr.mono (Nat.le_add_right _ _), roomG := fun z => by rw [z] at hr; exact hr, pass := passes_call (takes_of rfl rfl rfl rfl) (fun _ _ _ _ h => h),
        tab := fun z => by obtain ⟨c, Q, e1, e2, e3⟩ := hgx z; exact ⟨c, Q, e1, e2, e3⟩, fns := T.fns, cons := T.cons, blt := T.blt, fn := fun _ => rfl, own := passes_of rfl, takes := takes_of rfl rfl rfl rfl, exc := T.exc }
    refine ⟨tS Θ W E K mg body, (soundS body _ _ ok hc).bl hbl, ?_⟩
    have hl := hlen ds Ξ Φ h2
    have hN : ps.length ≤ Θ.N.length := by have := congrArg List.length Sc.pre; rw [List.length_take] at this; omega
    have hv := dpa_len h1
    refine ⟨g, H, rho0 Θ.N ds, g, postOf Ξ Φ, ⟨⟨?_, sG, tb, fun i d hd => dpa_at h1 _ hd _, fun i es hd => ?_, fun i j a es fs _ hd _ _ _ => ?_⟩, .refl sG, fun i es a hd _ => ?_⟩, hwp ds Ξ Φ h2, ⟨fun ρ g' σ H' hn he => ?_, fun _ _ _ _ z => z.elim, fun _ _ _ _ z => z.elim, fun r v g' H' hr' q rr => out r v g' H' hr' q rr, ox⟩⟩
    · unfold L2.start rho0
      simp only [List.length_append, List.length_map, List.length_replicate]
      omega
    all_goals first
      | exact out _ _ g' H' hn he.g .non
      | (exfalso
         unfold rho0 at hd
         by_cases hi : i < ds.length
         · rw [List.getElem?_append_left (by simpa using hi), List.getElem?_map] at hd
           cases q : ds[i]? with
           | none => rw [q] at hd; cases hd
           | some d' => rw [q] at hd; cases hd
         · rw [List.getElem?_append_right (by simpa using hi), List.getElem?_replicate] at hd
           split at hd <;> cases hd)
/-- the same, as an entry of a table -/
theorem def_ok {Θ : Tb} {x : Str} {st : Stmt} {cdv : Value} {f : Addr} {fd : FuncData} {ps : List Str} {sp : List D → Ex → (R → Prop) → Prop} {body : S} (T : TabOk Θ P w K W mg base) (F : FunC K x st cdv f fd) (hm : mg x = some (.ref f)) (hb : Binds K fd ps [])
    (Sc : FnScope Θ.N ps (defScope st)) (hbl : isB body = true) (hc : mS Θ.st false (defScope st) body (defBody st) = true) (hlen : ∀ ds Ξ Φ, sp ds Ξ Φ → ds.length = ps.length)
    (hwp : ∀ ds Ξ Φ, sp ds Ξ Φ → wpS Θ body (rho0 Θ.N ds) (postOf Ξ Φ)) : FnIn P w K W mg base (Θ.k + 1) ⟨x, ps, sp⟩ :=
  ⟨f, fd, hm, F.kp, hb, def_fn false T F (fun z => by cases z) Sc hbl hc hlen hwp⟩
theorem def_okG {Θ : Tb} {x : Str} {st : Stmt} {c Q : Addr} {f : Addr} {fd : FuncData} {ps : List Str} {sp : List D → Ex → (R → Prop) → Prop} {body : S} (T : TabOk Θ P w K W mg base) (F : FunC K x st (.ref c) f fd) (TB : GxR.TabB base mg c Q) (hQ : Q ∈ W.tb) (hm : mg x = some (.ref f)) (hb : Binds K fd ps [])
    (Sc : FnScope Θ.N ps (defScope st)) (hbl : isB body = true) (hc : mS Θ.st true (defScope st) body (defBody st) = true) (hlen : ∀ ds Ξ Φ, sp ds Ξ Φ → ds.length = ps.length)
    (hwp : ∀ ds Ξ Φ, sp ds Ξ Φ → wpS Θ body (rho0 Θ.N ds) (postOf Ξ Φ)) : FnIn P w K W mg base (Θ.k + 2) ⟨x, ps, sp⟩ :=
  ⟨f, fd, hm, F.kp, hb, def_fn true T F (fun _ => ⟨c, Q, rfl, TB, hQ⟩) Sc hbl hc hlen hwp⟩
/-- nothing is promised where nothing is asked -/
theorem none_ok {x : Str} {st : Stmt} {cdv : Value} {f : Addr} {fd : FuncData} {ps : List Str} {k : Nat} {sp : List D → Ex → (R → Prop) → Prop} (F : FunC K x st cdv f fd) (hm : mg x = some (.ref f)) (hb : Binds K fd ps []) (h : ∀ ds Ξ Φ, ¬ sp ds Ξ Φ) : FnIn P w K W mg base k ⟨x, ps, sp⟩ := by
  have no : ∀ vs H Q E, ¬ spD K W mg sp vs H Q E := fun vs H Q E q => by
    obtain ⟨ds, g, Φ, Ξ, _, _, _, h2, _⟩ := q
    exact h ds Ξ Φ h2
  exact ⟨f, fd, hm, F.kp, hb, ⟨fun vs H Q E q => absurd q (no vs H Q E), fun A outer s H args us vs Q E _ _ _ _ q => absurd q (no vs H Q E)⟩⟩
end
/-- where a def stands behind the top -/
def DefAt (K : Fg) (x : Str) (st : Stmt) (cd : Value) : Prop := ∃ (f : Addr) (oc : Value) (od an : Option Addr) (sl : Array (Option Value)) (kV dc pm ct : Value),
  PySem.W.nsIn K mainGlobals x = some (some (.ref f)) ∧ K.lookup f = some ⟨oc, od, .func (PySem.W.fnOf x x (defArgs st) (defBody st) (defScope st) .none kV dc pm an cd ct), sl⟩ ∧ PySem.W.codeIn K cd x = true ∧ PySem.W.keepIn K (.ref f) = true
theorem DefAt.mk {K : Fg} {x : Str} {st : Stmt} {f : Addr} {oc : Value} {od an : Option Addr} {sl : Array (Option Value)} {kV dc pm cd ct : Value} (h1 : PySem.W.nsIn K mainGlobals x = some (some (.ref f)))
    (h2 : K.lookup f = some ⟨oc, od, .func (PySem.W.fnOf x x (defArgs st) (defBody st) (defScope st) .none kV dc pm an cd ct), sl⟩) (h3 : PySem.W.codeIn K cd x = true) (h4 : PySem.W.keepIn K (.ref f) = true) : ∃ cd, DefAt K x st cd := ⟨cd, f, oc, od, an, sl, kV, dc, pm, ct, h1, h2, h3, h4⟩
/-- .. and its table of code objects -/
def TabAt (K : Fg) (x : Str) (st : Stmt) (c P : Addr) : Prop := DefAt K x st (.ref c) ∧ (∃ e dd vs sl, K.lookup c = some ⟨e, dd, .fields vs, sl⟩ ∧ vs[11]? = some (.ref P)) ∧ K.lookup P = none
theorem TabAt.mk {K : Fg} {x : Str} {st : Stmt} {f c Q : Addr} {oc : Value} {od an : Option Addr} {sl : Array (Option Value)} {kV dc pm ct : Value} {e : Value} {dd : Option Addr} {vs : Array Value} {sl2 : Array (Option Value)} (h1 : PySem.W.nsIn K mainGlobals x = some (some (.ref f)))
    (h2 : K.lookup f = some ⟨oc, od, .func (PySem.W.fnOf x x (defArgs st) (defBody st) (defScope st) .none kV dc pm an (.ref c) ct), sl⟩) (h3 : PySem.W.codeIn K (.ref c) x = true) (h4 : PySem.W.keepIn K (.ref f) = true)
    (h5 : K.lookup c = some ⟨e, dd, .fields vs, sl2⟩) (h6 : vs[11]? = some (.ref Q)) (h7 : K.lookup Q = none) : ∃ c Q, TabAt K x st c Q := ⟨c, Q, ⟨f, oc, od, an, sl, kV, dc, pm, ct, h1, h2, h3, h4⟩, ⟨e, dd, vs, sl2, h5, h6⟩, h7⟩
def IntAt (K : Fg) (x : Str) (i : Int) : Prop := ∃ t, PySem.W.nsIn K mainGlobals x = some (some (.int i t))
theorem IntAt.mk {K : Fg} {x : Str} {i : Int} {t : Tok} (h : PySem.W.nsIn K mainGlobals x = some (some (.int i t))) : IntAt K x i := ⟨t, h⟩
/-- an own exception's class stands there -/
def ExcIn (K : Fg) (n : Str) : Prop := ∃ C, PySem.W.nsIn K mainGlobals n = some (some (.ref C)) ∧ PySem.W.excIn K C [.type "ValueError", .type "Exception", .type "BaseException", .type "object"] "ValueError.__new__" = true ∧ PySem.W.keepIn K (.ref C) = true ∧
  PySem.W.subIn K (.ref C) (.type "BaseException") = some true ∧ PySem.W.typeIn K (.ref C) = some (.type "type")
theorem ExcIn.mk {K : Fg} {n : Str} {C : Addr} (h1 : PySem.W.nsIn K mainGlobals n = some (some (.ref C))) (h2 : PySem.W.excIn K C [.type "ValueError", .type "Exception", .type "BaseException", .type "object"] "ValueError.__new__" = true) (h3 : PySem.W.keepIn K (.ref C) = true)
  (h4 : PySem.W.subIn K (.ref C) (.type "BaseException") = some true) (h5 : PySem.W.typeIn K (.ref C) = some (.type "type")) : ExcIn K n := ⟨C, h1, h2, h3, h4, h5⟩
theorem ExcIn.at {K : Fg} {n : Str} {h : Heap} {mg : Str → Option Value} (X : K.In h) (G : h.Ns mainGlobals mg) (e : ExcIn K n) : ExcAt K mg n :=
  let ⟨C, h1, h2, h3, h4, h5⟩ := e
  ⟨C, PySem.W.mg_of X G h1, h2, h3, h4, h5⟩
/-- .. and how its arguments come -/
def ArgsOk (st : Stmt) (x : Str) (ps : List Str) : Prop := ∀ (kV doc pm : Value) (an : Option Addr) (cdv ct : Value) (us : List Value), us.length = ps.length → bindArgs (PySem.W.fnOf x x (defArgs st) (defBody st) (defScope st) .none kV doc pm an cdv ct) ⟨us, []⟩ = pure (ps.zip us)
theorem DefAt.fun {K : Fg} {x : Str} {st : Stmt} {cd : Value} {h : Heap} {mg : Str → Option Value} (X : K.In h) (G : h.Ns mainGlobals mg) (d : DefAt K x st cd) {ps : List Str} (ha : ArgsOk st x ps) : ∃ f fd, FunC K x st cd f fd ∧ mg x = some (.ref f) ∧ Binds K fd ps [] ∧ (∀ (s : Shared) (us : List Value), us.length = ps.length → BindsTo s fd ⟨us, []⟩ (ps.zip us)) := by
  obtain ⟨f, oc, od, an, sl, kV, dc, pm, ct, h1, h2, h3, h4⟩ := d
  exact ⟨f, _, ⟨⟨oc, od, kV, dc, pm, an, ct, sl, rfl, h2, h3⟩, h4⟩, PySem.W.mg_of X G h1, .all (ha _ _ _ _ _ _), fun s us hl => .of_eq (ha _ _ _ _ _ _ us hl)⟩
/-- an int of the module -/
theorem con_int {K : Fg} {W : Wd} {x : Str} {i : Int} {h : Heap} {mg : Str → Option Value} (X : K.In h) (G : h.Ns mainGlobals mg) (e : IntAt K x i) : ∃ u v, mg x = some u ∧ RelV v u ∧ ∀ g, Dp K W g v (.int i) :=
  let ⟨t, e⟩ := e
  ⟨_, .int i, PySem.W.mg_of X G e, ⟨t, rfl⟩, fun _ => .int i⟩
/-- what law(script) promises -/
def lawSp : List D → Ex → (R → Prop) → Prop := fun ds Ξ Φ => ∃ ns : List Int, ds = [.list (ns.map .int)] ∧ ns.length ≤ 63 ∧ Φ (.val (.bool true))
/-- the tables at the law's entry -/
def AllTab (q : Program) (mg : Str → Option Value) (h : Heap) : Prop := ∀ d ∈ PyProof.Rows.recsOf q, ∃ a o fd c P, mg d.name = some (.ref a) ∧ h.get? a = some o ∧ o.data = .func fd ∧ fd.code = .ref c ∧ h.IsCode c P #[] ∧ h.TableAt c P #[]
theorem tab_empty {q : Program} {K : Fg} {mg : Str → Option Value} {h : Heap} {x : Str} {st : Stmt} {c P : Addr} (A : AllTab q mg h) (X : K.In h) (G : h.Ns mainGlobals mg) (t : TabAt K x st c P) (hr : ((PyProof.Rows.recsOf q).any fun e => e.name == x) = true) :
    h.get? P = some { cls := .none, data := .fields #[] } ∧ K.lookup P = none ∧ PySem.W.CodeHd h c P := by
  obtain ⟨⟨f, oc, od, an, sl, kV, dc, pm, ct, h1, h2, h3, h4⟩, ⟨e, dd, vs, sl2, h5, h6⟩, h7⟩ := t
  obtain ⟨dL, hm, hn⟩ := List.any_eq_true.mp hr
  obtain ⟨a, o, fd, c', P', g1, g2, g3, g4, g5, g6⟩ := A dL hm
  rw [beq_iff_eq.mp hn, PySem.W.mg_of X G h1] at g1
  cases g1
  rw [X _ _ h2] at g2
  cases g2
  cases g3
  cases g4
  obtain ⟨⟨oc2, vc, k1, k2, k3, k4⟩, k5⟩ := id g6
  rw [X _ _ h5] at k1
  cases k1
  cases k3
  rw [h6] at k4
  cases k4
  exact ⟨k5, h7, .of g5 g6⟩
theorem walk {l : PySem.W.OpenLaw} {q : Program} {loose : List Str} {XP : (Str → Option Value) → Heap → Prop} {YP : World → Heap → Prop} {d : DefRec} {K : PySem.Params → Fg} {k : Nat} (hn : l.most = some 63) (hdf : d.params.defaults = []) (hk : Room k callerA)
    (hY : ∀ (w : World) (h : Heap), YP w h → (K w.params).In h)
    (F : ∀ (w : World) (mg : Str → Option Value) (h : Heap), (K w.params).In h → h.Ns mainGlobals mg → AllTab q mg h → ∃ (f : Addr) (fd : FuncData) (cs : List (Addr × Addr)) (W : Wd), mg d.name = some (.ref f) ∧ W.tb = cs.map (·.2) ∧ (∀ p ∈ cs, h.get? p.2 = some { cls := .none, data := .fields #[] } ∧ (K w.params).lookup p.2 = none ∧ PySem.W.CodeHd h p.1 p.2) ∧
      (∀ (s : Shared) (us : List Value), us.length = 1 → BindsTo s fd ⟨us, []⟩ ((["script"] : List Str).zip us)) ∧
      ∀ base : Heap, (K w.params).In base → base.Ns mainGlobals mg → (∀ p ∈ cs, GxR.TabB base mg p.1 p.2) → FnOk l.prog w (K w.params) mg base (L2.CX l.prog w) k f fd ["script"] (spD (K w.params) W mg lawSp)) :
    PySem.W.WalkO q loose XP YP l.row.toRowW d [] (fun f vs => PySem.call f vs) := by
  refine Att.attach_callB hn hdf fun w s₀ s₁ mg mb fa o pm cd doc a vs ns G Y ho hd hcd hmg hobj hints hlen hbits hg => ?_
  have KX := hY w _ Y
  obtain ⟨f, fd, cs, W, h1, htb, hcs, hb, hF⟩ := F w mg _ KX G.T.g G.T.tab
  rw [hmg] at h1
  cases h1
  refine LamX.law_callTs (CX := L2.CX l.prog w) (sp := spD (K w.params) W mg lawSp) KX G.T.g G.T.b G.T.builtins G.T.nolimit hg (fun p hp => (hcs p hp).1) (fun p hp => (hcs p hp).2.1) (fun p hp => (hcs p hp).2.2) G.T.bmain hobj hints (Nat.le_trans hlen (by decide)) hk (fun base X0 G0 tb0 => hF base X0 G0 fun p hp => ⟨(tb0 p hp).code, (tb0 p hp).bm, (tb0 p hp).gP⟩) (fun s u => hb s [u] rfl)
    (fun H hH hS => by
      have hL : SqL (K w.params) (fun b => if b ∈ W.tb then none else H b) a (ns.map V.int) := by
        have na : ∀ u : HO, H a = some u → (∀ ps, u ≠ .tbl ps) → a ∉ W.tb := fun u e hu q => by
          rw [htb] at q
          obtain ⟨p, hp, ep⟩ := List.mem_map.mp q
          have := hH p hp
          rw [ep, e] at this
          exact hu _ (Option.some.inj this)
        rcases hS with (e | ⟨o, e⟩) | e
        · exact .inl (.inl ((if_neg (na _ e fun ps z => by cases z)).trans e))
        · exact .inl (.inr ⟨o, (if_neg (na _ e fun ps z => by cases z)).trans e⟩)
        · exact .inr e
      refine ⟨[.list (ns.map .int)], ⟨fun b => if b ∈ W.tb then none else H b, fun b => if b ∈ W.tb then some fun o => ∃ ps : Array Value, o = .tbl ps ∧ TriplesOk ps.toList else none⟩, fun r => r = .val (.bool true), noEx, ⟨fun b o q => ?_, fun b φ q => ?_⟩, fun P hP => if_pos hP, .cons (.lst hL (ints_dpa ns)) .nil, ⟨ns, rfl, hlen, rfl⟩, fun r v g' H' hr _ rr => ?_, OutX.none⟩
      · have q : (if b ∈ W.tb then none else H b) = some o := q
        split at q
        · cases q
        · exact q
      · have q : (if b ∈ W.tb then some fun o => ∃ ps : Array Value, o = HO.tbl ps ∧ TriplesOk ps.toList else none) = some φ := q
        split at q
        · rename_i hb
          cases q
          refine ⟨if_pos hb, .tbl #[], ?_, #[], rfl, trivial⟩
          rw [htb] at hb
          obtain ⟨p, hp, e⟩ := List.mem_map.mp hb
          rw [← e]
          exact hH p hp
        · cases q
      · subst hr
        cases (show Dp _ _ g' v (.bool true) from rr)
        rfl) fun H e s' hc => ?_
  obtain ⟨a, B, H', cls, d, _, _, _, _, _, _, _, z⟩ := hc
  exact z.elim
end PG

namespace PG
open PySem L2
open PySem.PyData (strOk)
abbrev SpT := List D → Ex → (R → Prop) → Prop
/-! ### running the small language in a proof -/
theorem boolW_t {a b : Prop} : boolW a b (.val (.bool true)) = a := rfl
theorem boolW_f {a b : Prop} : boolW a b (.val (.bool false)) = b := rfl
theorem onB_b {Φ : R → Prop} {b : Bool} : onB Φ (.val (.bool b)) = Φ (.val (.bool b)) := rfl
theorem notW_b {Φ : R → Prop} {b : Bool} : notW Φ (.val (.bool b)) = Φ (.val (.bool (!b))) := rfl
theorem boolW_mk {a b : Prop} {c : Bool} (h1 : c = true → a) (h2 : c = false → b) : boolW a b (.val (.bool c)) := by
  cases c with
  | true => exact h1 rfl
  | false => exact h2 rfl
theorem boolW_dec {a b p : Prop} [Decidable p] (h1 : p → a) (h2 : ¬ p → b) : boolW a b (.val (.bool (decide p))) := boolW_mk (fun h => h1 (of_decide_eq_true h)) fun h => h2 (of_decide_eq_false h)
section
variable {P : Program} {w : World} {K : Fg} {W : Wd} {mg : Str → Option Value} {base : Heap} {k : Nat}
theorem fns_nil : ∀ (j : Nat) (fe : FEntry), ([] : List FEntry)[j]? = some fe → FnIn P w K W mg base k fe := fun j fe h => by simp at h
theorem fns_cons {fe : FEntry} {l : List FEntry} (h : FnIn P w K W mg base k fe) (t : ∀ (j : Nat) (fe : FEntry), l[j]? = some fe → FnIn P w K W mg base k fe) : ∀ (j : Nat) (fe' : FEntry), (fe :: l)[j]? = some fe' → FnIn P w K W mg base k fe'
  | 0, fe', e => by simp at e; subst e; exact h
  | j + 1, fe', e => t j fe' (by simpa using e)
def ConIn (K : Fg) (W : Wd) (mg : Str → Option Value) (p : Str × D) : Prop := ∃ u v, mg p.1 = some u ∧ RelV v u ∧ ∀ g, Dp K W g v p.2
theorem cons_nil : ∀ (j : Nat) (p : Str × D), ([] : List (Str × D))[j]? = some p → ConIn K W mg p := fun j fe h => by simp at h
theorem cons_cons {p : Str × D} {l : List (Str × D)} (h : ConIn K W mg p) (t : ∀ (j : Nat) (p : Str × D), l[j]? = some p → ConIn K W mg p) : ∀ (j : Nat) (q : Str × D), (p :: l)[j]? = some q → ConIn K W mg q
  | 0, fe', e => by simp at e; subst e; exact h
  | j + 1, fe', e => t j fe' (by simpa using e)
end
/-- a place to stop: what stands behind it is opened when it is come to -/
def blk (s : S) : S := s
def eblk (e : E) : E := e
theorem wpS_blk {Θ : Tb} {s : S} {ρ : List Sl} {P : Post} : wpS Θ (blk s) ρ P = wpS Θ s ρ P := rfl
theorem wpE_blk {Θ : Tb} {e : E} {Ξ : Ex} {ρ : List Sl} {Φ : R → Prop} : wpE Θ (eblk e) Ξ ρ Φ = wpE Θ e Ξ ρ Φ := rfl
/-! ### loops and comprehensions -/
theorem loopW_inv {t : List Sl → D → Option (List Sl)} {b : List Sl → (List Sl → Prop) → Prop} {k : List Sl → Prop} (I : List D → List Sl → Prop) (hs : ∀ x r ρ, I (x :: r) ρ → ∀ K : List Sl → Prop, (∀ ρ', I r ρ' → K ρ') → ∃ ρ', t ρ x = some ρ' ∧ b ρ' K) (hd : ∀ ρ, I [] ρ → k ρ) :
    ∀ (xs : List D) (ρ : List Sl), I xs ρ → loopW t b xs ρ k
  | [], ρ, h => hd ρ h
  | x :: r, ρ, h => hs x r ρ h (fun ρ' => loopW t b r ρ' k) fun ρ' h' => loopW_inv I hs hd r ρ' h'
/-- what a comprehension may give: each item kept as some y with T x y, or left out where C x -/
inductive Sel (T : D → D → Prop) (C : D → Prop) : List D → List D → Prop
  | nil : Sel T C [] []
  | keep {x y : D} {xs ys : List D} : T x y → Sel T C xs ys → Sel T C (x :: xs) (y :: ys)
  | drop {x : D} {xs ys : List D} : C x → Sel T C xs ys → Sel T C (x :: xs) ys
theorem Sel.len {T : D → D → Prop} {C : D → Prop} {xs ys : List D} (h : Sel T C xs ys) : ys.length ≤ xs.length := by
  induction h with
  | nil => exact Nat.le_refl _
  | keep _ _ ih => exact Nat.succ_le_succ ih
  | drop _ _ ih => exact Nat.le_succ_of_le ih
theorem Sel.fm {g : D → Option D} {xs ys : List D} (h : Sel (fun x y => g x = some y) (fun x => g x = none) xs ys) : ys = xs.filterMap g := by
  induction h with
  | nil => rfl
  | keep e _ ih => rw [List.filterMap_cons, e, ih]
  | drop e _ ih => rw [List.filterMap_cons, e, ih]
theorem compW_sel {b : D → (List Sl → Prop) → Prop} {c f : List Sl → (R → Prop) → Prop} {Φ : R → Prop} (T : D → D → Prop) (C : D → Prop) : ∀ (xs acc : List D), acc.length + xs.length ≤ sizeLine →
    (∀ x ∈ xs, ∀ (A : R → Prop) (B : Prop), (∀ r, T x r.d → A r) → (C x → B) → b x fun ρ => c ρ (boolW (f ρ A) B)) →
    (∀ ys, Sel T C xs ys → Φ (.new (acc ++ ys))) → compW b c f xs acc Φ
  | [], acc, _, _, h => by
    have := h [] .nil
    rw [List.append_nil] at this
    exact this
  | x :: xs, acc, hl, hs, h => by
    rw [List.length_cons] at hl
    refine hs x List.mem_cons_self _ _ (fun r hr => ⟨by omega, ?_⟩) fun hc => ?_
    · refine compW_sel T C xs (acc ++ [r.d]) (by rw [List.length_append, List.length_singleton]; omega) (fun z hz => hs z (List.mem_cons_of_mem _ hz)) fun ys hy => ?_
      rw [List.append_assoc]
      exact h _ (.keep hr hy)
    · exact compW_sel T C xs acc (by omega) (fun z hz => hs z (List.mem_cons_of_mem _ hz)) fun ys hy => h _ (.drop hc hy)
/-- .. where each item gives just one thing -/
theorem compW_fm {b : D → (List Sl → Prop) → Prop} {c f : List Sl → (R → Prop) → Prop} {Φ : R → Prop} (g : D → Option D) (xs : List D) (hl : xs.length ≤ sizeLine)
    (hs : ∀ x ∈ xs, ∀ (A : R → Prop) (B : Prop), (∀ r, g x = some r.d → A r) → (g x = none → B) → b x fun ρ => c ρ (boolW (f ρ A) B)) (h : Φ (.new (xs.filterMap g))) : compW b c f xs [] Φ :=
  compW_sel (fun x y => g x = some y) (fun x => g x = none) xs [] (by simpa using hl) hs fun ys hy => by
    rw [List.nil_append, hy.fm]
    exact h
/-- .. without a test -/
theorem compW_map {b : D → (List Sl → Prop) → Prop} {c f : List Sl → (R → Prop) → Prop} {Φ : R → Prop} (g : D → D) (xs : List D) (hl : xs.length ≤ sizeLine)
    (hs : ∀ x ∈ xs, ∀ (A : R → Prop) (B : Prop), (∀ r, r.d = g x → A r) → b x fun ρ => c ρ (boolW (f ρ A) B)) (h : Φ (.new (xs.map g))) : compW b c f xs [] Φ :=
  compW_fm (fun x => some (g x)) xs hl (fun x hx A B ha _ => hs x hx A B fun r e => ha r (by rw [e])) (by rw [List.filterMap_eq_map']; exact h)

/-- all(..), any(..): each item that is come to is a truth g -/
theorem genW_if {b : D → (List Sl → Prop) → Prop} {f : List Sl → (R → Prop) → Prop} {Φ : R → Prop} (all : Bool) (g : D → Bool) : ∀ xs : List D,
    (∀ pre x post, xs = pre ++ x :: post → (∀ y ∈ pre, g y = all) → ∀ A : R → Prop, A (.val (.bool (g x))) → b x fun ρ => f ρ A) → Φ (.val (.bool (if all then xs.all g else xs.any g))) → genW all b f xs Φ
  | [], _, h => by
    cases all
    · exact h
    · exact h
  | x :: xs, hs, h => by
    refine hs [] x xs rfl (fun y hy => by cases hy) _ ⟨_, rfl, ?_⟩
    by_cases e : g x = all
    · rw [if_pos e]
      refine genW_if all g xs (fun pre z post e2 hp A hA => hs (x :: pre) z post (by rw [e2]; rfl) (fun y hy => ?_) A hA) ?_
      · rcases List.mem_cons.mp hy with rfl | hy
        · exact e
        · exact hp y hy
      · rw [List.all_cons, List.any_cons, e] at h
        cases all
        · simpa using h
        · simpa using h
    · rw [if_neg e]
      rw [List.all_cons, List.any_cons] at h
      cases all
      · have : g x = true := by simpa using e
        rw [this] at h ⊢
        simpa using h
      · have : g x = false := by simpa using e
        rw [this] at h ⊢
        simpa using h
theorem genW_all {b : D → (List Sl → Prop) → Prop} {f : List Sl → (R → Prop) → Prop} {Φ : R → Prop} (g : D → Bool) (xs : List D) (hs : ∀ x ∈ xs, ∀ A : R → Prop, A (.val (.bool (g x))) → b x fun ρ => f ρ A) (h : Φ (.val (.bool (xs.all g)))) : genW true b f xs Φ :=
  genW_if true g xs (fun pre x post e _ => hs x (by rw [e]; simp)) h
theorem genW_any {b : D → (List Sl → Prop) → Prop} {f : List Sl → (R → Prop) → Prop} {Φ : R → Prop} (g : D → Bool) (xs : List D) (hs : ∀ x ∈ xs, ∀ A : R → Prop, A (.val (.bool (g x))) → b x fun ρ => f ρ A) (h : Φ (.val (.bool (xs.any g)))) : genW false b f xs Φ :=
  genW_if false g xs (fun pre x post e _ => hs x (by rw [e]; simp)) h

/-- .. over things that are written as data -/
theorem compW_onA {α : Type} {b : D → (List Sl → Prop) → Prop} {c f : List Sl → (R → Prop) → Prop} {Φ : R → Prop} (py : α → D) (p : α → Bool) (g : α → D) : ∀ (xs : List α) (acc : List D), acc.length + xs.length ≤ sizeLine →
    (∀ x ∈ xs, ∀ (A : R → Prop) (B : Prop), (p x = true → ∀ r, r.d = g x → A r) → (p x = false → B) → b (py x) fun ρ => c ρ (boolW (f ρ A) B)) → Φ (.new (acc ++ (xs.filter p).map g)) → compW b c f (xs.map py) acc Φ
  | [], acc, _, _, h => by
    simp only [List.filter_nil, List.map_nil, List.append_nil] at h
    exact h
  | x :: xs, acc, hl, hs, h => by
    rw [List.length_cons] at hl
    refine hs x List.mem_cons_self _ _ (fun e r hr => ⟨by omega, ?_⟩) fun e => ?_
    · refine compW_onA py p g xs (acc ++ [r.d]) (by rw [List.length_append, List.length_singleton]; omega) (fun z hz => hs z (List.mem_cons_of_mem _ hz)) ?_
      rw [List.filter_cons, if_pos e, List.map_cons] at h
      rw [List.append_assoc, hr]
      exact h
    · rw [List.filter_cons, if_neg (by rw [e]; decide)] at h
      exact compW_onA py p g xs acc (by omega) (fun z hz => hs z (List.mem_cons_of_mem _ hz)) h
theorem compW_on {α : Type} {b : D → (List Sl → Prop) → Prop} {c f : List Sl → (R → Prop) → Prop} {Φ : R → Prop} (py : α → D) (p : α → Bool) (g : α → D) (xs : List α) (hl : xs.length ≤ sizeLine)
    (hs : ∀ x ∈ xs, ∀ (A : R → Prop) (B : Prop), (p x = true → ∀ r, r.d = g x → A r) → (p x = false → B) → b (py x) fun ρ => c ρ (boolW (f ρ A) B)) (h : Φ (.new ((xs.filter p).map g))) : compW b c f (xs.map py) [] Φ :=
  compW_onA py p g xs [] (by simpa using hl) hs (by simpa using h)
theorem compW_each {α : Type} {b : D → (List Sl → Prop) → Prop} {c f : List Sl → (R → Prop) → Prop} {Φ : R → Prop} (py : α → D) (g : α → D) (xs : List α) (hl : xs.length ≤ sizeLine)
    (hs : ∀ x ∈ xs, ∀ (A : R → Prop) (B : Prop), (∀ r, r.d = g x → A r) → b (py x) fun ρ => c ρ (boolW (f ρ A) B)) (h : Φ (.new (xs.map g))) : compW b c f (xs.map py) [] Φ :=
  compW_on py (fun _ => true) g xs hl (fun x hx A B ha _ => hs x hx A B (ha rfl)) (by rw [List.filter_eq_self.mpr fun _ _ => rfl]; exact h)
/-- .. without a test, each item giving some y with T x y -/
inductive All2 {α : Type} (T : α → D → Prop) : List α → List D → Prop
  | nil : All2 T [] []
  | cons {x : α} {y : D} {xs : List α} {ys : List D} : T x y → All2 T xs ys → All2 T (x :: xs) (y :: ys)
theorem All2.len {α : Type} {T : α → D → Prop} {xs : List α} {ys : List D} (h : All2 T xs ys) : ys.length = xs.length := by
  induction h with
  | nil => rfl
  | cons _ _ ih => rw [List.length_cons, List.length_cons, ih]
theorem All2.mem {α : Type} {T : α → D → Prop} {xs : List α} {ys : List D} (h : All2 T xs ys) : ∀ y ∈ ys, ∃ x ∈ xs, T x y := by
  induction h with
  | nil => intro y hy; cases hy
  | cons t _ ih =>
    intro y hy
    rcases List.mem_cons.mp hy with rfl | hy
    · exact ⟨_, List.mem_cons_self, t⟩
    · obtain ⟨x, hx, q⟩ := ih y hy
      exact ⟨x, List.mem_cons_of_mem _ hx, q⟩
theorem All2.choose {α β : Type} {T : α → D → Prop} {f : β → D} {P : β → Prop} {xs : List α} {ys : List D} (h : All2 T xs ys) (k : ∀ x y, T x y → ∃ a : β, y = f a ∧ P a) : ∃ as : List β, ys = as.map f ∧ as.length = xs.length ∧ ∀ a ∈ as, P a := by
  induction h with
  | nil => exact ⟨[], rfl, rfl, fun _ h => by cases h⟩
  | cons t _ ih =>
    obtain ⟨as, h1, h2, h3⟩ := ih
    obtain ⟨a, e, p⟩ := k _ _ t
    refine ⟨a :: as, by rw [h1, e]; rfl, by rw [List.length_cons, List.length_cons, h2], fun b hb => ?_⟩
    rcases List.mem_cons.mp hb with rfl | hb
    · exact p
    · exact h3 b hb
theorem compW_relA {α : Type} {b : D → (List Sl → Prop) → Prop} {c f : List Sl → (R → Prop) → Prop} {Φ : R → Prop} (py : α → D) (T : α → D → Prop) : ∀ (xs : List α) (acc : List D), acc.length + xs.length ≤ sizeLine →
    (∀ x ∈ xs, ∀ (A : R → Prop) (B : Prop), (∀ r, T x r.d → A r) → b (py x) fun ρ => c ρ (boolW (f ρ A) B)) → (∀ ys, All2 T xs ys → Φ (.new (acc ++ ys))) → compW b c f (xs.map py) acc Φ
  | [], acc, _, _, h => by
    have := h [] .nil
    rw [List.append_nil] at this
    exact this
  | x :: xs, acc, hl, hs, h => by
    rw [List.length_cons] at hl
    refine hs x List.mem_cons_self _ _ fun r hr => ⟨by omega, ?_⟩
    refine compW_relA py T xs (acc ++ [r.d]) (by rw [List.length_append, List.length_singleton]; omega) (fun z hz => hs z (List.mem_cons_of_mem _ hz)) fun ys hy => ?_
    rw [List.append_assoc]
    exact h _ (.cons hr hy)
theorem compW_rel {α : Type} {b : D → (List Sl → Prop) → Prop} {c f : List Sl → (R → Prop) → Prop} {Φ : R → Prop} (py : α → D) (T : α → D → Prop) (xs : List α) (hl : xs.length ≤ sizeLine)
    (hs : ∀ x ∈ xs, ∀ (A : R → Prop) (B : Prop), (∀ r, T x r.d → A r) → b (py x) fun ρ => c ρ (boolW (f ρ A) B)) (h : ∀ ys, All2 T xs ys → Φ (.new ys)) : compW b c f (xs.map py) [] Φ :=
  compW_relA py T xs [] (by simpa using hl) hs (fun ys hy => by simpa using h ys hy)
/-- a loop over things that are written as data -/
theorem loopW_on {α : Type} {t : List Sl → D → Option (List Sl)} {b : List Sl → (List Sl → Prop) → Prop} {k : List Sl → Prop} (py : α → D) (I : List α → List Sl → Prop) (hs : ∀ x r ρ, I (x :: r) ρ → ∀ K : List Sl → Prop, (∀ ρ', I r ρ' → K ρ') → ∃ ρ', t ρ (py x) = some ρ' ∧ b ρ' K) (hd : ∀ ρ, I [] ρ → k ρ) :
    ∀ (xs : List α) (ρ : List Sl), I xs ρ → loopW t b (xs.map py) ρ k
  | [], ρ, h => hd ρ h
  | x :: r, ρ, h => hs x r ρ h (fun ρ' => loopW t b (r.map py) ρ' k) fun ρ' h' => loopW_on py I hs hd r ρ' h'
theorem genW_on {α : Type} {b : D → (List Sl → Prop) → Prop} {f : List Sl → (R → Prop) → Prop} {Φ : R → Prop} (all : Bool) (py : α → D) (g : α → Bool) : ∀ xs : List α,
    (∀ x ∈ xs, ∀ A : R → Prop, A (.val (.bool (g x))) → b (py x) fun ρ => f ρ A) → Φ (.val (.bool (if all then xs.all g else xs.any g))) → genW all b f (xs.map py) Φ
  | [], _, h => by
    cases all
    · exact h
    · exact h
  | x :: xs, hs, h => by
    refine hs x List.mem_cons_self _ ⟨_, rfl, ?_⟩
    by_cases e : g x = all
    · rw [if_pos e]
      refine genW_on all py g xs (fun z hz => hs z (List.mem_cons_of_mem _ hz)) ?_
      rw [List.all_cons, List.any_cons, e] at h
      cases all
      · simpa using h
      · simpa using h
    · rw [if_neg e]
      rw [List.all_cons, List.any_cons] at h
      cases all
      · have : g x = true := by simpa using e
        rw [this] at h ⊢
        simpa using h
      · have : g x = false := by simpa using e
        rw [this] at h ⊢
        simpa using h

/-! ### data that is plain: its shape, and when it is equal -/
theorem shaped_int (i : Int) : SeqAt.shaped (.int i) = true := rfl
theorem shaped_bool (b : Bool) : SeqAt.shaped (.bool b) = true := rfl
theorem shaped_none : SeqAt.shaped .none = true := rfl
theorem shaped_str {x : Str} (h : strOk x = true) : SeqAt.shaped (.str x) = true := by
  show (PyData.canLay0 (.str x) && decide (PyData.depth (.str x) ≤ 64)) = true
  simp [PyData.canLay0, PyData.depth, h]
/-- nothing but what can be laid, at most n deep -/
def Lay (n : Nat) (d : D) : Prop := d.canLay0 = true ∧ d.depth ≤ n
theorem Lay.shaped {n : Nat} {d : D} (h : Lay n d) (hn : n ≤ 64) : SeqAt.shaped d = true := by
  show (PyData.canLay0 d && decide (PyData.depth d ≤ 64)) = true
  rw [h.1]
  exact decide_eq_true (Nat.le_trans h.2 hn)
theorem Lay.mono {m n : Nat} {d : D} (h : Lay m d) (l : m ≤ n) : Lay n d := ⟨h.1, Nat.le_trans h.2 l⟩
theorem lay_int (i : Int) : Lay 0 (.int i) := ⟨rfl, Nat.le_refl _⟩
theorem lay_bool (b : Bool) : Lay 0 (.bool b) := ⟨rfl, Nat.le_refl _⟩
theorem lay_none : Lay 0 .none := ⟨rfl, Nat.le_refl _⟩
theorem lay_str {x : Str} (h : strOk x = true) : Lay 0 (.str x) := ⟨h, Nat.le_refl _⟩
theorem layAll {n : Nat} : ∀ {ds : List D}, (∀ d ∈ ds, Lay n d) → PyData.canLayAll0 ds = true ∧ PyData.depthAll ds ≤ n
  | [], _ => ⟨rfl, Nat.zero_le _⟩
  | d :: ds, h => by
    have h1 := h d List.mem_cons_self
    have h2 := layAll (ds := ds) fun e he => h e (List.mem_cons_of_mem _ he)
    refine ⟨?_, ?_⟩
    · simp only [PyData.canLayAll0, h1.1, h2.1, Bool.and_self]
    · simp only [PyData.depthAll]
      exact Nat.max_le.mpr ⟨h1.2, h2.2⟩
theorem lay_list {n : Nat} {ds : List D} (h : ∀ d ∈ ds, Lay n d) : Lay (n + 1) (.list ds) := by
  have q := layAll h
  exact ⟨by simp only [PyData.canLay0]; exact q.1, by simp only [PyData.depth]; omega⟩
theorem lay_tuple {n : Nat} {ds : List D} (h : ∀ d ∈ ds, Lay n d) : Lay (n + 1) (.tuple ds) := by
  have q := layAll h
  exact ⟨by simp only [PyData.canLay0]; exact q.1, by simp only [PyData.depth]; omega⟩
theorem eqv_same {n : Nat} {d : D} (h : Lay n d) : PyData.eqv d d = true := SeqAt.eqv_refl d h.1
theorem eqv_int (i j : Int) : PyData.eqv (.int i) (.int j) = decide (i = j) := by simp [PyData.eqv, Bool.beq_eq_decide_eq]
theorem eqv_bool (a b : Bool) : PyData.eqv (.bool a) (.bool b) = decide (a = b) := by simp [PyData.eqv, Bool.beq_eq_decide_eq]
theorem eqv_str (a b : Str) : PyData.eqv (.str a) (.str b) = decide (a = b) := by simp [PyData.eqv, Bool.beq_eq_decide_eq]
theorem eqv_list_nil (ds : List D) : PyData.eqv (.list ds) (.list []) = ds.isEmpty := by cases ds <;> simp [PyData.eqv, PyData.eqvAll]
theorem any_str (x : Str) : ∀ fs : List Str, (fs.map PyData.str).any (fun z => PyData.eqv z (.str x)) = decide (x ∈ fs)
  | [] => by simp
  | f :: fs => by
    rw [List.map_cons, List.any_cons, any_str x fs, eqv_str]
    by_cases h : f = x
    · subst h; simp
    · have h' : ¬ x = f := fun e => h e.symm
      simp [h, h']
/-- facts.index(name) -/
theorem mix_strs {fs : List Str} {x : Str} {Φ : R → Prop} (hs : ∀ f ∈ fs, strOk f = true) (h : x ∈ fs) (k : Φ (.val (.int ((fs.idxOf x : Nat) : Int)))) : mixW (.list (fs.map .str)) (.str x) Φ := by
  have hi : fs.idxOf x < fs.length := List.idxOf_lt_length_of_mem h
  refine ⟨(lay_list (n := 0) fun d hd => ?_).shaped (by decide), shaped_str (hs x h), fs.idxOf x, .str x, ?_, ?_, fun m z hm hz => ?_, k⟩
  · obtain ⟨f, hf, rfl⟩ := List.mem_map.mp hd
    exact lay_str (hs f hf)
  · rw [List.getElem?_map, List.getElem?_eq_getElem hi, List.getElem_idxOf hi]
    rfl
  · rw [eqv_str]; exact decide_eq_true rfl
  · have hm' : m < fs.length := by omega
    rw [List.getElem?_map, List.getElem?_eq_getElem hm'] at hz
    cases hz
    rw [eqv_str]
    refine decide_eq_false fun e => ?_
    have q := List.not_of_lt_findIdx (p := fun y => y == x) hm
    rw [beq_eq_false_iff_ne] at q
    exact q e
theorem atI_map {α β : Type} (g : α → β) (xs : List α) (i : Int) : atI (xs.map g) i = (atI xs i).map g := by
  unfold atI
  rw [List.length_map]
  cases ixN xs.length i with
  | none => rfl
  | some j => simp [List.getElem?_map]
theorem atI_mod {α : Type} {xs : List α} (h : xs ≠ []) (i : Int) : ∃ x ∈ xs, atI xs (i % (xs.length : Int)) = some x := by
  have hl : 0 < xs.length := List.length_pos_iff.mpr h
  have h0 : 0 ≤ i % (xs.length : Int) := Int.emod_nonneg _ (by omega)
  have h1 : i % (xs.length : Int) < xs.length := Int.emod_lt_of_pos _ (by omega)
  generalize i % (xs.length : Int) = z at h0 h1
  obtain ⟨k, rfl⟩ := Int.eq_ofNat_of_zero_le h0
  have hk : k < xs.length := by omega
  exact ⟨xs[k], List.getElem_mem hk, atI_nat (List.getElem?_eq_getElem hk)⟩
theorem atI_nat' {α : Type} {xs : List α} {j : Nat} {x : α} (h : xs[j]? = some x) : atI xs (j : Int) = some x := atI_nat h
theorem atI_lt {α : Type} {xs : List α} {i : Int} (h0 : 0 ≤ i) (h1 : i < xs.length) : ∃ x ∈ xs, atI xs i = some x := by
  obtain ⟨k, rfl⟩ := Int.eq_ofNat_of_zero_le h0
  have hk : k < xs.length := by omega
  exact ⟨xs[k], List.getElem_mem hk, atI_nat (List.getElem?_eq_getElem hk)⟩
theorem and_two_pow (n k : Nat) : n &&& 2 ^ k = (n.testBit k).toNat * 2 ^ k := by
  apply Nat.eq_of_testBit_eq
  intro i
  rw [Nat.testBit_and, Nat.testBit_two_pow]
  by_cases h : k = i
  · subst h
    cases e : n.testBit k <;> simp [Nat.testBit_two_pow]
  · cases e : n.testBit k <;> simp [Nat.testBit_two_pow, h]
/-- w & 1 << k -/
theorem band_bit (w k : Nat) : Builtin.bitAnd (w : Int) ((2 ^ k : Nat) : Int) = (((w.testBit k).toNat * 2 ^ k : Nat) : Int) := by
  rw [PySem.W.os_band, and_two_pow]
theorem exc_nil {K : Fg} {mg : Str → Option Value} : ∀ n ∈ ([] : List Str), ExcAt K mg n := fun n h => by cases h
theorem exc_cons {K : Fg} {mg : Str → Option Value} {n : Str} {l : List Str} (h : ExcAt K mg n) (t : ∀ n ∈ l, ExcAt K mg n) : ∀ m ∈ n :: l, ExcAt K mg m := fun m hm => by
  rcases List.mem_cons.mp hm with rfl | hm
  · exact h
  · exact t m hm
end PG

namespace PG
open PySem L2
open PySem.PyData (strOk)
/-! ### conditions -/
inductive Cd where
  | yes | fact (n : Str) | not_ (c : Cd) | both (c d : Cd) | either (c d : Cd)
def Cd.py : Cd → D
  | .yes => .tuple [.str "yes"]
  | .fact n => .tuple [.str "fact", .str n]
  | .not_ c => .tuple [.str "not", c.py]
  | .both c d => .tuple [.str "both", c.py, d.py]
  | .either c d => .tuple [.str "either", c.py, d.py]
def Cd.dep : Cd → Nat
  | .yes | .fact _ => 0
  | .not_ c => c.dep + 1
  | .both c d | .either c d => max c.dep d.dep + 1
/-- it names these facts alone -/
def Cd.over (fs : List Str) : Cd → Prop
  | .yes => True
  | .fact n => n ∈ fs
  | .not_ c => c.over fs
  | .both c d | .either c d => c.over fs ∧ d.over fs
/-- does it hold in the world w -/
def Cd.ev (fs : List Str) (w : Nat) : Cd → Bool
  | .yes => true
  | .fact n => w.testBit (fs.idxOf n)
  | .not_ c => !c.ev fs w
  | .both c d => c.ev fs w && d.ev fs w
  | .either c d => c.ev fs w || d.ev fs w
/-- names that can be laid -/
def Names (fs : List Str) : Prop := ∀ f ∈ fs, strOk f = true
theorem lay_names {fs : List Str} (h : Names fs) : Lay 1 (.list (fs.map .str)) := lay_list (n := 0) fun d hd => by
  obtain ⟨f, hf, rfl⟩ := List.mem_map.mp hd
  exact lay_str (h f hf)
theorem Cd.lay {fs : List Str} (h : Names fs) : ∀ c : Cd, c.over fs → Lay (c.dep + 1) c.py
  | .yes, _ => lay_tuple (n := 0) fun d hd => by rw [List.mem_singleton.mp hd]; exact lay_str (by decide +kernel)
  | .fact n, o => lay_tuple (n := 0) fun d hd => by
    rcases List.mem_cons.mp hd with rfl | hd
    · exact lay_str (by decide +kernel)
    · rw [List.mem_singleton.mp hd]; exact lay_str (h n o)
  | .not_ c, o => lay_tuple (n := c.dep + 1) fun d hd => by
    rcases List.mem_cons.mp hd with rfl | hd
    · exact (lay_str (by decide +kernel)).mono (Nat.zero_le _)
    · rw [List.mem_singleton.mp hd]; exact Cd.lay h c o
  | .both c e, o => lay_tuple (n := max c.dep e.dep + 1) fun d hd => by
    rcases List.mem_cons.mp hd with rfl | hd
    · exact (lay_str (by decide +kernel)).mono (Nat.zero_le _)
    rcases List.mem_cons.mp hd with rfl | hd
    · exact (Cd.lay h c o.1).mono (by omega)
    · rw [List.mem_singleton.mp hd]; exact (Cd.lay h e o.2).mono (by omega)
  | .either c e, o => lay_tuple (n := max c.dep e.dep + 1) fun d hd => by
    rcases List.mem_cons.mp hd with rfl | hd
    · exact (lay_str (by decide +kernel)).mono (Nat.zero_le _)
    rcases List.mem_cons.mp hd with rfl | hd
    · exact (Cd.lay h c o.1).mono (by omega)
    · rw [List.mem_singleton.mp hd]; exact (Cd.lay h e o.2).mono (by omega)
theorem str_ne {a b : String} (h : (PySem.Str.ofString a = PySem.Str.ofString b) = False) : PyData.eqv (.str (PySem.Str.ofString a)) (.str (PySem.Str.ofString b)) = false := by
  rw [eqv_str]
  exact decide_eq_false (by rw [h]; exact fun z => z)
theorem str_same (a : Str) : PyData.eqv (.str a) (.str a) = true := by rw [eqv_str]; exact decide_eq_true rfl
theorem atI0 {α : Type} (x : α) (xs : List α) : atI (x :: xs) 0 = some x := atI_nat (j := 0) rfl
theorem atI1 {α : Type} (x y : α) (xs : List α) : atI (x :: y :: xs) 1 = some y := atI_nat (j := 1) rfl
theorem atI2 {α : Type} (x y z : α) (xs : List α) : atI (x :: y :: z :: xs) 2 = some z := atI_nat (j := 2) rfl
theorem atI3 {α : Type} (x y z u : α) (xs : List α) : atI (x :: y :: z :: u :: xs) 3 = some u := atI_nat (j := 3) rfl
theorem atI4 {α : Type} (x y z u v : α) (xs : List α) : atI (x :: y :: z :: u :: v :: xs) 4 = some v := atI_nat (j := 4) rfl
theorem ofs_inj {a b : String} : (Str.ofString a = Str.ofString b) = (a = b) := by
  apply propext
  constructor
  · intro h
    rw [Str.ofString_eq_toList, Str.ofString_eq_toList] at h
    injection h with h
    have h : a.toList.map Char.toNat = b.toList.map Char.toNat := by simpa using h
    have inj : ∀ l m : List Char, l.map Char.toNat = m.map Char.toNat → l = m := by
      intro l
      induction l with
      | nil => intro m h; cases m <;> simp_all
      | cons c l ih =>
        intro m h
        cases m with
        | nil => simp at h
        | cons d m =>
          simp only [List.map_cons, List.cons.injEq] at h
          have hc : c = d := by
            have := h.1
            exact Char.toNat_inj.mp this
          rw [hc, ih m h.2]
    exact String.toList_inj.mp (inj _ _ h)
  · rintro rfl; rfl
theorem strOk_lit (s : String) : strOk (Str.ofString s) = true := by
  rw [Str.ofString_eq_toList]
  show ((s.toList.map Char.toNat).toArray.all fun c => decide (c < 0x110000)) = true
  rw [List.all_toArray, List.all_eq_true]
  intro n hn
  obtain ⟨c, _, rfl⟩ := List.mem_map.mp hn
  have h := c.valid
  simp only [UInt32.isValidChar, Nat.isValidChar] at h
  refine decide_eq_true ?_
  show c.val.toNat < 0x110000
  omega
theorem shaped_lit (s : String) : SeqAt.shaped (.str (Str.ofString s)) = true := shaped_str (strOk_lit s)
theorem nodup_le {α : Type} [DecidableEq α] : ∀ {l m : List α}, l.Nodup → (∀ x ∈ l, x ∈ m) → l.length ≤ m.length
  | [], _, _, _ => Nat.zero_le _
  | x :: l, m, hn, hs => by
    have hx : x ∈ m := hs x List.mem_cons_self
    have h1 := List.nodup_cons.mp hn
    have h2 := nodup_le (l := l) (m := m.erase x) h1.2 fun y hy => by
      have ne : y ≠ x := fun e => h1.1 (e ▸ hy)
      exact (List.mem_erase_of_ne ne).mpr (hs y (List.mem_cons_of_mem _ hy))
    rw [List.length_erase_of_mem hx] at h2
    have h3 : 0 < m.length := List.length_pos_of_mem hx
    rw [List.length_cons]
    omega
theorem strOk_iff {x : Str} : strOk x = true ↔ ∀ c ∈ x.cps, c < 0x110000 := by
  unfold PyData.strOk
  rw [Array.all_eq_true_iff_forall_mem]
  simp
theorem mem_foldl {g : Array Nat} {P : Nat → Prop} (hg : ∀ c ∈ g, P c) : ∀ (ps : List Str) (a : Array Nat), (∀ c ∈ a, P c) → (∀ p ∈ ps, ∀ c ∈ p.cps, P c) → ∀ c ∈ ps.foldl (fun acc p => acc ++ g ++ p.cps) a, P c
  | [], a, ha, _ => ha
  | p :: ps, a, ha, hp => mem_foldl hg ps _ (fun c hc => by
      rcases Array.mem_append.mp hc with hc | hc
      · rcases Array.mem_append.mp hc with hc | hc
        · exact ha c hc
        · exact hg c hc
      · exact hp p List.mem_cons_self c hc) fun q hq => hp q (List.mem_cons_of_mem _ hq)
theorem mem_join {P : Nat → Prop} {sep : Str} (hg : ∀ c ∈ sep.cps, P c) {ps : List Str} (hp : ∀ p ∈ ps, ∀ c ∈ p.cps, P c) : ∀ c ∈ (Txt.join sep ps).cps, P c := by
  show ∀ c ∈ (ps.drop 1).foldl (fun acc p => acc ++ sep.cps ++ p.cps) (ps.headD Str.empty).cps, P c
  refine mem_foldl hg _ _ (fun c hc => ?_) fun p h => hp p (List.mem_of_mem_drop h)
  cases ps with
  | nil =>
    have hc : c ∈ (#[] : Array Nat) := hc
    simp at hc
  | cons p ps => exact hp p List.mem_cons_self c hc
theorem Sel.mem {T : D → D → Prop} {C : D → Prop} {xs ys : List D} (h : Sel T C xs ys) : ∀ y ∈ ys, ∃ x ∈ xs, T x y := by
  induction h with
  | nil => intro y hy; cases hy
  | keep t _ ih =>
    intro y hy
    rcases List.mem_cons.mp hy with rfl | hy
    · exact ⟨_, List.mem_cons_self, t⟩
    · obtain ⟨x, hx, q⟩ := ih y hy
      exact ⟨x, List.mem_cons_of_mem _ hx, q⟩
  | drop _ _ ih =>
    intro y hy
    obtain ⟨x, hx, q⟩ := ih y hy
    exact ⟨x, List.mem_cons_of_mem _ hx, q⟩
theorem strs_of {ys : List D} {P : Str → Prop} (h : ∀ y ∈ ys, ∃ s, y = .str s ∧ P s) : ∃ zs : List Str, ys = zs.map .str ∧ strsOf ys = some zs ∧ ∀ z ∈ zs, P z := by
  induction ys with
  | nil => exact ⟨[], rfl, rfl, fun _ h => by cases h⟩
  | cons y ys ih =>
    obtain ⟨zs, h1, h2, h3⟩ := ih fun y hy => h y (List.mem_cons_of_mem _ hy)
    obtain ⟨s, rfl, hs⟩ := h y List.mem_cons_self
    refine ⟨s :: zs, by rw [h1]; rfl, by simp only [strsOf, h2, Option.map_some], fun z hz => ?_⟩
    rcases List.mem_cons.mp hz with rfl | hz
    · exact hs
    · exact h3 z hz
theorem mem_rng {lo : Int} {n : Nat} {x : D} (h : x ∈ rngL lo n) : ∃ i : Nat, i < n ∧ x = .int (lo + i) := by
  unfold rngL at h
  obtain ⟨i, hi, rfl⟩ := List.mem_map.mp h
  exact ⟨i, List.mem_range.mp hi, rfl⟩
theorem rng_len (lo : Int) (n : Nat) : (rngL lo n).length = n := by unfold rngL; rw [List.length_map, List.length_range]
theorem sz_le {n : Nat} (h : n ≤ 1000) : (n ≤ sizeLine) = True := eq_true (Nat.le_trans h (by decide))
theorem sz_lt {n : Nat} (h : n ≤ 1000) : (n < sizeLine) = True := eq_true (Nat.lt_of_le_of_lt h (by decide))
/-- worlds' bits by division -/
theorem bit_div (w k : Nat) : (w / 2 ^ k % 2 = 1) = (w.testBit k = true) := by
  rw [Nat.testBit_eq_decide_div_mod_eq]
  simp
end PG

namespace PG
open PySem L2
open PySem.PyData (strOk)
/-! ### lists of the worlds in which something holds -/
def wN (M : Nat) (p : Nat → Bool) : List D := ((List.range M).filter p).map fun (w : Nat) => PyData.int w
theorem wN_congr {M : Nat} {p q : Nat → Bool} (h : ∀ w, p w = q w) : wN M p = wN M q := by
  have : p = q := funext h
  rw [this]
theorem wN_int {M : Nat} {p : Nat → Bool} : ∀ d ∈ wN M p, ∃ i : Nat, i < M ∧ p i = true ∧ d = .int i := fun d hd => by
  obtain ⟨w, hw, rfl⟩ := List.mem_map.mp hd
  have := List.mem_filter.mp hw
  exact ⟨w, List.mem_range.mp this.1, this.2, rfl⟩
theorem wN_len (M : Nat) (p : Nat → Bool) : (wN M p).length ≤ M := by
  unfold wN
  rw [List.length_map]
  refine Nat.le_trans (List.length_filter_le _ _) ?_
  rw [List.length_range]
  exact Nat.le_refl _
theorem wN_lay (M : Nat) (p : Nat → Bool) : Lay 1 (.list (wN M p)) := lay_list (n := 0) fun d hd => by
  obtain ⟨i, _, _, rfl⟩ := wN_int d hd
  exact lay_int _
theorem any_ints (l : List Nat) (i : Nat) : (l.map fun (w : Nat) => PyData.int w).any (fun z => PyData.eqv z (.int (i : Nat))) = decide (i ∈ l) := by
  induction l with
  | nil => simp
  | cons x l ih =>
    rw [List.map_cons, List.any_cons, ih, eqv_int]
    by_cases h : x = i
    · subst h; simp
    · have h1 : ¬ i = x := fun e => h e.symm
      have h2 : ¬ ((x : Int) = (i : Int)) := by omega
      simp [h1, h2]
theorem any_wN (M : Nat) (p : Nat → Bool) (i : Nat) (hi : i < M) : (wN M p).any (fun z => PyData.eqv z (.int (i : Nat))) = p i := by
  unfold wN
  rw [any_ints]
  cases e : p i with
  | true => exact decide_eq_true (List.mem_filter.mpr ⟨List.mem_range.mpr hi, e⟩)
  | false => exact decide_eq_false fun h => by have := (List.mem_filter.mp h).2; rw [e] at this; cases this
/-- a test on whole numbers as a map that may leave out -/
def pickN (p : Nat → Bool) : D → Option D
  | .int i => if p i.toNat = true then some (.int i) else none
  | _ => none
theorem pickN_nat (p : Nat → Bool) (i : Nat) : pickN p (.int (i : Nat)) = if p i = true then some (.int (i : Nat)) else none := by
  show (if p (i : Int).toNat = true then _ else _) = _
  rw [Int.toNat_natCast]
theorem pickN_map (p : Nat → Bool) : ∀ l : List Nat, (l.map fun (w : Nat) => PyData.int w).filterMap (pickN p) = (l.filter p).map fun (w : Nat) => PyData.int w
  | [] => rfl
  | x :: l => by
    rw [List.map_cons, List.filterMap_cons, pickN_nat, List.filter_cons]
    cases e : p x with
    | true => rw [if_pos rfl, if_pos rfl, List.map_cons, pickN_map p l]
    | false => rw [if_neg Bool.false_ne_true, if_neg Bool.false_ne_true]; exact pickN_map p l
theorem rng_nat (M : Nat) : rngL 0 M = (List.range M).map fun (w : Nat) => PyData.int w := by
  unfold rngL
  refine List.map_congr_left fun i _ => ?_
  rw [Int.zero_add]
theorem wN_rng (M : Nat) (p : Nat → Bool) : (rngL 0 M).filterMap (pickN p) = wN M p := by rw [rng_nat, pickN_map]; rfl
theorem wN_all (M : Nat) : rngL 0 M = wN M fun _ => true := by
  rw [rng_nat]
  unfold wN
  rw [List.filter_eq_self.mpr fun _ _ => rfl]
theorem wN_none (M : Nat) : [] = wN M fun _ => false := by
  unfold wN
  rw [List.filter_eq_nil_iff.mpr fun _ _ => Bool.false_ne_true]
  rfl
theorem wN_and (M : Nat) (p q : Nat → Bool) : (wN M p).filterMap (pickN q) = wN M fun w => p w && q w := by
  unfold wN
  rw [pickN_map, List.filter_filter]
  congr 2
  funext w
  exact Bool.and_comm ..
/-- two rising lists of the same numbers -/
theorem rising_ext : ∀ {l m : List Int}, l.Pairwise (· < ·) → m.Pairwise (· < ·) → (∀ k, k ∈ l ↔ k ∈ m) → l = m
  | [], [], _, _, _ => rfl
  | [], y :: m, _, _, h => absurd ((h y).mpr List.mem_cons_self) (by simp)
  | x :: l, [], _, _, h => absurd ((h x).mp List.mem_cons_self) (by simp)
  | x :: l, y :: m, hl, hm, h => by
    have hl' := List.pairwise_cons.mp hl
    have hm' := List.pairwise_cons.mp hm
    have e : x = y := by
      rcases List.mem_cons.mp ((h x).mp List.mem_cons_self) with e | a
      · exact e
      rcases List.mem_cons.mp ((h y).mpr List.mem_cons_self) with e | b
      · exact e.symm
      have := hm'.1 x a
      have := hl'.1 y b
      omega
    subst e
    rw [rising_ext hl'.2 hm'.2 fun k => ?_]
    constructor
    · intro hk
      rcases List.mem_cons.mp ((h k).mp (List.mem_cons_of_mem _ hk)) with e | a
      · have := hl'.1 k hk; omega
      · exact a
    · intro hk
      rcases List.mem_cons.mp ((h k).mpr (List.mem_cons_of_mem _ hk)) with e | a
      · have := hm'.1 k hk; omega
      · exact a
theorem ints_of_nats (l : List Nat) : intsOf (l.map fun (w : Nat) => PyData.int w) = some (l.map fun (w : Nat) => (w : Int)) := by
  induction l with
  | nil => rfl
  | cons x l ih => rw [List.map_cons]; simp only [intsOf, ih]; rfl
theorem wN_rise (M : Nat) (p : Nat → Bool) : (((List.range M).filter p).map fun (w : Nat) => (w : Int)).Pairwise (· < ·) := by
  rw [List.pairwise_map]
  refine List.Pairwise.imp ?_ (List.Pairwise.filter p List.pairwise_lt_range)
  intro a b h
  omega
/-- sorted(set(first + second)) -/
theorem sset_wN {M : Nat} {p q : Nat → Bool} {Φ : R → Prop} (hM : M ≤ 2000) (h : Φ (.new (wN M fun w => p w || q w))) : ssetW (.list (wN M p ++ wN M q)) Φ := by
  have e : intsOf (wN M p ++ wN M q) = some (((List.range M).filter p).map (fun (w : Nat) => (w : Int)) ++ ((List.range M).filter q).map fun (w : Nat) => (w : Int)) := by
    unfold wN
    rw [← List.map_append, ints_of_nats, List.map_append]
  refine ⟨_, _, rfl, e, ?_, fun zs hz hk => ?_⟩
  · rw [List.length_append, List.length_map, List.length_map]
    have h1 := List.length_filter_le p (List.range M)
    have h2 := List.length_filter_le q (List.range M)
    rw [List.length_range] at h1 h2
    omega
  · have : zs = ((List.range M).filter fun w => p w || q w).map fun (w : Nat) => (w : Int) := by
      refine rising_ext hz (wN_rise M _) fun k => ?_
      rw [hk, List.mem_append]
      simp only [List.mem_map, List.mem_filter, List.mem_range, Bool.or_eq_true]
      constructor
      · rintro (⟨w, ⟨h1, h2⟩, rfl⟩ | ⟨w, ⟨h1, h2⟩, rfl⟩)
        · exact ⟨w, ⟨h1, .inl h2⟩, rfl⟩
        · exact ⟨w, ⟨h1, .inr h2⟩, rfl⟩
      · rintro ⟨w, ⟨h1, h2 | h2⟩, rfl⟩
        · exact .inl ⟨w, ⟨h1, h2⟩, rfl⟩
        · exact .inr ⟨w, ⟨h1, h2⟩, rfl⟩
    rw [this, List.map_map]
    exact h
/-! ### lists of worlds -/
def natD (w : Nat) : D := .int (w : Nat)
theorem nats_of : ∀ {zs : List Int}, (∀ z ∈ zs, 0 ≤ z) → ∃ ws : List Nat, zs = ws.map fun (w : Nat) => (w : Int)
  | [], _ => ⟨[], rfl⟩
  | z :: zs, h => by
    obtain ⟨ws, e⟩ := nats_of (zs := zs) fun y hy => h y (List.mem_cons_of_mem _ hy)
    have := h z List.mem_cons_self
    exact ⟨z.toNat :: ws, by rw [List.map_cons, ← e, Int.toNat_of_nonneg this]⟩
theorem rise_nat {ws : List Nat} : (ws.map fun (w : Nat) => (w : Int)).Pairwise (· < ·) ↔ ws.Pairwise (· < ·) := by
  rw [List.pairwise_map]
  constructor
  · exact List.Pairwise.imp fun h => by omega
  · exact List.Pairwise.imp fun h => by omega
theorem natD_map (ws : List Nat) : (ws.map fun (w : Nat) => (w : Int)).map PyData.int = ws.map natD := by rw [List.map_map]; rfl
theorem ints_natD (ws : List Nat) : intsOf (ws.map natD) = some (ws.map fun (w : Nat) => (w : Int)) := ints_of_nats ws
theorem any_natD (l : List Nat) (i : Nat) : (l.map natD).any (fun z => PyData.eqv z (.int (i : Nat))) = decide (i ∈ l) := any_ints l i
theorem lay_nats (ws : List Nat) : Lay 1 (.list (ws.map natD)) := lay_list (n := 0) fun d hd => by
  obtain ⟨i, _, rfl⟩ := List.mem_map.mp hd
  exact lay_int _
/-- one or more, rising, below M -/
structure Crowd (M : Nat) (ws : List Nat) : Prop where
  ne : ws ≠ []
  lt : ∀ w ∈ ws, w < M
  up : ws.Pairwise (· < ·)
/-- sorted(unlike whole numbers) -/
theorem srt_nats {vs : List Nat} {Φ : R → Prop} (hn : vs.Nodup) (h : ∀ ws : List Nat, ws.Perm vs → ws.Pairwise (· < ·) → Φ (.new (ws.map natD))) : srtW (.list (vs.map natD)) Φ := by
  refine ⟨_, ints_natD vs, fun zs hp hs => ?_⟩
  obtain ⟨ws, rfl⟩ := nats_of (zs := zs) fun z hz => by
    obtain ⟨w, _, rfl⟩ := List.mem_map.mp (hp.mem_iff.mp hz)
    omega
  have hp' : ws.Perm vs := by
    have := hp.map Int.toNat
    simpa [List.map_map, Function.comp_def] using this
  rw [natD_map]
  refine h ws hp' ?_
  have nd : ws.Nodup := hp'.nodup_iff.mpr hn
  have le : ws.Pairwise (· ≤ ·) := by
    rw [List.pairwise_map] at hs
    exact hs.imp fun h => by omega
  exact (le.and nd).imp fun ⟨h1, h2⟩ => by omega
/-- sorted(set(whole numbers)) -/
theorem sset_nats {vs : List Nat} {d : D} {Φ : R → Prop} (hd : seqOf d = some (vs.map natD)) (hl : vs.length ≤ 4000) (h : ∀ ws : List Nat, (∀ w, w ∈ ws ↔ w ∈ vs) → ws.Pairwise (· < ·) → Φ (.new (ws.map natD))) : ssetW d Φ := by
  refine ⟨_, _, hd, ints_natD vs, by rw [List.length_map]; exact hl, fun zs hz hk => ?_⟩
  obtain ⟨ws, rfl⟩ := nats_of (zs := zs) fun z hz' => by
    obtain ⟨w, _, rfl⟩ := List.mem_map.mp ((hk z).mp hz')
    omega
  rw [natD_map]
  refine h ws (fun w => ?_) (rise_nat.mp hz)
  have q := hk (w : Int)
  have m : ∀ l : List Nat, (w : Int) ∈ l.map (fun (v : Nat) => (v : Int)) ↔ w ∈ l := fun l => by
    rw [List.mem_map]
    constructor
    · rintro ⟨v, hv, e⟩
      have : v = w := by omega
      exact this ▸ hv
    · exact fun hv => ⟨w, hv, rfl⟩
  rw [m, m] at q
  exact q
end PG

open PySem L2 PG
local macro_rules | `(tactic| walk_at "wp") => `(tactic| (repeat (first
  | dsimp only [wpS, wpE, rho0, postOf, binW, cmpW, ixW, slW, partW, bltW, lenW, listW, tupleW, intW, absW, min2W, max2W, isTy, rng1W, rng2W, lrg1W, lrg2W, trg1W, srtW, isnonW, augW, enmW, putW, boolW_t, boolW_f, onB_b, notW_b, scalar, R.d, bindT, bindW, setMany, wipeR, itemsW, itemsOf, List.map, List.length, List.replicate, List.append, List.set,
      List.getElem?_cons_zero, List.getElem?_cons_succ, List.getElem?_nil, List.cons_append, List.nil_append, List.set_cons_zero, List.set_cons_succ, List.map_cons, List.map_nil, List.length_cons, List.length_nil, List.replicate_succ, List.replicate_zero, Nat.reduceAdd, Nat.reduceSub]
  | simp only [eqv_str, eqv_int, eqv_bool, ofs_inj, String.reduceEq, decide_true, decide_false, shaped_lit, shaped_int, shaped_bool, shaped_none, true_and, and_true, atI0, atI1, atI2, atI3, atI4, Option.some.injEq, exists_eq_left', Bool.false_eq_true, if_false, if_true, sz_le, sz_lt, Nat.reduceLeDiff, eq_self, Bool.not_true, Bool.not_false]
  | rw [wpS_blk]
  | rw [wpE_blk])))
namespace K10
open PySem L2 PG
def top (i : Nat) : Stmt := PySem.Challenge.pw_sureplans_k10_deeds_that_can_be_done.main.body.getD i (.Pass ⟨0, 0, 0, 0⟩)
/-! the defs, as terms of the small language -/
abbrev st_holds_in : Stmt := top 6
def N_holds_in : List Str := ["house", "condition", "world", "kind"]
-- callees ['is_so', 'holds_in'] constants [] built-in [] exceptions [] parameters ['house', 'condition', 'world']
def ts_holds_in : Ts := ⟨N_holds_in, ["is_so", "holds_in"], [], [], []⟩
def b_holds_in : S :=
  (.seq (.set 3 false (.ix (.var 1) (.int 0)))
    (blk (.seq (.ife (.cmp .eq (.var 3) (.str "yes"))
    (.seq (.ret (.bl true))
    .nil)
    .nil)
    (blk (.seq (.ife (.cmp .eq (.var 3) (.str "fact"))
    (.seq (.ret (.call 0 (.econs (.var 0) (.econs (.ix (.var 1) (.int 1)) (.econs (.var 2) .enil)))))
    .nil)
    .nil)
    (blk (.seq (.ife (.cmp .eq (.var 3) (.str "not"))
    (.seq (.ret (.not_ (.call 1 (.econs (.var 0) (.econs (.ix (.var 1) (.int 1)) (.econs (.var 2) .enil))))))
    .nil)
    .nil)
    (blk (.seq (.ife (.cmp .eq (.var 3) (.str "both"))
    (.seq (.ret (.and_ (.call 1 (.econs (.var 0) (.econs (.ix (.var 1) (.int 1)) (.econs (.var 2) .enil)))) (.one (.call 1 (.econs (.var 0) (.econs (.ix (.var 1) (.int 2)) (.econs (.var 2) .enil)))))))
    .nil)
    .nil)
    (blk (.seq (.ret (.or_ (.call 1 (.econs (.var 0) (.econs (.ix (.var 1) (.int 1)) (.econs (.var 2) .enil)))) (.one (.call 1 (.econs (.var 0) (.econs (.ix (.var 1) (.int 2)) (.econs (.var 2) .enil)))))))
    .nil)))))))))))
theorem m_holds_in : mS ts_holds_in false (defScope st_holds_in) b_holds_in (defBody st_holds_in) = true := by decide +kernel
theorem sc_holds_in : FnScope N_holds_in ["house", "condition", "world"] (defScope st_holds_in) := ⟨rfl, rfl, rfl, by decide +kernel, rfl, by decide +kernel, by decide +kernel⟩
theorem a_holds_in : ArgsOk st_holds_in "holds_in" ["house", "condition", "world"] := fun _ _ _ _ _ _ us hl => match us, hl with | [_, _, _], _ => rfl

abbrev st_holds_in_each : Stmt := top 7
def N_holds_in_each : List Str := ["house", "condition", "crowd", "world"]
-- callees ['holds_in'] constants [] built-in ['all'] exceptions [] parameters ['house', 'condition', 'crowd']
def ts_holds_in_each : Ts := ⟨N_holds_in_each, ["holds_in"], [], ["all"], []⟩
def b_holds_in_each : S :=
  (.seq (.ret (.gen true [("world", 3)] (.one 3) (.var 2) (eblk (.call 0 (.econs (.var 0) (.econs (.var 1) (.econs (.var 3) .enil)))))))
    .nil)
theorem m_holds_in_each : mS ts_holds_in_each true (defScope st_holds_in_each) b_holds_in_each (defBody st_holds_in_each) = true := by decide +kernel
theorem sc_holds_in_each : FnScope N_holds_in_each ["house", "condition", "crowd"] (defScope st_holds_in_each) := ⟨rfl, rfl, rfl, by decide +kernel, rfl, by decide +kernel, by decide +kernel⟩
theorem a_holds_in_each : ArgsOk st_holds_in_each "holds_in_each" ["house", "condition", "crowd"] := fun _ _ _ _ _ _ us hl => match us, hl with | [_, _, _], _ => rfl

abbrev st_is_so : Stmt := top 8
def N_is_so : List Str := ["house", "fact", "world"]
-- callees ['fact_bit'] constants [] built-in [] exceptions [] parameters ['house', 'fact', 'world']
def ts_is_so : Ts := ⟨N_is_so, ["fact_bit"], [], [], []⟩
def b_is_so : S :=
  (.seq (.ret (.cmp .gt (.bin .band (.var 2) (.call 0 (.econs (.var 0) (.econs (.var 1) .enil)))) (.int 0)))
    .nil)
theorem m_is_so : mS ts_is_so false (defScope st_is_so) b_is_so (defBody st_is_so) = true := by decide +kernel
theorem sc_is_so : FnScope N_is_so ["house", "fact", "world"] (defScope st_is_so) := ⟨rfl, rfl, rfl, by decide +kernel, rfl, by decide +kernel, by decide +kernel⟩
theorem a_is_so : ArgsOk st_is_so "is_so" ["house", "fact", "world"] := fun _ _ _ _ _ _ us hl => match us, hl with | [_, _, _], _ => rfl

abbrev st_fact_bit : Stmt := top 9
def N_fact_bit : List Str := ["house", "fact"]
-- callees [] constants ['FACTS'] built-in [] exceptions [] parameters ['house', 'fact']
def ts_fact_bit : Ts := ⟨N_fact_bit, [], ["FACTS"], [], []⟩
def b_fact_bit : S :=
  (.seq (.ret (.bin .shl (.int 1) (.mix (.ix (.var 0) (.con 0)) (.var 1))))
    .nil)
theorem m_fact_bit : mS ts_fact_bit false (defScope st_fact_bit) b_fact_bit (defBody st_fact_bit) = true := by decide +kernel
theorem sc_fact_bit : FnScope N_fact_bit ["house", "fact"] (defScope st_fact_bit) := ⟨rfl, rfl, rfl, by decide +kernel, rfl, by decide +kernel, by decide +kernel⟩
theorem a_fact_bit : ArgsOk st_fact_bit "fact_bit" ["house", "fact"] := fun _ _ _ _ _ _ us hl => match us, hl with | [_, _], _ => rfl

abbrev st_worlds_in_all : Stmt := top 10
def N_worlds_in_all : List Str := ["house"]
-- callees [] constants ['FACTS'] built-in ['len'] exceptions [] parameters ['house']
def ts_worlds_in_all : Ts := ⟨N_worlds_in_all, [], ["FACTS"], ["len"], []⟩
def b_worlds_in_all : S :=
  (.seq (.ret (.bin .shl (.int 1) (.blt .len (.econs (.ix (.var 0) (.con 0)) .enil))))
    .nil)
theorem m_worlds_in_all : mS ts_worlds_in_all false (defScope st_worlds_in_all) b_worlds_in_all (defBody st_worlds_in_all) = true := by decide +kernel
theorem sc_worlds_in_all : FnScope N_worlds_in_all ["house"] (defScope st_worlds_in_all) := ⟨rfl, rfl, rfl, by decide +kernel, rfl, by decide +kernel, by decide +kernel⟩
theorem a_worlds_in_all : ArgsOk st_worlds_in_all "worlds_in_all" ["house"] := fun _ _ _ _ _ _ us hl => match us, hl with | [_], _ => rfl

abbrev st_is_world : Stmt := top 11
def N_is_world : List Str := ["house", "number"]
-- callees ['worlds_in_all'] constants [] built-in ['isinstance', 'int', 'bool'] exceptions [] parameters ['house', 'number']
def ts_is_world : Ts := ⟨N_is_world, ["worlds_in_all"], [], ["isinstance", "int", "bool"], []⟩
def b_is_world : S :=
  (.seq (.ife (.or_ (.isi (.var 1) .bool) (.one (.not_ (.isi (.var 1) .int))))
    (.seq (.ret (.bl false))
    .nil)
    .nil)
    (blk (.seq (.ret (.chain .le .lt (.int 0) (.var 1) (.call 0 (.econs (.var 0) .enil))))
    .nil)))
theorem m_is_world : mS ts_is_world false (defScope st_is_world) b_is_world (defBody st_is_world) = true := by decide +kernel
theorem sc_is_world : FnScope N_is_world ["house", "number"] (defScope st_is_world) := ⟨rfl, rfl, rfl, by decide +kernel, rfl, by decide +kernel, by decide +kernel⟩
theorem a_is_world : ArgsOk st_is_world "is_world" ["house", "number"] := fun _ _ _ _ _ _ us hl => match us, hl with | [_, _], _ => rfl

abbrev st_are_worlds : Stmt := top 12
def N_are_worlds : List Str := ["house", "numbers", "number"]
-- callees ['is_world'] constants [] built-in ['all', 'len', 'list', 'sorted', 'set'] exceptions [] parameters ['house', 'numbers']
def ts_are_worlds : Ts := ⟨N_are_worlds, ["is_world"], [], ["all", "len", "list", "sorted", "set"], []⟩
def b_are_worlds : S :=
  (.seq (.ife (.or_ (.cmp .eq (.blt .len (.econs (.var 1) .enil)) (.int 0)) (.one (.not_ (.gen true [("number", 2)] (.one 2) (.var 1) (eblk (.call 0 (.econs (.var 0) (.econs (.var 2) .enil))))))))
    (.seq (.ret (.bl false))
    .nil)
    .nil)
    (blk (.seq (.ret (.cmp .eq (.blt .list (.econs (.var 1) .enil)) (.sset (.var 1))))
    .nil)))
theorem m_are_worlds : mS ts_are_worlds true (defScope st_are_worlds) b_are_worlds (defBody st_are_worlds) = true := by decide +kernel
theorem sc_are_worlds : FnScope N_are_worlds ["house", "numbers"] (defScope st_are_worlds) := ⟨rfl, rfl, rfl, by decide +kernel, rfl, by decide +kernel, by decide +kernel⟩
theorem a_are_worlds : ArgsOk st_are_worlds "are_worlds" ["house", "numbers"] := fun _ _ _ _ _ _ us hl => match us, hl with | [_, _], _ => rfl

abbrev st_doable_in : Stmt := top 14
def N_doable_in : List Str := ["house", "crowd", "name", "need", "ways"]
-- callees ['refuse_no_crowd', 'holds_in_each'] constants ['DEEDS'] built-in [] exceptions [] parameters ['house', 'crowd']
def ts_doable_in : Ts := ⟨N_doable_in, ["refuse_no_crowd", "holds_in_each"], ["DEEDS"], [], []⟩
def b_doable_in : S :=
  (.seq (.expr (.call 0 (.econs (.var 0) (.econs (.var 1) .enil))))
    (blk (.seq (.ret (.comp [("name", 2), ("need", 3), ("ways", 4)] (.many [2, 3, 4]) (.ix (.var 0) (.con 0)) (eblk (.call 1 (.econs (.var 0) (.econs (.var 3) (.econs (.var 1) .enil))))) (eblk (.var 2))))
    .nil)))
theorem m_doable_in : mS ts_doable_in false (defScope st_doable_in) b_doable_in (defBody st_doable_in) = true := by decide +kernel
theorem sc_doable_in : FnScope N_doable_in ["house", "crowd"] (defScope st_doable_in) := ⟨rfl, rfl, rfl, by decide +kernel, rfl, by decide +kernel, by decide +kernel⟩
theorem a_doable_in : ArgsOk st_doable_in "doable_in" ["house", "crowd"] := fun _ _ _ _ _ _ us hl => match us, hl with | [_, _], _ => rfl

abbrev st_refuse_no_crowd : Stmt := top 15
def N_refuse_no_crowd : List Str := ["house", "crowd"]
-- callees ['are_worlds'] constants [] built-in [] exceptions ['NoWorld'] parameters ['house', 'crowd']
def ts_refuse_no_crowd : Ts := ⟨N_refuse_no_crowd, ["are_worlds"], [], [], ["NoWorld"]⟩
def b_refuse_no_crowd : S :=
  (.seq (.ife (.not_ (.call 0 (.econs (.var 0) (.econs (.var 1) .enil))))
    (.seq (.raise_ "NoWorld")
    .nil)
    .nil)
    .nil)
theorem m_refuse_no_crowd : mS ts_refuse_no_crowd false (defScope st_refuse_no_crowd) b_refuse_no_crowd (defBody st_refuse_no_crowd) = true := by decide +kernel
theorem sc_refuse_no_crowd : FnScope N_refuse_no_crowd ["house", "crowd"] (defScope st_refuse_no_crowd) := ⟨rfl, rfl, rfl, by decide +kernel, rfl, by decide +kernel, by decide +kernel⟩
theorem a_refuse_no_crowd : ArgsOk st_refuse_no_crowd "refuse_no_crowd" ["house", "crowd"] := fun _ _ _ _ _ _ us hl => match us, hl with | [_, _], _ => rfl

abbrev st_law_cell_at : Stmt := top 17
def N_law_cell_at : List Str := ["script", "k"]
-- callees [] constants [] built-in ['len'] exceptions [] parameters ['script', 'k']
def ts_law_cell_at : Ts := ⟨N_law_cell_at, [], [], ["len"], []⟩
def b_law_cell_at : S :=
  (.seq (.ife (.cmp .lt (.var 1) (.blt .len (.econs (.var 0) .enil)))
    (.seq (.ret (.ix (.var 0) (.var 1)))
    .nil)
    .nil)
    (blk (.seq (.ret (.int 0))
    .nil)))
theorem m_law_cell_at : mS ts_law_cell_at false (defScope st_law_cell_at) b_law_cell_at (defBody st_law_cell_at) = true := by decide +kernel
theorem sc_law_cell_at : FnScope N_law_cell_at ["script", "k"] (defScope st_law_cell_at) := ⟨rfl, rfl, rfl, by decide +kernel, rfl, by decide +kernel, by decide +kernel⟩
theorem a_law_cell_at : ArgsOk st_law_cell_at "_law_cell_at" ["script", "k"] := fun _ _ _ _ _ _ us hl => match us, hl with | [_, _], _ => rfl

abbrev st_law_stir : Stmt := top 18
def N_law_stir : List Str := ["cell", "k", "number"]
-- callees [] constants [] built-in [] exceptions [] parameters ['cell', 'k']
def ts_law_stir : Ts := ⟨N_law_stir, [], [], [], []⟩
def b_law_stir : S :=
  (.seq (.ife (.and_ (.cmp .ge (.var 0) (.bin .pow (.int 10) (.int 18))) (.one (.cmp .lt (.var 1) (.int 510))))
    (.seq (.ret (.bin .mod (.bin .shr (.bin .sub (.var 0) (.bin .pow (.int 10) (.int 18))) (.bin .mul (.int 28) (.var 1))) (.bin .pow (.int 2) (.int 28))))
    .nil)
    .nil)
    (blk (.seq (.set 2 false (.bin .mod (.bin .mul (.bin .add (.bin .add (.var 0) (.bin .mul (.int 1013) (.var 1))) (.int 1)) (.int 16807)) (.int 2147483647)))
    (blk (.seq (.set 2 false (.bin .mod (.bin .mul (.var 2) (.var 2)) (.int 2147483629)))
    (blk (.seq (.ret (.bin .fdiv (.bin .mod (.bin .mul (.var 2) (.int 39373)) (.int 2147483587)) (.int 8)))
    .nil)))))))
theorem m_law_stir : mS ts_law_stir false (defScope st_law_stir) b_law_stir (defBody st_law_stir) = true := by decide +kernel
theorem sc_law_stir : FnScope N_law_stir ["cell", "k"] (defScope st_law_stir) := ⟨rfl, rfl, rfl, by decide +kernel, rfl, by decide +kernel, by decide +kernel⟩
theorem a_law_stir : ArgsOk st_law_stir "_law_stir" ["cell", "k"] := fun _ _ _ _ _ _ us hl => match us, hl with | [_, _], _ => rfl

abbrev st_law_names : Stmt := top 19
def N_law_names : List Str := ["head", "base", "many", "some", "letters", "found", "k", "number", "left", "name", "word", "j"]
-- callees ['_law_stir'] constants [] built-in ['range', 'len'] exceptions [] parameters ['head', 'base', 'many']
def ts_law_names : Ts := ⟨N_law_names, ["_law_stir"], [], ["range", "len"], []⟩
def b_law_names : S :=
  (.seq (.set 3 false (.lst (.econs (.str "a") (.econs (.str "yes") (.econs (.str "not") (.econs (.str "both") (.econs (.str "abcdefgh") (.econs (.str "either") (.econs (.str "ye") (.econs (.str "fact") (.econs (.str "x") (.econs (.str "no") (.econs (.str "abcdefg") (.econs (.str "yess") .enil))))))))))))))
    (blk (.seq (.set 3 false (.bin .add (.var 3) (.lst (.econs (.str "deed") (.econs (.str "look") (.econs (.str "ab") (.econs (.str "abc") (.econs (.str "facts") (.econs (.str "need") (.econs (.str "way") (.econs (.str "end") .enil)))))))))))
    (blk (.seq (.set 4 false (.str "abcdefghijklmnopqrstuvwxyz"))
    (blk (.seq (.set 5 true (.lst .enil))
    (blk (.seq (.for_ (.one 6) (.rng1 (.var 2))
    (blk (.seq (.set 7 false (.call 0 (.econs (.var 0) (.econs (.bin .add (.var 1) (.var 6)) .enil))))
    (blk (.seq (.setLc 8 false (.comp [("name", 9)] (.one 9) (.var 3) (eblk (.lend 5 (.cmp .notin (.var 9) (.var 5)))) (eblk (.var 9))))
    (blk (.seq (.set 9 false (.ix (.var 8) (.bin .mod (.var 7) (.blt .len (.econs (.var 8) .enil)))))
    (blk (.seq (.set 10 false (.join (.str "") (.comp [("j", 11)] (.one 11) (.rng1 (.bin .add (.int 1) (.bin .mod (.bin .fdiv (.var 7) (.int 32)) (.int 8)))) .yes (eblk (.ix (.var 4) (.bin .mod (.call 0 (.econs (.var 0) (.econs (.bin .add (.bin .add (.bin .add (.var 1) (.int 40)) (.bin .mul (.int 8) (.var 6))) (.var 11)) .enil))) (.int 26)))))))
    (blk (.seq (.ife (.and_ (.cmp .eq (.bin .mod (.bin .fdiv (.var 7) (.int 1024)) (.int 2)) (.int 0)) (.one (.lend 5 (.cmp .notin (.var 10) (.var 5)))))
    (.seq (.set 9 false (.var 10))
    .nil)
    .nil)
    (blk (.seq (.app 5 (.var 9))
    .nil)))))))))))))
    (blk (.seq (.retO 5)
    .nil)))))))))))
theorem m_law_names : mS ts_law_names false (defScope st_law_names) b_law_names (defBody st_law_names) = true := by decide +kernel
theorem sc_law_names : FnScope N_law_names ["head", "base", "many"] (defScope st_law_names) := ⟨rfl, rfl, rfl, by decide +kernel, rfl, by decide +kernel, by decide +kernel⟩
theorem a_law_names : ArgsOk st_law_names "_law_names" ["head", "base", "many"] := fun _ _ _ _ _ _ us hl => match us, hl with | [_, _, _], _ => rfl

abbrev st_law_condition : Stmt := top 20
def N_law_condition : List Str := ["cell", "base", "node", "facts", "deep", "number", "kind", "one"]
-- callees ['_law_stir', '_law_condition'] constants [] built-in ['len'] exceptions [] parameters ['cell', 'base', 'node', 'facts', 'deep']
def ts_law_condition : Ts := ⟨N_law_condition, ["_law_stir", "_law_condition"], [], ["len"], []⟩
def b_law_condition : S :=
  (.seq (.set 5 false (.call 0 (.econs (.var 0) (.econs (.bin .add (.var 1) (.var 2)) .enil))))
    (blk (.seq (.set 6 false (.bin .mod (.var 5) (.int 10)))
    (blk (.seq (.ife (.cmp .eq (.var 6) (.int 0))
    (.seq (.ret (.tup (.econs (.str "yes") .enil)))
    .nil)
    .nil)
    (blk (.seq (.ife (.or_ (.cmp .lt (.var 6) (.int 4)) (.one (.cmp .eq (.var 4) (.int 0))))
    (.seq (.ret (.tup (.econs (.str "fact") (.econs (.ix (.var 3) (.bin .mod (.bin .fdiv (.var 5) (.int 16)) (.blt .len (.econs (.var 3) .enil)))) .enil))))
    .nil)
    .nil)
    (blk (.seq (.set 7 false (.call 1 (.econs (.var 0) (.econs (.var 1) (.econs (.bin .mul (.int 2) (.var 2)) (.econs (.var 3) (.econs (.bin .sub (.var 4) (.int 1)) .enil)))))))
    (blk (.seq (.ife (.cmp .lt (.var 6) (.int 6))
    (.seq (.ret (.tup (.econs (.str "not") (.econs (.var 7) .enil))))
    .nil)
    .nil)
    (blk (.seq (.ret (.tup (.econs (.ix (.lst (.econs (.str "both") (.econs (.str "either") .enil))) (.bin .mod (.var 6) (.int 2))) (.econs (.var 7) (.econs (.call 1 (.econs (.var 0) (.econs (.var 1) (.econs (.bin .add (.bin .mul (.int 2) (.var 2)) (.int 1)) (.econs (.var 3) (.econs (.bin .sub (.var 4) (.int 1)) .enil)))))) .enil)))))
    .nil)))))))))))))
theorem m_law_condition : mS ts_law_condition false (defScope st_law_condition) b_law_condition (defBody st_law_condition) = true := by decide +kernel
theorem sc_law_condition : FnScope N_law_condition ["cell", "base", "node", "facts", "deep"] (defScope st_law_condition) := ⟨rfl, rfl, rfl, by decide +kernel, rfl, by decide +kernel, by decide +kernel⟩
theorem a_law_condition : ArgsOk st_law_condition "_law_condition" ["cell", "base", "node", "facts", "deep"] := fun _ _ _ _ _ _ us hl => match us, hl with | [_, _, _, _, _], _ => rfl

abbrev st_law_way : Stmt := top 21
def N_law_way : List Str := ["cell", "base", "facts", "found", "k", "number", "when"]
-- callees ['_law_stir', '_law_condition'] constants [] built-in ['range', 'len'] exceptions [] parameters ['cell', 'base', 'facts']
def ts_law_way : Ts := ⟨N_law_way, ["_law_stir", "_law_condition"], [], ["range", "len"], []⟩
def b_law_way : S :=
  (.seq (.set 3 true (.lst .enil))
    (blk (.seq (.for_ (.one 4) (.rng1 (.bin .mod (.call 0 (.econs (.var 0) (.econs (.var 1) .enil))) (.int 5)))
    (blk (.seq (.set 5 false (.call 0 (.econs (.var 0) (.econs (.bin .add (.bin .add (.var 1) (.int 1)) (.var 4)) .enil))))
    (blk (.seq (.set 6 false (.tup (.econs (.str "yes") .enil)))
    (blk (.seq (.ife (.cmp .gt (.bin .mod (.var 5) (.int 3)) (.int 0))
    (.seq (.set 6 false (.call 1 (.econs (.var 0) (.econs (.bin .add (.bin .add (.var 1) (.bin .mul (.int 10) (.var 4))) (.int 10)) (.econs (.int 1) (.econs (.var 2) (.econs (.int 1) .enil)))))))
    .nil)
    .nil)
    (blk (.seq (.app 3 (.tup (.econs (.var 6) (.econs (.ix (.var 2) (.bin .mod (.bin .fdiv (.var 5) (.int 4)) (.blt .len (.econs (.var 2) .enil)))) (.econs (.cmp .eq (.bin .mod (.bin .fdiv (.var 5) (.int 64)) (.int 2)) (.int 1)) .enil)))))
    .nil)))))))))
    (blk (.seq (.retO 3)
    .nil)))))
theorem m_law_way : mS ts_law_way false (defScope st_law_way) b_law_way (defBody st_law_way) = true := by decide +kernel
theorem sc_law_way : FnScope N_law_way ["cell", "base", "facts"] (defScope st_law_way) := ⟨rfl, rfl, rfl, by decide +kernel, rfl, by decide +kernel, by decide +kernel⟩
theorem a_law_way : ArgsOk st_law_way "_law_way" ["cell", "base", "facts"] := fun _ _ _ _ _ _ us hl => match us, hl with | [_, _, _], _ => rfl

abbrev st_law_deed : Stmt := top 22
def N_law_deed : List Str := ["cell", "name", "facts", "number", "need", "ways", "k"]
-- callees ['_law_stir', '_law_condition', '_law_way'] constants [] built-in ['range'] exceptions [] parameters ['cell', 'name', 'facts']
def ts_law_deed : Ts := ⟨N_law_deed, ["_law_stir", "_law_condition", "_law_way"], [], ["range"], []⟩
def b_law_deed : S :=
  (.seq (.set 3 false (.call 0 (.econs (.var 0) (.econs (.int 0) .enil))))
    (blk (.seq (.set 4 false (.tup (.econs (.str "yes") .enil)))
    (blk (.seq (.ife (.cmp .gt (.bin .mod (.var 3) (.int 4)) (.int 1))
    (.seq (.set 4 false (.call 1 (.econs (.var 0) (.econs (.int 100) (.econs (.int 1) (.econs (.var 2) (.econs (.bin .mod (.bin .fdiv (.var 3) (.int 4)) (.int 3)) .enil)))))))
    .nil)
    .nil)
    (blk (.seq (.setLc 5 false (.comp [("k", 6)] (.one 6) (.rng1 (.ix (.lst (.econs (.int 1) (.econs (.int 1) (.econs (.int 2) (.econs (.bin .add (.int 1) (.bin .mod (.bin .fdiv (.var 3) (.int 64)) (.int 4))) .enil))))) (.bin .mod (.bin .fdiv (.var 3) (.int 16)) (.int 4)))) .yes (eblk (.call 2 (.econs (.var 0) (.econs (.bin .add (.int 200) (.bin .mul (.int 60) (.var 6))) (.econs (.var 2) .enil)))))))
    (blk (.seq (.ret (.tup (.econs (.var 1) (.econs (.var 4) (.econs (.var 5) .enil)))))
    .nil)))))))))
theorem m_law_deed : mS ts_law_deed false (defScope st_law_deed) b_law_deed (defBody st_law_deed) = true := by decide +kernel
theorem sc_law_deed : FnScope N_law_deed ["cell", "name", "facts"] (defScope st_law_deed) := ⟨rfl, rfl, rfl, by decide +kernel, rfl, by decide +kernel, by decide +kernel⟩
theorem a_law_deed : ArgsOk st_law_deed "_law_deed" ["cell", "name", "facts"] := fun _ _ _ _ _ _ us hl => match us, hl with | [_, _, _], _ => rfl

abbrev st_law_firsts : Stmt := top 23
def N_law_firsts : List Str := ["head", "facts", "most", "found", "k", "world"]
-- callees ['_law_stir'] constants [] built-in ['range', 'len', 'sorted'] exceptions [] parameters ['head', 'facts', 'most']
def ts_law_firsts : Ts := ⟨N_law_firsts, ["_law_stir"], [], ["range", "len", "sorted"], []⟩
def b_law_firsts : S :=
  (.seq (.set 3 true (.lst .enil))
    (blk (.seq (.for_ (.one 4) (.rng1 (.bin .add (.int 1) (.bin .mod (.call 0 (.econs (.var 0) (.econs (.int 20) .enil))) (.var 2))))
    (blk (.seq (.set 5 false (.bin .mod (.call 0 (.econs (.var 0) (.econs (.bin .add (.int 21) (.var 4)) .enil))) (.bin .shl (.int 1) (.blt .len (.econs (.var 1) .enil)))))
    (blk (.seq (.ife (.lend 3 (.cmp .notin (.var 5) (.var 3)))
    (.seq (.app 3 (.var 5))
    .nil)
    .nil)
    .nil)))))
    (blk (.seq (.frz 3)
    (blk (.seq (.ret (.srt (.var 3)))
    .nil)))))))
theorem m_law_firsts : mS ts_law_firsts false (defScope st_law_firsts) b_law_firsts (defBody st_law_firsts) = true := by decide +kernel
theorem sc_law_firsts : FnScope N_law_firsts ["head", "facts", "most"] (defScope st_law_firsts) := ⟨rfl, rfl, rfl, by decide +kernel, rfl, by decide +kernel, by decide +kernel⟩
theorem a_law_firsts : ArgsOk st_law_firsts "_law_firsts" ["head", "facts", "most"] := fun _ _ _ _ _ _ us hl => match us, hl with | [_, _, _], _ => rfl

abbrev st_law_house : Stmt := top 24
def N_law_house : List Str := ["script", "most_facts", "head", "facts", "called", "deeds", "cell", "looks", "firsts", "need"]
-- callees ['_law_cell_at', '_law_names', '_law_stir', '_law_deed', '_law_condition', '_law_firsts'] constants [] built-in ['len'] exceptions [] parameters ['script', 'most_facts']
def ts_law_house : Ts := ⟨N_law_house, ["_law_cell_at", "_law_names", "_law_stir", "_law_deed", "_law_condition", "_law_firsts"], [], ["len"], []⟩
def b_law_house : S :=
  (.seq (.set 2 false (.call 0 (.econs (.var 0) (.econs (.int 0) .enil))))
    (blk (.seq (.set 3 false (.call 1 (.econs (.var 2) (.econs (.int 300) (.econs (.bin .add (.int 1) (.bin .mod (.call 2 (.econs (.var 2) (.econs (.int 0) .enil))) (.var 1))) .enil)))))
    (blk (.seq (.set 4 false (.call 1 (.econs (.var 2) (.econs (.int 700) (.econs (.int 18) .enil)))))
    (blk (.seq (.set 5 true (.lst .enil))
    (blk (.seq (.for_ (.one 6) (.sl (.var 0) (.int 1) (.int 13))
    (blk (.seq (.app 5 (.call 3 (.econs (.var 6) (.econs (.ix (.var 4) (.lend 5 (.blt .len (.econs (.var 5) .enil)))) (.econs (.var 3) .enil)))))
    .nil)))
    (blk (.seq (.set 7 true (.lst .enil))
    (blk (.seq (.for_ (.one 6) (.sl (.var 0) (.int 13) (.bin .add (.int 13) (.bin .mod (.call 2 (.econs (.var 2) (.econs (.int 1) .enil))) (.int 7))))
    (blk (.seq (.set 9 false (.call 4 (.econs (.var 6) (.econs (.int 500) (.econs (.int 1) (.econs (.var 3) (.econs (.int 1) .enil)))))))
    (blk (.seq (.app 7 (.tup (.econs (.ix (.var 4) (.bin .add (.int 12) (.lend 7 (.blt .len (.econs (.var 7) .enil))))) (.econs (.var 9) (.econs (.call 4 (.econs (.var 6) (.econs (.int 530) (.econs (.int 1) (.econs (.var 3) (.econs (.int 2) .enil)))))) .enil)))))
    .nil)))))
    (blk (.seq (.set 8 false (.call 5 (.econs (.var 2) (.econs (.var 3) (.econs (.ix (.lst (.econs (.int 2) (.econs (.int 8) (.econs (.int 64) .enil)))) (.bin .mod (.call 2 (.econs (.var 2) (.econs (.int 2) .enil))) (.int 3))) .enil)))))
    (blk (.seq (.frz 7)
    (blk (.seq (.frz 5)
    (blk (.seq (.ret (.tup (.econs (.var 3) (.econs (.var 5) (.econs (.var 7) (.econs (.var 8) (.econs (.call 4 (.econs (.var 2) (.econs (.int 100) (.econs (.int 1) (.econs (.var 3) (.econs (.int 3) .enil)))))) .enil)))))))
    .nil)))))))))))))))))))))
theorem m_law_house : mS ts_law_house false (defScope st_law_house) b_law_house (defBody st_law_house) = true := by decide +kernel
theorem sc_law_house : FnScope N_law_house ["script", "most_facts"] (defScope st_law_house) := ⟨rfl, rfl, rfl, by decide +kernel, rfl, by decide +kernel, by decide +kernel⟩
theorem a_law_house : ArgsOk st_law_house "_law_house" ["script", "most_facts"] := fun _ _ _ _ _ _ us hl => match us, hl with | [_, _], _ => rfl

abbrev st_law_copied : Stmt := top 25
def N_law_copied : List Str := ["house", "deeds", "name", "need", "ways", "way"]
-- callees [] constants [] built-in ['list'] exceptions [] parameters ['house']
def ts_law_copied : Ts := ⟨N_law_copied, [], [], ["list"], []⟩
def b_law_copied : S :=
  (.seq (.setLc 1 false (.comp [("name", 2), ("need", 3), ("ways", 4)] (.many [2, 3, 4]) (.ix (.var 0) (.int 1)) .yes (eblk (.tup (.econs (.var 2) (.econs (.var 3) (.econs (.comp [("way", 5)] (.one 5) (.var 4) .yes (eblk (.blt .list (.econs (.var 5) .enil)))) .enil)))))))
    (blk (.seq (.ret (.tup (.econs (.blt .list (.econs (.ix (.var 0) (.int 0)) .enil)) (.econs (.var 1) (.econs (.blt .list (.econs (.ix (.var 0) (.int 2)) .enil)) (.econs (.blt .list (.econs (.ix (.var 0) (.int 3)) .enil)) (.econs (.ix (.var 0) (.int 4)) .enil)))))))
    .nil)))
theorem m_law_copied : mS ts_law_copied false (defScope st_law_copied) b_law_copied (defBody st_law_copied) = true := by decide +kernel
theorem sc_law_copied : FnScope N_law_copied ["house"] (defScope st_law_copied) := ⟨rfl, rfl, rfl, by decide +kernel, rfl, by decide +kernel, by decide +kernel⟩
theorem a_law_copied : ArgsOk st_law_copied "_law_copied" ["house"] := fun _ _ _ _ _ _ us hl => match us, hl with | [_], _ => rfl

abbrev st_law_holds : Stmt := top 26
def N_law_holds : List Str := ["facts", "condition", "world", "some", "part"]
-- callees ['_law_holds'] constants [] built-in ['int'] exceptions [] parameters ['facts', 'condition', 'world']
def ts_law_holds : Ts := ⟨N_law_holds, ["_law_holds"], [], ["int"], []⟩
def b_law_holds : S :=
  (.seq (.ife (.cmp .eq (.ix (.var 1) (.int 0)) (.str "yes"))
    (.seq (.ret (.bl true))
    .nil)
    .nil)
    (blk (.seq (.ife (.cmp .eq (.ix (.var 1) (.int 0)) (.str "fact"))
    (.seq (.ret (.cmp .eq (.bin .mod (.bin .fdiv (.var 2) (.bin .shl (.int 1) (.mix (.var 0) (.ix (.var 1) (.int 1))))) (.int 2)) (.int 1)))
    .nil)
    .nil)
    (blk (.seq (.ife (.cmp .eq (.ix (.var 1) (.int 0)) (.str "not"))
    (.seq (.ret (.not_ (.call 0 (.econs (.var 0) (.econs (.ix (.var 1) (.int 1)) (.econs (.var 2) .enil))))))
    .nil)
    .nil)
    (blk (.seq (.setLc 3 false (.comp [("part", 4)] (.one 4) (.sl (.var 1) (.int 1) .nop) .yes (eblk (.call 0 (.econs (.var 0) (.econs (.var 4) (.econs (.var 2) .enil)))))))
    (blk (.seq (.ret (.ix (.lst (.econs (.and_ (.ix (.var 3) (.int 0)) (.one (.ix (.var 3) (.int 1)))) (.econs (.or_ (.ix (.var 3) (.int 0)) (.one (.ix (.var 3) (.int 1)))) .enil))) (.blt .int (.econs (.cmp .eq (.ix (.var 1) (.int 0)) (.str "either")) .enil))))
    .nil)))))))))
theorem m_law_holds : mS ts_law_holds false (defScope st_law_holds) b_law_holds (defBody st_law_holds) = true := by decide +kernel
theorem sc_law_holds : FnScope N_law_holds ["facts", "condition", "world"] (defScope st_law_holds) := ⟨rfl, rfl, rfl, by decide +kernel, rfl, by decide +kernel, by decide +kernel⟩
theorem a_law_holds : ArgsOk st_law_holds "_law_holds" ["facts", "condition", "world"] := fun _ _ _ _ _ _ us hl => match us, hl with | [_, _, _], _ => rfl

abbrev st_law_crowd : Stmt := top 27
def N_law_crowd : List Str := ["cell", "base", "facts", "most", "worlds", "found", "k"]
-- callees ['_law_stir'] constants [] built-in ['len', 'tuple', 'range', 'sorted', 'set'] exceptions [] parameters ['cell', 'base', 'facts', 'most']
def ts_law_crowd : Ts := ⟨N_law_crowd, ["_law_stir"], [], ["len", "tuple", "range", "sorted", "set"], []⟩
def b_law_crowd : S :=
  (.seq (.set 4 false (.bin .shl (.int 1) (.blt .len (.econs (.var 2) .enil))))
    (blk (.seq (.ife (.and_ (.cmp .eq (.bin .mod (.call 0 (.econs (.var 0) (.econs (.var 1) .enil))) (.int 8)) (.int 0)) (.one (.cmp .lt (.var 4) (.int 65))))
    (.seq (.ret (.trg1 (.var 4)))
    .nil)
    .nil)
    (blk (.seq (.set 5 true (.lst .enil))
    (blk (.seq (.for_ (.one 6) (.rng1 (.bin .add (.int 1) (.bin .mod (.call 0 (.econs (.var 0) (.econs (.bin .add (.var 1) (.int 1)) .enil))) (.var 3))))
    (blk (.seq (.app 5 (.bin .mod (.call 0 (.econs (.var 0) (.econs (.bin .add (.bin .add (.var 1) (.int 2)) (.var 6)) .enil))) (.var 4)))
    .nil)))
    (blk (.seq (.frz 5)
    (blk (.seq (.ret (.blt .tuple (.econs (.sset (.var 5)) .enil)))
    .nil)))))))))))
theorem m_law_crowd : mS ts_law_crowd false (defScope st_law_crowd) b_law_crowd (defBody st_law_crowd) = true := by decide +kernel
theorem sc_law_crowd : FnScope N_law_crowd ["cell", "base", "facts", "most"] (defScope st_law_crowd) := ⟨rfl, rfl, rfl, by decide +kernel, rfl, by decide +kernel, by decide +kernel⟩
theorem a_law_crowd : ArgsOk st_law_crowd "_law_crowd" ["cell", "base", "facts", "most"] := fun _ _ _ _ _ _ us hl => match us, hl with | [_, _, _, _], _ => rfl

abbrev st_law : Stmt := top 28
def N_law : List Str := ["script", "house", "handed", "crowds", "k", "crowd", "due", "name", "need", "ways", "found", "world"]
-- callees ['_law_house', '_law_copied', '_law_crowd', '_law_cell_at', '_law_holds', 'doable_in'] constants [] built-in ['tuple', 'range', 'max', 'min', 'len', 'isinstance', 'list'] exceptions [] parameters ['script']
def ts_law : Ts := ⟨N_law, ["_law_house", "_law_copied", "_law_crowd", "_law_cell_at", "_law_holds", "doable_in"], [], ["tuple", "range", "max", "min", "len", "isinstance", "list"], []⟩
def b_law : S :=
  (.seq (.set 1 false (.call 0 (.econs (.var 0) (.econs (.int 10) .enil))))
    (blk (.seq (.set 2 false (.call 1 (.econs (.var 1) .enil)))
    (blk (.seq (.set 3 true (.lst (.econs (.blt .tuple (.econs (.ix (.var 1) (.int 3)) .enil)) .enil)))
    (blk (.seq (.for_ (.one 4) (.rng1 (.blt .max2 (.econs (.int 8) (.econs (.blt .min2 (.econs (.int 24) (.econs (.blt .len (.econs (.var 0) .enil)) .enil))) .enil))))
    (blk (.seq (.app 3 (.call 2 (.econs (.bin .add (.call 3 (.econs (.var 0) (.econs (.bin .add (.int 1) (.var 4)) .enil))) (.var 4)) (.econs (.int 650) (.econs (.ix (.var 1) (.int 0)) (.econs (.ix (.lst (.econs (.int 1) (.econs (.int 2) (.econs (.int 8) .enil)))) (.bin .mod (.var 4) (.int 3))) .enil))))))
    .nil)))
    (blk (.seq (.frz 3)
    (blk (.seq (.for_ (.one 5) (.var 3)
    (blk (.seq (.set 6 true (.lst .enil))
    (blk (.seq (.for_ (.many [7, 8, 9]) (.ix (.var 1) (.int 1))
    (blk (.seq (.ife (.cmp .eq (.comp [("world", 11)] (.one 11) (.var 5) (eblk (.not_ (.call 4 (.econs (.ix (.var 1) (.int 0)) (.econs (.var 8) (.econs (.var 11) .enil)))))) (eblk (.var 11))) (.lst .enil))
    (.seq (.app 6 (.var 7))
    .nil)
    .nil)
    .nil)))
    (blk (.seq (.set 10 true (.call 5 (.econs (.var 2) (.econs (.var 5) .enil))))
    (blk (.seq (.ife (.or_ (.not_ (.lend 10 (.isi (.var 10) .list))) (.one (.lend 10 (.lend 6 (.cmp .ne (.var 10) (.var 6))))))
    (.seq (.ret (.bl false))
    .nil)
    .nil)
    (blk (.seq (.app 10 (.str "q"))
    (blk (.seq (.ife (.lend 6 (.cmp .ne (.call 5 (.econs (.var 2) (.econs (.var 5) .enil))) (.var 6)))
    (.seq (.ret (.bl false))
    .nil)
    .nil)
    .nil)))))))))))))
    (blk (.seq (.ret (.cmp .eq (.var 2) (.var 1)))
    .nil)))))))))))))
theorem m_law : mS ts_law false (defScope st_law) b_law (defBody st_law) = true := by decide +kernel
theorem sc_law : FnScope N_law ["script"] (defScope st_law) := ⟨rfl, rfl, rfl, by decide +kernel, rfl, by decide +kernel, by decide +kernel⟩
theorem a_law : ArgsOk st_law "law" ["script"] := fun _ _ _ _ _ _ us hl => match us, hl with | [_], _ => rfl

end K10

open PySem L2 PG
namespace K10
open PySem.PyData (strOk)
/-! ### what the defs promise -/
theorem cpow (i j : Int) (h : 0 ≤ j ∧ j ≤ 1000000 ∧ i.natAbs < 2 ^ 64 := by decide) : CPow i j := h
theorem mod_b (z m : Int) (h : 0 < m) : 0 ≤ z % m ∧ z % m < m := ⟨Int.emod_nonneg _ (by omega), Int.emod_lt_of_pos _ h⟩
def spStir : SpT := fun ds _ Φ => ∃ c k : Int, ds = [.int c, .int k] ∧ 0 ≤ k ∧ k ≤ 100000 ∧ ∀ r : Int, 0 ≤ r → r < 268435456 → Φ (.val (.int r))
def feStir : FEntry := ⟨"_law_stir", ["cell", "k"], spStir⟩
theorem v_stir : ∀ ds Ξ Φ, spStir ds Ξ Φ → wpS ⟨N_law_stir, [], [], [], [], 0⟩ b_law_stir (rho0 N_law_stir ds) (postOf Ξ Φ) := by
  rintro ds Ξ Φ ⟨c, k, rfl, h1, h2, h⟩
  unfold b_law_stir N_law_stir
  walk_at "wp"
  have tail : CMul 1013 k ∧ CMul (c + 1013 * k + 1) 16807 ∧ (0 : Int) < 2147483647 ∧ CMul ((c + 1013 * k + 1) * 16807 % 2147483647) ((c + 1013 * k + 1) * 16807 % 2147483647) ∧ (0 : Int) < 2147483629 ∧
      CMul ((c + 1013 * k + 1) * 16807 % 2147483647 * ((c + 1013 * k + 1) * 16807 % 2147483647) % 2147483629) 39373 ∧ (0 : Int) < 2147483587 ∧
        CDiv ((c + 1013 * k + 1) * 16807 % 2147483647 * ((c + 1013 * k + 1) * 16807 % 2147483647) % 2147483629 * 39373 % 2147483587) 8 ∧
          Φ (.val (.int ((c + 1013 * k + 1) * 16807 % 2147483647 * ((c + 1013 * k + 1) * 16807 % 2147483647) % 2147483629 * 39373 % 2147483587 / 8))) := by
    have m1 := mod_b ((c + 1013 * k + 1) * 16807) 2147483647 (by decide)
    generalize (c + 1013 * k + 1) * 16807 % 2147483647 = y at m1 ⊢
    have m2 := mod_b (y * y) 2147483629 (by decide)
    generalize y * y % 2147483629 = z at m2 ⊢
    have m3 := mod_b (z * 39373) 2147483587 (by decide)
    generalize z * 39373 % 2147483587 = u at m3 ⊢
    exact ⟨.inl (by decide), .inr (by decide), by decide, .inl ⟨by omega, by omega⟩, by decide, .inr (by decide), by decide, ⟨by decide, by decide⟩, h _ (by omega) (by omega)⟩
  refine ⟨cpow 10 18, boolW_dec (fun hc => boolW_dec (fun hk => ?_) fun hk => tail) fun hc => tail⟩
  exact ⟨cpow 10 18, .inl (by decide), by omega, cpow 2 28, by decide, h _ (Int.emod_nonneg _ (by decide)) (Int.emod_lt_of_pos _ (by decide))⟩
def spCell : SpT := fun ds _ Φ => ∃ (ns : List Int) (k : Int), ds = [.list (ns.map .int), .int k] ∧ 0 ≤ k ∧ ∀ r : Int, Φ (.val (.int r))
def feCell : FEntry := ⟨"_law_cell_at", ["script", "k"], spCell⟩
theorem v_cell : ∀ ds Ξ Φ, spCell ds Ξ Φ → wpS ⟨N_law_cell_at, [], [], ["len"], [], 0⟩ b_law_cell_at (rho0 N_law_cell_at ds) (postOf Ξ Φ) := by
  rintro ds Ξ Φ ⟨ns, k, rfl, h1, h⟩
  unfold b_law_cell_at N_law_cell_at
  walk_at "wp"
  refine boolW_dec (fun hc => ?_) fun hc => h 0
  obtain ⟨x, hx, e⟩ := atI_lt (xs := ns) h1 (by simpa using hc)
  exact ⟨.int x, by rw [atI_map, e]; rfl, h x⟩
/-! the program -/
def spFB : SpT := fun ds _ Φ => ∃ (fs : List Str) (r : List D) (n : Str), ds = [.tuple (.list (fs.map .str) :: r), .str n] ∧ Names fs ∧ n ∈ fs ∧ fs.length ≤ 64 ∧ Φ (.val (.int ((2 ^ fs.idxOf n : Nat) : Int)))
def feFB : FEntry := ⟨"fact_bit", ["house", "fact"], spFB⟩
theorem v_fb : ∀ ds Ξ Φ, spFB ds Ξ Φ → wpS ⟨N_fact_bit, [], [("FACTS", .int 0)], [], [], 0⟩ b_fact_bit (rho0 N_fact_bit ds) (postOf Ξ Φ) := by
  rintro ds Ξ Φ ⟨fs, r, n, rfl, hn, hm, hl, h⟩
  unfold b_fact_bit N_fact_bit
  walk_at "wp"
  have hi := List.idxOf_lt_length_of_mem hm
  have e : (1 : Int) * 2 ^ ((fs.idxOf n : Nat) : Int).toNat = ((2 ^ fs.idxOf n : Nat) : Int) := by simp
  exact mix_strs hn hm ⟨⟨by omega, by omega, by decide⟩, by rw [e]; exact h⟩
def spSo : SpT := fun ds _ Φ => ∃ (fs : List Str) (r : List D) (n : Str) (w : Nat), ds = [.tuple (.list (fs.map .str) :: r), .str n, .int w] ∧ Names fs ∧ n ∈ fs ∧ fs.length ≤ 64 ∧ Φ (.val (.bool (w.testBit (fs.idxOf n))))
def feSo : FEntry := ⟨"is_so", ["house", "fact", "world"], spSo⟩
theorem v_so : ∀ ds Ξ Φ, spSo ds Ξ Φ → wpS ⟨N_is_so, [feFB], [], [], [], 1⟩ b_is_so (rho0 N_is_so ds) (postOf Ξ Φ) := by
  rintro ds Ξ Φ ⟨fs, r, n, w, rfl, hn, hm, hl, h⟩
  unfold b_is_so N_is_so
  walk_at "wp"
  refine ⟨fs, r, n, rfl, hn, hm, hl, ?_⟩
  walk_at "wp"
  rw [band_bit]
  have e : decide ((0 : Int) < (((w.testBit (fs.idxOf n)).toNat * 2 ^ fs.idxOf n : Nat) : Int)) = w.testBit (fs.idxOf n) := by
    have p : 0 < 2 ^ fs.idxOf n := Nat.two_pow_pos _
    cases w.testBit (fs.idxOf n) with
    | true => exact decide_eq_true (by simp only [Bool.toNat_true, Nat.one_mul]; omega)
    | false => exact decide_eq_false (by simp)
  rw [e]
  exact h
def spWA : SpT := fun ds _ Φ => ∃ (fs : List Str) (r : List D), ds = [.tuple (.list (fs.map .str) :: r)] ∧ fs.length ≤ 64 ∧ Φ (.val (.int ((2 ^ fs.length : Nat) : Int)))
def feWA : FEntry := ⟨"worlds_in_all", ["house"], spWA⟩
theorem v_wa : ∀ ds Ξ Φ, spWA ds Ξ Φ → wpS ⟨N_worlds_in_all, [], [("FACTS", .int 0)], ["len"], [], 0⟩ b_worlds_in_all (rho0 N_worlds_in_all ds) (postOf Ξ Φ) := by
  rintro ds Ξ Φ ⟨fs, r, rfl, hl, h⟩
  unfold b_worlds_in_all N_worlds_in_all
  walk_at "wp"
  rw [List.length_map]
  have e : (1 : Int) * 2 ^ ((fs.length : Nat) : Int).toNat = ((2 ^ fs.length : Nat) : Int) := by simp
  exact ⟨⟨by omega, by omega, by decide⟩, by rw [e]; exact h⟩
/-- holds_in(house, c, w), fewer than n deep -/
def spHI (n : Nat) : SpT := fun ds _ Φ => ∃ (fs : List Str) (r : List D) (c : Cd) (w : Nat), ds = [.tuple (.list (fs.map .str) :: r), c.py, .int w] ∧ Names fs ∧ c.over fs ∧ fs.length ≤ 64 ∧ c.dep < n ∧ Φ (.val (.bool (c.ev fs w)))
def feHI (n : Nat) : FEntry := ⟨"holds_in", ["house", "condition", "world"], spHI n⟩
theorem v_hi (n : Nat) (k : Nat) : ∀ ds Ξ Φ, spHI (n + 1) ds Ξ Φ → wpS ⟨N_holds_in, [feSo, feHI n], [], [], [], k⟩ b_holds_in (rho0 N_holds_in ds) (postOf Ξ Φ) := by
  rintro ds Ξ Φ ⟨fs, r, c, w, rfl, hn, ho, hl, hd, h⟩
  unfold b_holds_in N_holds_in
  cases c with
  | yes =>
    dsimp only [Cd.py]
    walk_at "wp"
    exact h
  | fact f =>
    dsimp only [Cd.py]
    walk_at "wp"
    exact ⟨fs, r, f, w, rfl, hn, ho, hl, h⟩
  | not_ c =>
    dsimp only [Cd.py]
    walk_at "wp"
    exact ⟨fs, r, c, w, rfl, hn, ho, hl, by simp only [Cd.dep] at hd; omega, h⟩
  | both c d =>
    dsimp only [Cd.py]
    walk_at "wp"
    simp only [Cd.dep] at hd
    refine ⟨fs, r, c, w, rfl, hn, ho.1, hl, by omega, boolW_mk (fun e => ?_) fun e => ?_⟩
    · refine ⟨fs, r, d, w, rfl, hn, ho.2, hl, by omega, ?_⟩
      have q : Cd.ev fs w (.both c d) = Cd.ev fs w d := by simp only [Cd.ev, e, Bool.true_and]
      rw [q] at h
      exact h
    · have q : Cd.ev fs w (.both c d) = false := by simp only [Cd.ev, e, Bool.false_and]
      rw [q] at h
      exact h
  | either c d =>
    dsimp only [Cd.py]
    walk_at "wp"
    simp only [Cd.dep] at hd
    refine ⟨fs, r, c, w, rfl, hn, ho.1, hl, by omega, boolW_mk (fun e => ?_) fun e => ?_⟩
    · have q : Cd.ev fs w (.either c d) = true := by simp only [Cd.ev, e, Bool.true_or]
      rw [q] at h
      exact h
    · refine ⟨fs, r, d, w, rfl, hn, ho.2, hl, by omega, ?_⟩
      have q : Cd.ev fs w (.either c d) = Cd.ev fs w d := by simp only [Cd.ev, e, Bool.false_or]
      rw [q] at h
      exact h
end K10

open PySem L2 PG
namespace K10
open PySem L2 PG
open PySem.PyData (strOk)
/-! worlds and crowds -/
def seqD : Bool → List D → D
  | true, xs => .list xs
  | false, xs => .tuple xs
def spIW : SpT := fun ds _ Φ => ∃ (fs : List Str) (r : List D) (z : Int), ds = [.tuple (.list (fs.map .str) :: r), .int z] ∧ fs.length ≤ 64 ∧ Φ (.val (.bool (decide (0 ≤ z ∧ z < ((2 ^ fs.length : Nat) : Int)))))
def feIW : FEntry := ⟨"is_world", ["house", "number"], spIW⟩
theorem v_iw (k : Nat) : ∀ ds Ξ Φ, spIW ds Ξ Φ → wpS ⟨N_is_world, [feWA], [], ["isinstance", "int", "bool"], [], k⟩ b_is_world (rho0 N_is_world ds) (postOf Ξ Φ) := by
  rintro ds Ξ Φ ⟨fs, r, z, rfl, hl, h⟩
  unfold b_is_world N_is_world
  walk_at "wp"
  refine ⟨_, _, _, rfl, rfl, rfl, fun e => ?_, fun e => ?_⟩
  · have e := of_decide_eq_true e
    refine ⟨fs, r, rfl, hl, _, _, rfl, rfl, ?_⟩
    rw [show (decide (z < ((2 ^ fs.length : Nat) : Int))) = decide (0 ≤ z ∧ z < ((2 ^ fs.length : Nat) : Int)) by simp only [e, true_and]]
    exact h
  · have e := of_decide_eq_false e
    rw [show (decide (0 ≤ z ∧ z < ((2 ^ fs.length : Nat) : Int))) = false from decide_eq_false fun q => e q.1] at h
    exact h
/-- one or more worlds below M, rising -/
def crowdOk (M : Nat) (zs : List Int) : Bool := !zs.isEmpty && zs.all (fun z => decide (0 ≤ z ∧ z < (M : Int))) && decide (zs.Pairwise (· < ·))
theorem lay_intL (zs : List Int) : Lay 1 (.list (zs.map .int)) := lay_list (n := 0) fun d hd => by
  obtain ⟨i, _, rfl⟩ := List.mem_map.mp hd
  exact lay_int _
theorem ints_map : ∀ zs : List Int, intsOf (zs.map .int) = some zs
  | [] => rfl
  | z :: zs => by rw [List.map_cons]; simp only [intsOf, ints_map zs]; rfl
theorem eqv_ints : ∀ zs ys : List Int, PyData.eqv (.list (zs.map .int)) (.list (ys.map .int)) = decide (zs = ys)
  | [], [] => by simp [PyData.eqv, PyData.eqvAll]
  | [], y :: ys => by simp [PyData.eqv, PyData.eqvAll]
  | z :: zs, [] => by simp [PyData.eqv, PyData.eqvAll]
  | z :: zs, y :: ys => by
    have ih := eqv_ints zs ys
    simp only [PyData.eqv] at ih
    simp only [List.map_cons, PyData.eqv, PyData.eqvAll, ih]
    by_cases h : z = y <;> by_cases h2 : zs = ys <;> simp [h, h2]
def inW (M : Nat) : D → Bool
  | .int z => decide (0 ≤ z ∧ z < (M : Int))
  | _ => false
theorem inW_map (M : Nat) (zs : List Int) : (zs.map PyData.int).all (inW M) = zs.all fun z => decide (0 ≤ z ∧ z < (M : Int)) := by
  rw [List.all_map]
  rfl
theorem crowd_ok {M : Nat} {ws : List Nat} (h : Crowd M ws) : crowdOk M (ws.map fun (w : Nat) => (w : Int)) = true := by
  unfold crowdOk
  have e1 : (ws.map fun (w : Nat) => (w : Int)).isEmpty = false := by
    have := h.ne
    cases ws <;> simp at this ⊢
  rw [e1, decide_eq_true (rise_nat.mpr h.up)]
  simp only [Bool.not_false, Bool.true_and, Bool.and_true, List.all_map, List.all_eq_true]
  intro w hw
  have := h.lt w hw
  refine decide_eq_true (?_ : (0 : Int) ≤ (w : Int) ∧ (w : Int) < (M : Int))
  omega
def spAW : SpT := fun ds _ Φ => ∃ (fs : List Str) (r : List D) (b : Bool) (zs : List Int), ds = [.tuple (.list (fs.map .str) :: r), seqD b (zs.map .int)] ∧ fs.length ≤ 64 ∧ zs.length ≤ 4000 ∧ Φ (.val (.bool (crowdOk (2 ^ fs.length) zs)))
def feAW : FEntry := ⟨"are_worlds", ["house", "numbers"], spAW⟩
theorem v_aw (k : Nat) : ∀ ds Ξ Φ, spAW ds Ξ Φ → wpS ⟨N_are_worlds, [feIW], [], ["all", "len", "list", "sorted", "set"], [], k⟩ b_are_worlds (rho0 N_are_worlds ds) (postOf Ξ Φ) := by
  rintro ds Ξ Φ ⟨fs, r, b, zs, rfl, hl, hz, h⟩
  unfold b_are_worlds N_are_worlds
  have tail : zs.isEmpty = false → (zs.all fun z => decide (0 ≤ z ∧ z < ((2 ^ fs.length : Nat) : Int))) = true → ∀ d : D, seqOf d = some (zs.map .int) → ssetW d fun y => SeqAt.shaped (.list (zs.map .int)) = true ∧ SeqAt.shaped y.d = true ∧ Φ (.val (.bool (PyData.eqv (.list (zs.map .int)) y.d))) := fun h1 h2 d hd => by
    refine ⟨_, zs, hd, ints_map zs, hz, fun ys hy hk => ⟨(lay_intL zs).shaped (by decide), (lay_intL ys).shaped (by decide), ?_⟩⟩
    show Φ (.val (.bool (PyData.eqv (.list (zs.map .int)) (.list (ys.map .int)))))
    rw [eqv_ints]
    have e : crowdOk (2 ^ fs.length) zs = decide (zs = ys) := by
      unfold crowdOk
      rw [h1, h2]
      simp only [Bool.not_false, Bool.true_and]
      by_cases q : zs.Pairwise (· < ·)
      · rw [decide_eq_true q]
        exact (decide_eq_true (rising_ext q hy fun k => (hk k).symm)).symm
      · rw [decide_eq_false q]
        exact (decide_eq_false fun e => q (by rw [e]; exact hy)).symm
    rw [← e]
    exact h
  have none : ∀ c : Bool, c = false → crowdOk (2 ^ fs.length) zs = c → Φ (.val (.bool false)) := fun c e1 e2 => by
    rw [e2, e1] at h
    exact h
  cases b with
  | true =>
    dsimp only [seqD]
    walk_at "wp"
    refine boolW_dec (fun e => none _ rfl ?_) fun e => ?_
    · have : zs = [] := by simpa using e
      subst this
      rfl
    have hne : zs.isEmpty = false := by cases zs <;> simp at e ⊢
    refine genW_all (inW (2 ^ fs.length)) _ (fun x hx A hA => ?_) ?_
    · obtain ⟨z, _, rfl⟩ := List.mem_map.mp hx
      walk_at "wp"
      exact ⟨fs, r, z, rfl, hl, hA⟩
    rw [inW_map]
    refine boolW_mk (fun e2 => none _ rfl ?_) fun e2 => ?_
    · simp only [Bool.not_eq_true'] at e2
      unfold crowdOk
      rw [e2]
      simp
    walk_at "wp"
    simp only [Bool.not_eq_false'] at e2
    exact tail hne e2 _ rfl
  | false => 
    dsimp only [seqD]
    walk_at "wp"
    refine boolW_dec (fun e => none _ rfl ?_) fun e => ?_
    · have : zs = [] := by simpa using e
      subst this
      rfl
    have hne : zs.isEmpty = false := by cases zs <;> simp at e ⊢
    refine genW_all (inW (2 ^ fs.length)) _ (fun x hx A hA => ?_) ?_
    · obtain ⟨z, _, rfl⟩ := List.mem_map.mp hx
      walk_at "wp"
      exact ⟨fs, r, z, rfl, hl, hA⟩
    rw [inW_map]
    refine boolW_mk (fun e2 => none _ rfl ?_) fun e2 => ?_
    · simp only [Bool.not_eq_true'] at e2
      unfold crowdOk
      rw [e2]
      simp
    walk_at "wp"
    simp only [Bool.not_eq_false'] at e2
    exact tail hne e2 _ rfl
/-- what is no crowd is refused -/
def spRN : SpT := fun ds Ξ Φ => ∃ (fs : List Str) (r : List D) (b : Bool) (zs : List Int), ds = [.tuple (.list (fs.map .str) :: r), seqD b (zs.map .int)] ∧ fs.length ≤ 64 ∧ zs.length ≤ 4000 ∧ (crowdOk (2 ^ fs.length) zs = true → Φ (.val .none)) ∧ (crowdOk (2 ^ fs.length) zs = false → Ξ "NoWorld")
def feRN : FEntry := ⟨"refuse_no_crowd", ["house", "crowd"], spRN⟩
theorem v_rn (k : Nat) : ∀ ds Ξ Φ, spRN ds Ξ Φ → wpS ⟨N_refuse_no_crowd, [feAW], [], [], ["NoWorld"], k⟩ b_refuse_no_crowd (rho0 N_refuse_no_crowd ds) (postOf Ξ Φ) := by
  rintro ds Ξ Φ ⟨fs, r, b, zs, rfl, hl, hz, h1, h2⟩
  unfold b_refuse_no_crowd N_refuse_no_crowd
  walk_at "wp"
  refine ⟨fs, r, b, zs, rfl, hl, hz, boolW_mk (fun e => ?_) fun e => ?_⟩
  · simp only [Bool.not_eq_true'] at e
    walk_at "wp"
    exact h2 e
  · simp only [Bool.not_eq_false'] at e
    walk_at "wp"
    exact h1 e
/-- it holds in each world of the crowd -/
def spHE (n : Nat) : SpT := fun ds _ Φ => ∃ (fs : List Str) (r : List D) (c : Cd) (b : Bool) (ws : List Nat), ds = [.tuple (.list (fs.map .str) :: r), c.py, seqD b (ws.map natD)] ∧ Names fs ∧ c.over fs ∧ fs.length ≤ 64 ∧ c.dep < n ∧ Φ (.val (.bool (ws.all fun w => c.ev fs w)))
def feHE (n : Nat) : FEntry := ⟨"holds_in_each", ["house", "condition", "crowd"], spHE n⟩
def evD (fs : List Str) (c : Cd) : D → Bool
  | .int z => c.ev fs z.toNat
  | _ => false
theorem v_he (n k : Nat) : ∀ ds Ξ Φ, spHE n ds Ξ Φ → wpS ⟨N_holds_in_each, [feHI n], [], ["all"], [], k⟩ b_holds_in_each (rho0 N_holds_in_each ds) (postOf Ξ Φ) := by
  rintro ds Ξ Φ ⟨fs, r, c, b, ws, rfl, hn, ho, hl, hd, h⟩
  unfold b_holds_in_each N_holds_in_each
  have em : (ws.map natD).all (evD fs c) = ws.all fun w => c.ev fs w := by
    rw [List.all_map]
    rfl
  cases b with
  | true =>
    dsimp only [seqD]
    walk_at "wp"
    refine genW_all (evD fs c) _ (fun x hx A hA => ?_) (by rw [em]; exact h)
    obtain ⟨w, _, rfl⟩ := List.mem_map.mp hx
    walk_at "wp"
    exact ⟨fs, r, c, w, rfl, hn, ho, hl, hd, hA⟩
  | false =>
    dsimp only [seqD]
    walk_at "wp"
    refine genW_all (evD fs c) _ (fun x hx A hA => ?_) (by rw [em]; exact h)
    obtain ⟨w, _, rfl⟩ := List.mem_map.mp hx
    walk_at "wp"
    exact ⟨fs, r, c, w, rfl, hn, ho, hl, hd, hA⟩
/-- a change: when c, the fact f becomes b -/
structure Ch where
  c : Cd
  f : Str
  b : Bool
def Ch.py (c : Ch) : D := .tuple [c.c.py, .str c.f, .bool c.b]
/-- a deed -/
structure Dd where
  nm : Str
  nd : Cd
  ways : List (List Ch)
def wayPy (w : List Ch) : D := .list (w.map Ch.py)
def Dd.py (d : Dd) : D := .tuple [.str d.nm, d.nd.py, .list (d.ways.map wayPy)]
def canN (fs : List Str) (ws : List Nat) (ds : List Dd) : List Str := (ds.filter fun d => ws.all fun w => d.nd.ev fs w).map (·.nm)
def spDo (n : Nat) : SpT := fun ds Ξ Φ => ∃ (fs : List Str) (dds : List Dd) (r : List D) (ws : List Nat), ds = [.tuple (.list (fs.map .str) :: .list (dds.map Dd.py) :: r), .tuple (ws.map natD)] ∧ Names fs ∧ fs.length ≤ 64 ∧ (∀ d ∈ dds, d.nd.over fs ∧ d.nd.dep < n) ∧ dds.length ≤ 1000 ∧ ws.length ≤ 4000 ∧
  crowdOk (2 ^ fs.length) (ws.map fun (w : Nat) => (w : Int)) = true ∧ Φ (.new ((canN fs ws dds).map .str))
def feDo (n : Nat) : FEntry := ⟨"doable_in", ["house", "crowd"], spDo n⟩
theorem v_do (n k : Nat) : ∀ ds Ξ Φ, spDo n ds Ξ Φ → wpS ⟨N_doable_in, [feRN, feHE n], [("DEEDS", .int 1)], [], [], k⟩ b_doable_in (rho0 N_doable_in ds) (postOf Ξ Φ) := by
  rintro ds Ξ Φ ⟨fs, dds, r, ws, rfl, hn, hl, hd, hl2, hw, hc, h⟩
  unfold b_doable_in N_doable_in
  walk_at "wp"
  refine ⟨fs, .list (dds.map Dd.py) :: r, false, ws.map fun (w : Nat) => (w : Int), ?_, hl, by rw [List.length_map]; exact hw, fun _ => ?_, fun e => by rw [hc] at e; cases e⟩
  · dsimp only [seqD]
    rw [List.map_map]
    rfl
  walk_at "wp"
  refine compW_on Dd.py (fun d => ws.all fun w => d.nd.ev fs w) (fun d => .str d.nm) dds (Nat.le_trans hl2 (by decide)) (fun d hm A B ha hb => ?_) ?_
  · dsimp only [Dd.py]
    walk_at "wp"
    exact ⟨fs, _, d.nd, false, ws, rfl, hn, (hd d hm).1, hl, (hd d hm).2, boolW_mk (fun e => ha e _ rfl) fun e => hb e⟩
  · unfold canN at h
    rw [List.map_map] at h
    exact h
end K10

open PySem L2 PG
namespace K10
open PySem.PyData (strOk)
/-! ### what the law draws -/
/-! a condition -/
def spC (n : Nat) : SpT := fun ds _ Φ => ∃ (cell base node deep : Int) (fs : List Str), ds = [.int cell, .int base, .int node, .list (fs.map .str), .int deep] ∧ 0 ≤ base ∧ base ≤ 10000 ∧ 0 ≤ node ∧
  0 ≤ deep ∧ deep < n ∧ (node + 1) * 2 ^ deep.toNat ≤ 10000 ∧ fs ≠ [] ∧ ∀ c : Cd, c.over fs → (c.dep : Int) ≤ deep → Φ (.val c.py)
def feC (n : Nat) : FEntry := ⟨"_law_condition", ["cell", "base", "node", "facts", "deep"], spC n⟩
theorem node_le {node : Int} {k : Nat} (h0 : 0 ≤ node) (h : (node + 1) * 2 ^ k ≤ 10000) : node ≤ 10000 := by
  have p : (1 : Int) ≤ 2 ^ k := by
    have := Nat.one_le_two_pow (n := k)
    exact_mod_cast this
  have q : (node + 1) * 1 ≤ (node + 1) * 2 ^ k := Int.mul_le_mul_of_nonneg_left p (by omega)
  omega
theorem node_two {node deep : Int} (h0 : 0 ≤ node) (hd : 0 < deep) (h : (node + 1) * 2 ^ deep.toNat ≤ 10000) : (2 * node + 1) * 2 ^ (deep - 1).toNat ≤ 10000 ∧ (2 * node + 1 + 1) * 2 ^ (deep - 1).toNat ≤ 10000 := by
  have e : deep.toNat = (deep - 1).toNat + 1 := by omega
  rw [e, Int.pow_succ] at h
  generalize (deep - 1).toNat = m at h ⊢
  have p : (1 : Int) ≤ 2 ^ m := by
    have := Nat.one_le_two_pow (n := m)
    exact_mod_cast this
  generalize (2 : Int) ^ m = z at p h ⊢
  have e1 : (node + 1) * (z * 2) = (2 * node + 1 + 1) * z := by
    rw [Int.mul_comm z 2, ← Int.mul_assoc]
    congr 1
    omega
  rw [e1] at h
  refine ⟨?_, h⟩
  have : (2 * node + 1) * z ≤ (2 * node + 1 + 1) * z := Int.mul_le_mul_of_nonneg_right (by omega) (by omega)
  omega
theorem v_c (n : Nat) (k : Nat) : ∀ ds Ξ Φ, spC (n + 1) ds Ξ Φ → wpS ⟨N_law_condition, [feStir, feC n], [], ["len"], [], k⟩ b_law_condition (rho0 N_law_condition ds) (postOf Ξ Φ) := by
  rintro ds Ξ Φ ⟨cell, base, node, deep, fs, rfl, hb0, hb1, hn0, hd0, hd1, hnd, hf, h⟩
  unfold b_law_condition N_law_condition
  have hn1 := node_le hn0 hnd
  walk_at "wp"
  refine ⟨cell, base + node, rfl, by omega, by omega, fun r h1 h2 => ?_⟩
  walk_at "wp"
  refine ⟨by decide, ?_⟩
  have m := mod_b r 10 (by decide)
  refine boolW_dec (fun hc => ?_) fun hc => ?_
  · exact h .yes True.intro (by simp only [Cd.dep]; omega)
  walk_at "wp"
  have fact : ∀ ρ : Prop, True := fun _ => True.intro
  have leaf : CDiv r 16 ∧ 0 < ((List.map PyData.str fs).length : Int) ∧ ∃ d, atI (List.map PyData.str fs) (r / 16 % ((List.map PyData.str fs).length : Int)) = some d ∧ Φ (.val (.tuple [.str "fact", d])) := by
    obtain ⟨x, hx, e⟩ := atI_mod hf (r / 16)
    have hl := List.length_pos_iff.mpr hf
    refine ⟨⟨by decide, by decide⟩, by rw [List.length_map]; omega, .str x, ?_, h (.fact x) hx (by simp only [Cd.dep]; omega)⟩
    rw [List.length_map, atI_map, e]
    rfl
  refine boolW_dec (fun hc1 => leaf) fun hc1 => ?_
  refine boolW_dec (fun hc2 => leaf) fun hc2 => ?_
  have nt := node_two hn0 (by omega) hnd
  refine ⟨.inl (by decide), cell, base, 2 * node, deep - 1, fs, rfl, hb0, hb1, by omega, by omega, by omega, nt.1, hf, fun c o hc3 => ?_⟩
  walk_at "wp"
  refine boolW_dec (fun hc4 => ?_) fun hc4 => ?_
  · exact h (.not_ c) o (by simp only [Cd.dep]; omega)
  refine ⟨by decide, ?_⟩
  obtain ⟨x, hx, e⟩ := atI_mod (xs := [PyData.str (Str.ofString "both"), PyData.str (Str.ofString "either")]) (by simp) (r % 10)
  refine ⟨x, e, .inl (by decide), cell, base, 2 * node + 1, deep - 1, fs, rfl, hb0, hb1, by omega, by omega, by omega, nt.2, hf, fun d o2 hd2 => ?_⟩
  walk_at "wp"
  rcases List.mem_cons.mp hx with rfl | hx
  · exact h (.both c d) ⟨o, o2⟩ (by simp only [Cd.dep]; omega)
  · rw [List.mem_singleton.mp hx]
    exact h (.either c d) ⟨o, o2⟩ (by simp only [Cd.dep]; omega)
/-! a condition grown -/
end K10

open PySem L2 PG
namespace K10
open PySem.PyData (strOk)
/-! unlike names -/
def someL : List Str := ["a", "yes", "not", "both", "abcdefgh", "either", "ye", "fact", "x", "no", "abcdefg", "yess", "deed", "look", "ab", "abc", "facts", "need", "way", "end"]
theorem someL_nd : someL.Nodup := by decide +kernel
theorem someL_ok : Names someL := by
  intro f hf
  have : someL.all strOk = true := by decide +kernel
  exact List.all_eq_true.mp this f hf
def lettersS : Str := "abcdefghijklmnopqrstuvwxyz"
theorem letters_len : lettersS.cps.toList.length = 26 := by decide +kernel
theorem letters_ok : ∀ c ∈ lettersS.cps, c < 0x110000 := strOk_iff.mp (strOk_lit _)
def spN : SpT := fun ds _ Φ => ∃ head base many : Int, ds = [.int head, .int base, .int many] ∧ 0 ≤ base ∧ base ≤ 10000 ∧ 0 ≤ many ∧ many ≤ 19 ∧
  ∀ fs : List Str, (fs.length : Int) = many → Names fs → fs.Nodup → Φ (.new (fs.map .str))
def feN : FEntry := ⟨"_law_names", ["head", "base", "many"], spN⟩
theorem notin_eq (fs : List Str) (x : Str) : (!((fs.map PyData.str).any fun z => PyData.eqv z (.str x))) = decide (x ∉ fs) := by
  rw [any_str]
  by_cases h : x ∈ fs <;> simp [h]
theorem lay_l {fs : List Str} (h : Names fs) : SeqAt.shaped (.list (fs.map .str)) = true := (lay_names h).shaped (by decide)
theorem left_ne {fs : List Str} (hl : fs.length < 20) : (someL.filter fun x => decide (x ∉ fs)) ≠ [] := by
  intro e
  have h : ∀ x ∈ someL, x ∈ fs := fun x hx => by
    by_cases q : x ∈ fs
    · exact q
    · have : x ∈ someL.filter fun x => decide (x ∉ fs) := List.mem_filter.mpr ⟨hx, decide_eq_true q⟩
      rw [e] at this
      cases this
  have := nodup_le someL_nd h
  have e20 : someL.length = 20 := rfl
  omega
def leftG (fs : List Str) : D → Option D
  | .str z => if z ∉ fs then some (.str z) else none
  | _ => none
theorem leftG_eq (fs l : List Str) : (l.map PyData.str).filterMap (leftG fs) = (l.filter fun z => decide (z ∉ fs)).map PyData.str := by
  induction l with
  | nil => rfl
  | cons z l ih =>
    rw [List.map_cons, List.filterMap_cons, List.filter_cons]
    by_cases q : z ∈ fs
    · simp only [leftG, q, not_true, if_false, decide_false, Bool.false_eq_true]
      exact ih
    · simp only [leftG, q, not_false_eq_true, if_true, decide_true, List.map_cons]
      rw [ih]
theorem v_n (k : Nat) : ∀ ds Ξ Φ, spN ds Ξ Φ → wpS ⟨N_law_names, [feStir], [], ["range", "len"], [], k⟩ b_law_names (rho0 N_law_names ds) (postOf Ξ Φ) := by
  rintro ds Ξ Φ ⟨head, base, many, rfl, hb0, hb1, hm0, hm1, h⟩
  unfold b_law_names N_law_names
  walk_at "wp"
  refine ⟨⟨by omega, by omega⟩, ?_⟩
  refine loopW_inv (fun xs ρ => ∃ (fs : List Str) (s6 s7 s8 s9 s10 s11 : Sl), ρ = [.val (.int head), .val (.int base), .val (.int many), .val (.list (someL.map .str)), .val (.str lettersS), .own (fs.map .str), s6, s7, s8, s9, s10, s11] ∧
    (fs.length : Int) + xs.length = many ∧ Names fs ∧ fs.Nodup ∧ ∀ x ∈ xs, ∃ i : Nat, i < 19 ∧ x = .int (0 + i)) ?_ ?_ _ _ ⟨[], _, _, _, _, _, _, rfl, ?_, fun _ h => (by cases h), List.nodup_nil, fun x hx => ?_⟩
  · rintro x xs ρ ⟨fs, s6, s7, s8, s9, s10, s11, rfl, hl, hn, hd, hx⟩ K hK
    obtain ⟨i, hi, rfl⟩ := hx x List.mem_cons_self
    rw [List.length_cons] at hl
    walk_at "wp"
    refine ⟨head, base + (0 + (i : Int)), rfl, by omega, by omega, fun r h1 h2 => ?_⟩
    walk_at "wp"
    -- left
    refine compW_fm (leftG fs) _ (by rw [List.length_map]; decide) (fun x hx A B ha hb => ?_) ?_
    · obtain ⟨z, hz, rfl⟩ := List.mem_map.mp hx
      walk_at "wp"
      refine ⟨shaped_str (someL_ok z hz), lay_l hn, ?_⟩
      rw [notin_eq]
      refine boolW_dec (fun q => ?_) fun q => ?_
      · exact ha _ (by simp only [leftG, if_pos q, R.d])
      · exact hb (by simp only [leftG, if_neg q])
    rw [leftG_eq]
    have hne := left_ne (fs := fs) (by omega)
    have hmem : ∀ z ∈ someL.filter (fun z => decide (z ∉ fs)), z ∈ someL ∧ z ∉ fs := fun z hz => ⟨(List.mem_filter.mp hz).1, of_decide_eq_true (List.mem_filter.mp hz).2⟩
    generalize (someL.filter fun z => decide (z ∉ fs)) = L at hne hmem ⊢
    obtain ⟨z, hz, ez⟩ := atI_mod hne r
    have hLl := List.length_pos_iff.mpr hne
    walk_at "wp"
    refine ⟨by rw [List.length_map]; omega, .str z, by rw [List.length_map, atI_map, ez]; rfl, ?_⟩
    have m8 := mod_b (r / 32) 8 (by decide)
    walk_at "wp"
    refine ⟨⟨by decide, by decide⟩, by decide, ⟨by omega, by omega⟩, ?_⟩
    refine compW_sel (fun _ y => ∃ s : Str, y = .str s ∧ (s.length = 1 ∧ strOk s = true)) (fun _ => False) _ _ (by rw [rng_len]; exact Nat.le_trans (show 0 + (1 + r / 32 % 8).toNat ≤ 8 by omega) (by decide)) (fun x hx A B ha _ => ?_) fun ys hy => ?_
    · obtain ⟨j, hj, rfl⟩ := mem_rng hx
      walk_at "wp"
      refine ⟨.inl (by decide), head, base + 40 + 8 * (0 + (i : Int)) + (0 + (j : Int)), rfl, by omega, by omega, fun r3 h3 h4 => ?_⟩
      have m26 := mod_b r3 26 (by decide)
      walk_at "wp"
      obtain ⟨c, hc, ec⟩ := atI_lt (xs := lettersS.cps.toList) m26.1 (by rw [letters_len]; exact m26.2)
      refine ⟨by decide, (by decide +kernel : lettersS.length ≤ sizeLine), c, ec, ha _ ⟨_, rfl, rfl, strOk_iff.mpr fun d hd' => ?_⟩⟩
      have hd' : d ∈ (#[c] : Array Nat) := hd'
      rw [Array.mem_singleton.mp hd']
      exact letters_ok c (by simpa using hc)
    rw [List.nil_append]
    obtain ⟨zs, rfl, e2, h3⟩ := strs_of (P := fun s => s.length = 1 ∧ strOk s = true) (ys := ys) fun y hy' => by
      obtain ⟨x, _, s, q⟩ := hy.mem y hy'
      exact ⟨s, q⟩
    have hlen : zs.length ≤ 8 := by
      have := hy.len
      rw [List.length_map, rng_len] at this
      omega
    have hsum : (zs.map (·.length)).sum ≤ 8 := by
      have : (zs.map (·.length)).sum = zs.length := by
        clear hy e2 hlen
        induction zs with
        | nil => rfl
        | cons z zs ih => rw [List.map_cons, List.sum_cons, ih fun z hz => h3 z (List.mem_cons_of_mem _ hz), (h3 z List.mem_cons_self).1, List.length_cons]; omega
      omega
    refine ⟨zs, e2, by show (zs.map (·.length)).sum + zs.length * (Str.ofString "").length ≤ 16777216; rw [show (Str.ofString "").length = 0 from rfl]; omega, ?_⟩
    have hw : strOk (Txt.join (Str.ofString "") zs) = true := strOk_iff.mpr (mem_join (P := fun c => c < 0x110000) (strOk_iff.mp (strOk_lit "")) fun p hp => strOk_iff.mp (h3 p hp).2)
    generalize Txt.join (Str.ofString "") zs = wd at hw ⊢
    have next : ∀ (y : Str) (a b c d e f : Sl), strOk y = true → y ∉ fs → K [.val (.int head), .val (.int base), .val (.int many), .val (.list (someL.map .str)), .val (.str lettersS), .own (fs.map .str ++ [.str y]), a, b, c, d, e, f] := fun y a b c d e f hy' hyn =>
      hK _ ⟨fs ++ [y], a, b, c, d, e, f, by rw [List.map_append]; rfl, by rw [List.length_append, List.length_singleton]; omega, fun g hg => by
        rcases List.mem_append.mp hg with hg | hg
        · exact hn g hg
        · rw [List.mem_singleton.mp hg]; exact hy', List.nodup_append.mpr ⟨hd, List.nodup_cons.mpr ⟨by simp, List.nodup_nil⟩, fun g hg q hq e => hyn (by rw [List.mem_singleton] at hq; subst hq; subst e; exact hg)⟩, fun x hx' => hx x (List.mem_cons_of_mem _ hx')⟩
    have hfl : (fs.map PyData.str).length < sizeLine := by rw [List.length_map]; exact Nat.lt_of_le_of_lt (show fs.length ≤ 19 by omega) (by decide)
    walk_at "wp"
    refine ⟨⟨by decide, by decide⟩, by decide, boolW_dec (fun _ => ⟨shaped_str hw, lay_l hn, ?_⟩) fun _ => ⟨hfl, next z _ _ _ _ _ _ (someL_ok z (hmem z hz).1) (hmem z hz).2⟩⟩
    rw [notin_eq]
    exact boolW_dec (fun q => ⟨hfl, next wd _ _ _ _ _ _ hw q⟩) fun _ => ⟨hfl, next z _ _ _ _ _ _ (someL_ok z (hmem z hz).1) (hmem z hz).2⟩
  · rintro ρ ⟨fs, s6, s7, s8, s9, s10, s11, rfl, hl, hn, hd, hx⟩
    walk_at "wp"
    exact h fs (by simpa using hl) hn hd
  · rw [rng_len]; simp; omega
  · obtain ⟨i, hi, rfl⟩ := mem_rng hx
    exact ⟨i, by omega, rfl⟩
end K10

open PySem L2 PG
namespace K10
open PySem L2 PG
open PySem.PyData (strOk)
/-! a way, a deed, the firsts -/
theorem getD_at {α : Type} {xs : List α} (h : xs ≠ []) (i : Int) {n : Int} (e : n = (xs.length : Int)) : ∃ x ∈ xs, atI xs (i % n) = some x := by subst e; exact atI_mod h i
def Ch.ok (fs : List Str) (c : Ch) : Prop := c.c.over fs ∧ c.c.dep ≤ 1 ∧ c.f ∈ fs
def spWay : SpT := fun ds _ Φ => ∃ (cell base : Int) (fs : List Str), ds = [.int cell, .int base, .list (fs.map .str)] ∧ 0 ≤ base ∧ base ≤ 5000 ∧ fs ≠ [] ∧ ∀ cs : List Ch, cs.length ≤ 4 → (∀ c ∈ cs, c.ok fs) → Φ (.new (cs.map Ch.py))
def feWay : FEntry := ⟨"_law_way", ["cell", "base", "facts"], spWay⟩
theorem v_way (n k : Nat) : ∀ ds Ξ Φ, spWay ds Ξ Φ → wpS ⟨N_law_way, [feStir, feC (n + 2)], [], ["range", "len"], [], k⟩ b_law_way (rho0 N_law_way ds) (postOf Ξ Φ) := by
  rintro ds Ξ Φ ⟨cell, base, fs, rfl, hb0, hb1, hf, h⟩
  unfold b_law_way N_law_way
  walk_at "wp"
  refine ⟨cell, base, rfl, by omega, by omega, fun r h1 h2 => ?_⟩
  have m5 := mod_b r 5 (by decide)
  walk_at "wp"
  refine ⟨by decide, ⟨by omega, by omega⟩, ?_⟩
  refine loopW_inv (fun xs ρ => ∃ (cs : List Ch) (s4 s5 s6 : Sl), ρ = [.val (.int cell), .val (.int base), .val (.list (fs.map .str)), .own (cs.map Ch.py), s4, s5, s6] ∧ cs.length + xs.length ≤ 4 ∧ (∀ c ∈ cs, c.ok fs) ∧ ∀ x ∈ xs, ∃ i : Nat, i < 5 ∧ x = .int (0 + i)) ?_ ?_ _ _ ⟨[], _, _, _, rfl, ?_, (fun _ h => by cases h), fun x hx => ?_⟩
  · rintro x xs ρ ⟨cs, s4, s5, s6, rfl, hl, ho, hx⟩ K hK
    obtain ⟨i, hi, rfl⟩ := hx x List.mem_cons_self
    rw [List.length_cons] at hl
    walk_at "wp"
    refine ⟨cell, base + 1 + (0 + (i : Int)), rfl, by omega, by omega, fun r2 h3 h4 => ?_⟩
    walk_at "wp"
    have put : ∀ (c : Cd) (s6 : Sl), c.over fs → c.dep ≤ 1 → ∃ d, atI (fs.map PyData.str) (r2 / 4 % ((fs.map PyData.str).length : Int)) = some d ∧ ∀ b : Bool, (cs.map Ch.py).length < sizeLine ∧ K [.val (.int cell), .val (.int base), .val (.list (fs.map .str)), .own (cs.map Ch.py ++ [.tuple [c.py, d, .bool b]]), .val (.int (0 + (i : Int))), .val (.int r2), s6] := fun c s6 h5 h6 => by
      obtain ⟨f, hf1, hf2⟩ := getD_at hf (r2 / 4) (n := ((fs.map PyData.str).length : Int)) (by rw [List.length_map])
      refine ⟨.str f, by rw [atI_map, hf2]; rfl, fun b => ⟨by rw [List.length_map]; exact Nat.lt_of_le_of_lt (show cs.length ≤ 4 by omega) (by decide), hK _ ⟨cs ++ [⟨c, f, b⟩], _, _, _, by rw [List.map_append]; rfl, by rw [List.length_append, List.length_singleton]; omega, fun z hz => ?_, fun z hz => hx z (List.mem_cons_of_mem _ hz)⟩⟩⟩
      rcases List.mem_append.mp hz with hz | hz
      · exact ho z hz
      · rw [List.mem_singleton.mp hz]
        exact ⟨h5, h6, hf1⟩
    have hfl : 0 < ((fs.map PyData.str).length : Int) := by rw [List.length_map]; have := List.length_pos_iff.mpr hf; omega
    refine ⟨by decide, boolW_dec (fun e => ?_) fun e => ?_⟩
    · refine ⟨.inl (by decide), cell, base + 10 * (0 + (i : Int)) + 10, 1, 1, fs, rfl, by omega, by omega, by omega, by omega, by omega, by decide, hf, fun c hc1 hc2 => ?_⟩
      obtain ⟨d, e1, e2⟩ := put c (.val c.py) hc1 (by omega)
      walk_at "wp"
      exact ⟨⟨by decide, by decide⟩, hfl, d, e1, ⟨by decide, by decide⟩, by decide, e2 _⟩
    · obtain ⟨d, e1, e2⟩ := put .yes (.val Cd.yes.py) trivial (Nat.zero_le _)
      walk_at "wp"
      exact ⟨⟨by decide, by decide⟩, hfl, d, e1, ⟨by decide, by decide⟩, by decide, e2 _⟩
  · rintro ρ ⟨cs, s4, s5, s6, rfl, hl, ho, hx⟩
    walk_at "wp"
    exact h cs (by simpa using hl) ho
  · rw [rng_len]; simp; omega
  · obtain ⟨i, hi, rfl⟩ := mem_rng hx
    exact ⟨i, by omega, rfl⟩
def Dd.ok (fs : List Str) (d : Dd) : Prop := d.nd.over fs ∧ d.nd.dep ≤ 2 ∧ 1 ≤ d.ways.length ∧ d.ways.length ≤ 4 ∧ ∀ w ∈ d.ways, w.length ≤ 4 ∧ ∀ c ∈ w, c.ok fs
def spDeed : SpT := fun ds _ Φ => ∃ (cell : Int) (nm : Str) (fs : List Str), ds = [.int cell, .str nm, .list (fs.map .str)] ∧ fs ≠ [] ∧ ∀ d : Dd, d.nm = nm → d.ok fs → Φ (.val d.py)
def feDeed : FEntry := ⟨"_law_deed", ["cell", "name", "facts"], spDeed⟩
theorem v_deed (n k : Nat) : ∀ ds Ξ Φ, spDeed ds Ξ Φ → wpS ⟨N_law_deed, [feStir, feC (n + 3), feWay], [], ["range"], [], k⟩ b_law_deed (rho0 N_law_deed ds) (postOf Ξ Φ) := by
  rintro ds Ξ Φ ⟨cell, nm, fs, rfl, hf, h⟩
  unfold b_law_deed N_law_deed
  walk_at "wp"
  refine ⟨cell, 0, rfl, by omega, by omega, fun r h1 h2 => ?_⟩
  walk_at "wp"
  have tail : ∀ (c : Cd), c.over fs → c.dep ≤ 2 → ∃ d, atI [PyData.int 1, PyData.int 1, PyData.int 2, PyData.int (1 + r / 64 % 4)] (r / 16 % 4) = some d ∧ ∃ m : Int, d = .int m ∧ 1 ≤ m ∧ m ≤ 4 := fun c _ _ => by
    obtain ⟨x, hx, e⟩ := atI_mod (xs := [PyData.int 1, PyData.int 1, PyData.int 2, PyData.int (1 + r / 64 % 4)]) (by simp) (r / 16)
    refine ⟨x, e, ?_⟩
    have m4 := mod_b (r / 64) 4 (by decide)
    simp only [List.mem_cons, List.not_mem_nil, or_false] at hx
    rcases hx with rfl | rfl | rfl | rfl
    · exact ⟨_, rfl, by omega, by omega⟩
    · exact ⟨_, rfl, by omega, by omega⟩
    · exact ⟨_, rfl, by omega, by omega⟩
    · exact ⟨_, rfl, by omega, by omega⟩
  have all : ∀ (c : Cd) (ρ4 : Sl) (m : Int), c.over fs → c.dep ≤ 2 → 1 ≤ m → m ≤ 4 → True := fun _ _ _ _ _ _ _ => trivial
  have m3 := mod_b (r / 4) 3 (by decide)
  refine ⟨by decide, boolW_dec (fun e => ?_) fun e => ?_⟩
  · refine ⟨⟨by decide, by decide⟩, by decide, cell, 100, 1, r / 4 % 3, fs, rfl, by omega, by omega, by omega, by omega, by omega, ?_, hf, fun c hc1 hc2 => ?_⟩
    · have : (r / 4 % 3).toNat ≤ 2 := by omega
      have p : (2 : Int) ^ (r / 4 % 3).toNat ≤ 4 := by
        have := Nat.pow_le_pow_right (n := 2) (by decide) this
        exact_mod_cast this
      omega
    walk_at "wp"
    obtain ⟨d, e1, m, rfl, hm1, hm2⟩ := tail c hc1 (by omega)
    refine ⟨⟨by decide, by decide⟩, by decide, ⟨by decide, by decide⟩, by decide, _, e1, ⟨by omega, by omega⟩, ?_⟩
    walk_at "wp"
    refine compW_rel (fun (i : Nat) => PyData.int (0 + (i : Int))) (fun i y => ∃ cs : List Ch, y = wayPy cs ∧ (cs.length ≤ 4 ∧ ∀ c ∈ cs, c.ok fs)) (List.range m.toNat) (by rw [List.length_range]; exact Nat.le_trans (show m.toNat ≤ 4 by omega) (by decide)) (fun i hi A B ha => ?_) fun ys hy => ?_
    · have hi := List.mem_range.mp hi
      walk_at "wp"
      exact ⟨.inl (by decide), cell, 200 + 60 * (0 + (i : Int)), fs, rfl, by omega, by omega, hf, fun cs q1 q2 => ha _ ⟨cs, rfl, q1, q2⟩⟩
    obtain ⟨ways, rfl, q1, q2⟩ := hy.choose fun x y q => q
    rw [List.length_range] at q1
    walk_at "wp"
    exact h ⟨nm, c, ways⟩ rfl ⟨hc1, by show c.dep ≤ 2; omega, by show 1 ≤ ways.length; omega, by show ways.length ≤ 4; omega, q2⟩
  · obtain ⟨d, e1, m, rfl, hm1, hm2⟩ := tail .yes trivial (Nat.zero_le _)
    refine ⟨⟨by decide, by decide⟩, by decide, ⟨by decide, by decide⟩, by decide, _, e1, ⟨by omega, by omega⟩, ?_⟩
    walk_at "wp"
    refine compW_rel (fun (i : Nat) => PyData.int (0 + (i : Int))) (fun i y => ∃ cs : List Ch, y = wayPy cs ∧ (cs.length ≤ 4 ∧ ∀ c ∈ cs, c.ok fs)) (List.range m.toNat) (by rw [List.length_range]; exact Nat.le_trans (show m.toNat ≤ 4 by omega) (by decide)) (fun i hi A B ha => ?_) fun ys hy => ?_
    · have hi := List.mem_range.mp hi
      walk_at "wp"
      exact ⟨.inl (by decide), cell, 200 + 60 * (0 + (i : Int)), fs, rfl, by omega, by omega, hf, fun cs q1 q2 => ha _ ⟨cs, rfl, q1, q2⟩⟩
    obtain ⟨ways, rfl, q1, q2⟩ := hy.choose fun x y q => q
    rw [List.length_range] at q1
    walk_at "wp"
    exact h ⟨nm, .yes, ways⟩ rfl ⟨trivial, Nat.zero_le _, by show 1 ≤ ways.length; omega, by show ways.length ≤ 4; omega, q2⟩
/-! crowds -/
def spFirsts : SpT := fun ds _ Φ => ∃ (head : Int) (fs : List Str) (most : Int), ds = [.int head, .list (fs.map .str), .int most] ∧ fs.length ≤ 64 ∧ 1 ≤ most ∧ most ≤ 64 ∧ ∀ ws : List Nat, Crowd (2 ^ fs.length) ws → ws.length ≤ 64 → Φ (.new (ws.map natD))
def feFirsts : FEntry := ⟨"_law_firsts", ["head", "facts", "most"], spFirsts⟩
theorem shl_len (fs : List Str) : (1 : Int) * 2 ^ (((fs.map PyData.str).length : Nat) : Int).toNat = ((2 ^ fs.length : Nat) : Int) := by rw [List.length_map]; simp
theorem mod_nat {r : Int} (h : 0 ≤ r) {M : Nat} (hM : 0 < M) : ∃ w : Nat, w < M ∧ r % (M : Int) = (w : Nat) := by
  have m := mod_b r M (by omega)
  exact ⟨(r % (M : Int)).toNat, by omega, by omega⟩
theorem v_firsts (k : Nat) : ∀ ds Ξ Φ, spFirsts ds Ξ Φ → wpS ⟨N_law_firsts, [feStir], [], ["range", "len", "sorted"], [], k⟩ b_law_firsts (rho0 N_law_firsts ds) (postOf Ξ Φ) := by
  rintro ds Ξ Φ ⟨head, fs, most, rfl, hl, hm1, hm2, h⟩
  unfold b_law_firsts N_law_firsts
  walk_at "wp"
  refine ⟨head, 20, rfl, by omega, by omega, fun r h1 h2 => ?_⟩
  have mm := mod_b r most (by omega)
  have p0 : 0 < 2 ^ fs.length := Nat.two_pow_pos _
  walk_at "wp"
  refine ⟨by omega, ⟨by omega, by omega⟩, ?_⟩
  refine loopW_inv (fun xs ρ => ∃ (vs : List Nat) (s4 s5 : Sl), ρ = [.val (.int head), .val (.list (fs.map .str)), .val (.int most), .own (vs.map natD), s4, s5] ∧ vs.length + xs.length ≤ 64 ∧ vs.Nodup ∧ (∀ v ∈ vs, v < 2 ^ fs.length) ∧ (vs = [] → xs ≠ []) ∧ ∀ x ∈ xs, ∃ i : Nat, i < 64 ∧ x = .int (0 + i)) ?_ ?_ _ _ ⟨[], _, _, rfl, ?_, List.nodup_nil, (fun _ h => by cases h), fun _ => ?_, fun x hx => ?_⟩
  · rintro x xs ρ ⟨vs, s4, s5, rfl, hl2, hn, hlt, hne, hx⟩ K hK
    obtain ⟨i, hi, rfl⟩ := hx x List.mem_cons_self
    rw [List.length_cons] at hl2
    walk_at "wp"
    refine ⟨head, 21 + (0 + (i : Int)), rfl, by omega, by omega, fun r2 h3 h4 => ?_⟩
    walk_at "wp"
    rw [shl_len]
    obtain ⟨w, hw, ew⟩ := mod_nat h3 p0
    rw [ew]
    refine ⟨⟨by omega, by rw [List.length_map]; omega, by decide⟩, by omega, (lay_nats vs).shaped (by decide), ?_⟩
    rw [any_natD]
    have hx' : ∀ x ∈ xs, ∃ i : Nat, i < 64 ∧ x = .int (0 + i) := fun z hz => hx z (List.mem_cons_of_mem _ hz)
    refine boolW_mk (fun e => ?_) fun e => ?_
    · have e : w ∉ vs := by simpa using e
      refine ⟨by rw [List.length_map]; exact Nat.lt_of_le_of_lt (show vs.length ≤ 64 by omega) (by decide), hK _ ⟨vs ++ [w], _, _, by rw [List.map_append]; rfl, by rw [List.length_append, List.length_singleton]; omega, List.nodup_append.mpr ⟨hn, List.nodup_cons.mpr ⟨by simp, List.nodup_nil⟩, fun a ha b hb q => e (by rw [List.mem_singleton.mp hb] at q; exact q ▸ ha)⟩, fun v hv => ?_, fun q => by simp at q, hx'⟩⟩
      rcases List.mem_append.mp hv with hv | hv
      · exact hlt v hv
      · rw [List.mem_singleton.mp hv]; exact hw
    · have e : w ∈ vs := by simpa using e
      exact hK _ ⟨vs, _, _, rfl, by omega, hn, hlt, (fun q => by rw [q] at e; cases e), hx'⟩
  · rintro ρ ⟨vs, s4, s5, rfl, hl2, hn, hlt, hne, hx⟩
    walk_at "wp"
    refine srt_nats hn fun ws hp hu => h ws ⟨fun q => ?_, fun w hw => hlt w (hp.mem_iff.mp hw), hu⟩ ?_
    · subst q
      exact hne hp.symm.eq_nil rfl
    · rw [hp.length_eq]
      simpa using hl2
  · rw [rng_len]; simp; omega
  · intro q
    have := congrArg List.length q
    rw [rng_len] at this
    simp at this
    omega
  · obtain ⟨i, hi, rfl⟩ := mem_rng hx
    exact ⟨i, by omega, rfl⟩
def spCrowd : SpT := fun ds _ Φ => ∃ (cell base : Int) (fs : List Str) (most : Int), ds = [.int cell, .int base, .list (fs.map .str), .int most] ∧ 0 ≤ base ∧ base ≤ 5000 ∧ fs.length ≤ 64 ∧ 1 ≤ most ∧ most ≤ 64 ∧ ∀ ws : List Nat, Crowd (2 ^ fs.length) ws → ws.length ≤ 64 → Φ (.val (.tuple (ws.map natD)))
def feCrowd : FEntry := ⟨"_law_crowd", ["cell", "base", "facts", "most"], spCrowd⟩
theorem v_crowd (k : Nat) : ∀ ds Ξ Φ, spCrowd ds Ξ Φ → wpS ⟨N_law_crowd, [feStir], [], ["len", "tuple", "range", "sorted", "set"], [], k⟩ b_law_crowd (rho0 N_law_crowd ds) (postOf Ξ Φ) := by
  rintro ds Ξ Φ ⟨cell, base, fs, most, rfl, hb0, hb1, hl, hm1, hm2, h⟩
  unfold b_law_crowd N_law_crowd
  have p0 : 0 < 2 ^ fs.length := Nat.two_pow_pos _
  walk_at "wp"
  rw [shl_len]
  generalize hM : 2 ^ fs.length = M at *
  refine ⟨⟨by omega, by rw [List.length_map]; omega, by decide⟩, ?_⟩
  walk_at "wp"
  refine ⟨cell, base, rfl, by omega, by omega, fun r h1 h2 => ?_⟩
  walk_at "wp"
  refine ⟨by decide, (fun rest => boolW_dec (fun e1 => boolW_dec (fun e2 => ?_) fun _ => rest) fun _ => rest) ?_⟩
  · refine ⟨⟨by omega, by omega⟩, ?_⟩
    rw [Int.toNat_natCast]
    rw [rng_nat]
    refine h (List.range M) ⟨?_, fun w hw => List.mem_range.mp hw, List.pairwise_lt_range⟩ (by rw [List.length_range]; omega)
    intro q
    have := congrArg List.length q
    rw [List.length_range] at this
    simp at this
    omega
  walk_at "wp"
  refine ⟨cell, base + 1, rfl, by omega, by omega, fun r2 h3 h4 => ?_⟩
  have mm := mod_b r2 most (by omega)
  walk_at "wp"
  refine ⟨by omega, ⟨by omega, by omega⟩, ?_⟩
  refine loopW_inv (fun xs ρ => ∃ (vs : List Nat) (s6 : Sl), ρ = [.val (.int cell), .val (.int base), .val (.list (fs.map .str)), .val (.int most), .val (.int (M : Int)), .own (vs.map natD), s6] ∧ vs.length + xs.length ≤ 64 ∧ (∀ v ∈ vs, v < M) ∧ (vs = [] → xs ≠ []) ∧ ∀ x ∈ xs, ∃ i : Nat, i < 64 ∧ x = .int (0 + i)) ?_ ?_ _ _ ⟨[], _, rfl, ?_, (fun _ h => by cases h), fun _ => ?_, fun x hx => ?_⟩
  · rintro x xs ρ ⟨vs, s6, rfl, hl2, hlt, hne, hx⟩ K hK
    obtain ⟨i, hi, rfl⟩ := hx x List.mem_cons_self
    rw [List.length_cons] at hl2
    walk_at "wp"
    refine ⟨cell, base + 2 + (0 + (i : Int)), rfl, by omega, by omega, fun r3 h5 h6 => ?_⟩
    walk_at "wp"
    obtain ⟨w, hw, ew⟩ := mod_nat h5 p0
    rw [ew]
    refine ⟨by omega, by rw [List.length_map]; exact Nat.lt_of_le_of_lt (show vs.length ≤ 64 by omega) (by decide), hK _ ⟨vs ++ [w], _, by rw [List.map_append]; rfl, by rw [List.length_append, List.length_singleton]; omega, fun v hv => ?_, fun q => by simp at q, fun z hz => hx z (List.mem_cons_of_mem _ hz)⟩⟩
    rcases List.mem_append.mp hv with hv | hv
    · exact hlt v hv
    · rw [List.mem_singleton.mp hv]; exact hw
  · rintro ρ ⟨vs, s6, rfl, hl2, hlt, hne, hx⟩
    walk_at "wp"
    have hl2 : vs.length ≤ 64 := by simpa using hl2
    refine sset_nats rfl (Nat.le_trans hl2 (by decide)) fun ws hm hu => h ws ⟨fun q => ?_, fun w hw => hlt w ((hm w).mp hw), hu⟩ ?_
    · subst q
      cases vs with
      | nil => exact hne rfl rfl
      | cons v vs => have := (hm v).mpr List.mem_cons_self; cases this
    · exact Nat.le_trans (nodup_le (hu.imp fun h => by omega) fun w hw => (hm w).mp hw) hl2
  · rw [rng_len]; simp; omega
  · intro q
    have := congrArg List.length q
    rw [rng_len] at this
    simp at this
    omega
  · obtain ⟨i, hi, rfl⟩ := mem_rng hx
    exact ⟨i, by omega, rfl⟩
end K10

open PySem L2 PG
namespace K10
open PySem L2 PG
open PySem.PyData (strOk)
theorem pow12 {n : Nat} (h : n ≤ 12) : 2 ^ n ≤ 4096 := Nat.pow_le_pow_right (n := 2) (by decide) h
/-! the law's own look -/
def spLH (n : Nat) : SpT := fun ds _ Φ => ∃ (fs : List Str) (c : Cd) (w : Nat), ds = [.list (fs.map .str), c.py, .int w] ∧ Names fs ∧ c.over fs ∧ fs.length ≤ 12 ∧ c.dep < n ∧ Φ (.val (.bool (c.ev fs w)))
def feLH (n : Nat) : FEntry := ⟨"_law_holds", ["facts", "condition", "world"], spLH n⟩
theorem v_lh (n : Nat) (k : Nat) : ∀ ds Ξ Φ, spLH (n + 1) ds Ξ Φ → wpS ⟨N_law_holds, [feLH n], [], ["int"], [], k⟩ b_law_holds (rho0 N_law_holds ds) (postOf Ξ Φ) := by
  rintro ds Ξ Φ ⟨fs, c, w, rfl, hn, ho, hl, hd, h⟩
  unfold b_law_holds N_law_holds
  cases c with
  | yes =>
    dsimp only [Cd.py]
    walk_at "wp"
    exact h
  | fact f =>
    dsimp only [Cd.py]
    walk_at "wp"
    have hi := List.idxOf_lt_length_of_mem ho
    refine mix_strs hn ho ⟨⟨by omega, by omega, by decide⟩, ?_⟩
    have e : (1 : Int) * 2 ^ ((fs.idxOf f : Nat) : Int).toNat = ((2 ^ fs.idxOf f : Nat) : Int) := by simp
    have p := pow12 (show fs.idxOf f ≤ 12 by omega)
    have p0 : 0 < 2 ^ fs.idxOf f := Nat.two_pow_pos _
    walk_at "wp"
    rw [e]
    refine ⟨⟨by omega, by omega⟩, by decide, ?_⟩
    have q : decide ((w : Int) / ((2 ^ fs.idxOf f : Nat) : Int) % 2 = 1) = w.testBit (fs.idxOf f) := by
      rw [Nat.testBit_eq_decide_div_mod_eq]
      exact decide_eq_decide.mpr (by omega)
    rw [q]
    exact h
  | not_ c =>
    dsimp only [Cd.py]
    walk_at "wp"
    exact ⟨fs, c, w, rfl, hn, ho, hl, by simp only [Cd.dep] at hd; omega, h⟩
  | both c d =>
    dsimp only [Cd.py]
    walk_at "wp"
    simp only [Cd.dep] at hd
    refine ⟨by decide, ?_⟩
    have ec : cutD [PyData.str (Str.ofString "both"), c.py, d.py] (some 1) none = [c.py, d.py] := rfl
    rw [ec]
    dsimp only [compW]
    walk_at "wp"
    refine ⟨fs, c, w, rfl, hn, ho.1, hl, by omega, ?_⟩
    walk_at "wp"
    refine ⟨fs, d, w, rfl, hn, ho.2, hl, by omega, ?_⟩
    walk_at "wp"
    have hc : Cd.ev fs w (.both c d) = (c.ev fs w && d.ev fs w) := rfl
    rw [hc] at h
    generalize c.ev fs w = p at h ⊢
    generalize d.ev fs w = q at h ⊢
    cases p <;> cases q <;> exact h
  | either c d =>
    dsimp only [Cd.py]
    walk_at "wp"
    simp only [Cd.dep] at hd
    refine ⟨by decide, ?_⟩
    have ec : cutD [PyData.str (Str.ofString "either"), c.py, d.py] (some 1) none = [c.py, d.py] := rfl
    rw [ec]
    dsimp only [compW]
    walk_at "wp"
    refine ⟨fs, c, w, rfl, hn, ho.1, hl, by omega, ?_⟩
    walk_at "wp"
    refine ⟨fs, d, w, rfl, hn, ho.2, hl, by omega, ?_⟩
    walk_at "wp"
    have hc : Cd.ev fs w (.either c d) = (c.ev fs w || d.ev fs w) := rfl
    rw [hc] at h
    generalize c.ev fs w = p at h ⊢
    generalize d.ev fs w = q at h ⊢
    cases p <;> cases q <;> exact h
/-! the house -/
structure Lk where
  nm : Str
  nd : Cd
  seen : Cd
def Lk.py (l : Lk) : D := .tuple [.str l.nm, l.nd.py, l.seen.py]
def Lk.ok (fs : List Str) (l : Lk) : Prop := l.nd.over fs ∧ l.nd.dep ≤ 1 ∧ l.seen.over fs ∧ l.seen.dep ≤ 2
structure Hs where
  fs : List Str
  dds : List Dd
  lks : List Lk
  firsts : List Nat
  wish : Cd
def Hs.py (h : Hs) : D := .tuple [.list (h.fs.map .str), .list (h.dds.map Dd.py), .list (h.lks.map Lk.py), .list (h.firsts.map natD), h.wish.py]
structure Hs.Ok (m : Nat) (h : Hs) : Prop where
  f0 : h.fs ≠ []
  fm : h.fs.length ≤ m
  fn : Names h.fs
  fd : h.fs.Nodup
  d12 : h.dds.length ≤ 12
  dok : ∀ d ∈ h.dds, d.ok h.fs
  l6 : h.lks.length ≤ 6
  lok : ∀ l ∈ h.lks, l.ok h.fs
  nn : Names (h.dds.map (·.nm) ++ h.lks.map (·.nm))
  nd : (h.dds.map (·.nm) ++ h.lks.map (·.nm)).Nodup
  fi : Crowd (2 ^ h.fs.length) h.firsts
  f64 : h.firsts.length ≤ 64
  wo : h.wish.over h.fs
  wd : h.wish.dep ≤ 3
def spHouse : SpT := fun ds _ Φ => ∃ (ns : List Int) (m : Nat), ds = [.list (ns.map .int), .int m] ∧ 1 ≤ m ∧ m ≤ 10 ∧ ∀ h : Hs, h.Ok m → Φ (.val h.py)
def feHouse : FEntry := ⟨"_law_house", ["script", "most_facts"], spHouse⟩
theorem cut_map (ns : List Int) (lo hi : Nat) : ∃ ms : List Int, cutD (ns.map .int) (some (lo : Int)) (some (hi : Int)) = ms.map .int ∧ ms.length ≤ hi - lo := by
  unfold cutD
  rw [HT.sIx_nat, HT.sIx_nat, List.length_map, ← List.map_drop, ← List.map_take]
  refine ⟨_, rfl, ?_⟩
  rw [List.length_take, List.length_drop]
  omega
def φHouse (n : Nat) : List FEntry := [feCell, feN, feStir, feDeed, feC (n + 4), feFirsts]
theorem take_snoc {α : Type} {xs : List α} {n : Nat} {x : α} (h : xs[n]? = some x) : xs.take (n + 1) = xs.take n ++ [x] := by
  rw [List.take_add_one, h]
  rfl
theorem v_house (n k : Nat) : ∀ ds Ξ Φ, spHouse ds Ξ Φ → wpS ⟨N_law_house, φHouse n, [], ["len"], [], k⟩ b_law_house (rho0 N_law_house ds) (postOf Ξ Φ) := by
  rintro ds Ξ Φ ⟨ns, m, rfl, hm1, hm2, h⟩
  unfold b_law_house N_law_house φHouse
  walk_at "wp"
  refine ⟨ns, 0, rfl, by omega, fun head => ?_⟩
  walk_at "wp"
  refine ⟨head, 0, rfl, by omega, by omega, fun r h1 h2 => ?_⟩
  walk_at "wp"
  have mm := mod_b r m (by omega)
  refine ⟨by omega, head, 300, 1 + r % (m : Int), rfl, by omega, by omega, by omega, by omega, fun fs hl hn hd => ?_⟩
  have hne : fs ≠ [] := fun e => by rw [e] at hl; simp at hl; omega
  have hfl : fs.length ≤ m := by omega
  walk_at "wp"
  refine ⟨head, 700, 18, rfl, by omega, by omega, by omega, by omega, fun cs hcl hcn hcd => ?_⟩
  have hcl : cs.length = 18 := by omega
  walk_at "wp"
  obtain ⟨ms, e1, e2⟩ := cut_map ns 1 13
  have e1' : cutD (ns.map .int) (some 1) (some 13) = ms.map .int := e1
  rw [e1']
  refine loopW_on PyData.int (fun xs ρ => ∃ (dds : List Dd) (s6 s7 s8 s9 : Sl), ρ = [.val (.list (ns.map .int)), .val (.int (m : Nat)), .val (.int head), .val (.list (fs.map .str)), .val (.list (cs.map .str)), .own (dds.map Dd.py), s6, s7, s8, s9] ∧ dds.length + xs.length ≤ 12 ∧ dds.map (·.nm) = cs.take dds.length ∧ ∀ d ∈ dds, d.ok fs) ?_ ?_ _ _ ⟨[], _, _, _, _, rfl, by simpa using e2, rfl, fun _ h => by cases h⟩
  · rintro x xs ρ ⟨dds, s6, s7, s8, s9, rfl, hdl, hdn, hdo⟩ K hK
    rw [List.length_cons] at hdl
    have hlt : dds.length < cs.length := by omega
    walk_at "wp"
    refine ⟨.str cs[dds.length], ?_, x, cs[dds.length], fs, rfl, hne, fun d e3 e4 => ⟨by rw [List.length_map]; exact Nat.lt_of_le_of_lt (show dds.length ≤ 12 by omega) (by decide), hK _ ⟨dds ++ [d], _, _, _, _, by rw [List.map_append]; rfl, by rw [List.length_append, List.length_singleton]; omega, ?_, fun z hz => ?_⟩⟩⟩
    · rw [List.length_map]
      exact atI_nat (by rw [List.getElem?_map, List.getElem?_eq_getElem hlt]; rfl)
    · rw [List.map_append, hdn, List.length_append, List.length_singleton, take_snoc (List.getElem?_eq_getElem hlt)]
      show _ ++ [d.nm] = _
      rw [e3]
    · rcases List.mem_append.mp hz with hz | hz
      · exact hdo z hz
      · rw [List.mem_singleton.mp hz]; exact e4
  rintro ρ ⟨dds, s6, s7, s8, s9, rfl, hdl, hdn, hdo⟩
  walk_at "wp"
  refine ⟨head, 1, rfl, by omega, by omega, fun r2 h3 h4 => ?_⟩
  walk_at "wp"
  have m7 := mod_b r2 7 (by decide)
  refine ⟨by decide, ?_⟩
  obtain ⟨j, hj⟩ : ∃ j : Nat, 13 + r2 % 7 = ((13 + j : Nat) : Int) ∧ j ≤ 6 := ⟨(r2 % 7).toNat, by omega, by omega⟩
  rw [hj.1]
  obtain ⟨ls, g1, g2⟩ := cut_map ns 13 (13 + j)
  have g1' : cutD (ns.map .int) (some 13) (some ((13 + j : Nat) : Int)) = ls.map .int := g1
  rw [g1']
  refine loopW_on PyData.int (fun xs ρ => ∃ (lks : List Lk) (s6 s8 s9 : Sl), ρ = [.val (.list (ns.map .int)), .val (.int (m : Nat)), .val (.int head), .val (.list (fs.map .str)), .val (.list (cs.map .str)), .own (dds.map Dd.py), s6, .own (lks.map Lk.py), s8, s9] ∧ lks.length + xs.length ≤ 6 ∧ lks.map (·.nm) = (cs.drop 12).take lks.length ∧ ∀ l ∈ lks, l.ok fs) ?_ ?_ _ _ ⟨[], _, _, _, rfl, ?_, rfl, fun _ h => by cases h⟩
  · rintro x xs ρ ⟨lks, s6, s8, s9, rfl, hll, hln, hlo⟩ K hK
    rw [List.length_cons] at hll
    have hlt : 12 + lks.length < cs.length := by omega
    walk_at "wp"
    refine ⟨x, 500, 1, 1, fs, rfl, by omega, by omega, by omega, by omega, by omega, by decide, hne, fun c1 hc1 hc2 => ?_⟩
    walk_at "wp"
    refine ⟨.str cs[12 + lks.length], ?_, x, 530, 1, 2, fs, rfl, by omega, by omega, by omega, by omega, by omega, by decide, hne, fun c3 hc3 hc4 => ⟨by rw [List.length_map]; exact Nat.lt_of_le_of_lt (show lks.length ≤ 6 by omega) (by decide), hK _ ⟨lks ++ [⟨cs[12 + lks.length], c1, c3⟩], _, _, _, by rw [List.map_append]; rfl, by rw [List.length_append, List.length_singleton]; omega, ?_, fun z hz => ?_⟩⟩⟩
    · rw [List.length_map, show ((12 : Int) + (lks.length : Int)) = ((12 + lks.length : Nat) : Int) by omega]
      exact atI_nat (by rw [List.getElem?_map, List.getElem?_eq_getElem hlt]; rfl)
    · rw [List.map_append, hln, List.length_append, List.length_singleton, take_snoc (x := cs[12 + lks.length]) (by rw [List.getElem?_drop]; exact List.getElem?_eq_getElem hlt)]
      rfl
    · rcases List.mem_append.mp hz with hz | hz
      · exact hlo z hz
      · rw [List.mem_singleton.mp hz]
        exact ⟨hc1, by show c1.dep ≤ 1; omega, hc3, by show c3.dep ≤ 2; omega⟩
  · rintro ρ ⟨lks, s6, s8, s9, rfl, hll, hln, hlo⟩
    walk_at "wp"
    refine ⟨head, 2, rfl, by omega, by omega, fun r3 h5 h6 => ?_⟩
    walk_at "wp"
    obtain ⟨x, hx, ex⟩ := atI_mod (xs := [PyData.int 2, PyData.int 8, PyData.int 64]) (by simp) r3
    have hx : ∃ z : Int, x = .int z ∧ 1 ≤ z ∧ z ≤ 64 := by
      simp only [List.mem_cons, List.not_mem_nil, or_false] at hx
      rcases hx with rfl | rfl | rfl
      · exact ⟨_, rfl, by omega, by omega⟩
      · exact ⟨_, rfl, by omega, by omega⟩
      · exact ⟨_, rfl, by omega, by omega⟩
    obtain ⟨z, rfl, hz1, hz2⟩ := hx
    refine ⟨by decide, _, ex, head, fs, z, rfl, by omega, hz1, hz2, fun ws hw hw2 => ?_⟩
    walk_at "wp"
    refine ⟨head, 100, 1, 3, fs, rfl, by omega, by omega, by omega, by omega, by omega, by decide, hne, fun c hc1 hc2 => ?_⟩
    walk_at "wp"
    refine h ⟨fs, dds, lks, ws, c⟩ ⟨hne, hfl, hn, hd, by simp at hdl; exact hdl, hdo, by simp at hll; exact hll, hlo, ?_, ?_, hw, hw2, hc1, by show c.dep ≤ 3; omega⟩
    · show Names (dds.map (·.nm) ++ lks.map (·.nm))
      rw [hdn, hln]
      intro y hy
      rcases List.mem_append.mp hy with hy | hy
      · exact hcn y (List.mem_of_mem_take hy)
      · exact hcn y (List.mem_of_mem_drop (List.mem_of_mem_take hy))
    · show (dds.map (·.nm) ++ lks.map (·.nm)).Nodup
      rw [hdn, hln]
      have hdl : dds.length ≤ 12 := by simp at hdl; exact hdl
      have e : (cs.take 12 ++ cs.drop 12).Nodup := by rw [List.take_append_drop]; exact hcd
      refine List.Nodup.sublist ?_ e
      refine List.Sublist.append ?_ (List.take_sublist _ _)
      rw [show dds.length = min dds.length 12 by omega, ← List.take_take]
      exact List.take_sublist _ _
  · simp only [List.length_nil, Nat.zero_add]
    omega
end K10

open PySem L2 PG
namespace K10
open PySem L2 PG
open PySem.PyData (strOk)
theorem lay_tup2 {n : Nat} {a b : D} (h1 : Lay n a) (h2 : Lay n b) : Lay (n + 1) (.tuple [a, b]) := lay_tuple fun d hd => by
  simp only [List.mem_cons, List.not_mem_nil, or_false] at hd
  rcases hd with rfl | rfl <;> assumption
theorem lay_tup3 {n : Nat} {a b c : D} (h1 : Lay n a) (h2 : Lay n b) (h3 : Lay n c) : Lay (n + 1) (.tuple [a, b, c]) := lay_tuple fun d hd => by
  simp only [List.mem_cons, List.not_mem_nil, or_false] at hd
  rcases hd with rfl | rfl | rfl <;> assumption
theorem lay_map {α : Type} {n : Nat} {f : α → D} {xs : List α} (h : ∀ x ∈ xs, Lay n (f x)) : Lay (n + 1) (.list (xs.map f)) := lay_list fun d hd => by
  obtain ⟨x, hx, rfl⟩ := List.mem_map.mp hd
  exact h x hx
theorem Ch.lay {fs : List Str} (hn : Names fs) {c : Ch} (h : c.ok fs) : Lay 3 c.py := lay_tup3 ((Cd.lay hn c.c h.1).mono (by have := h.2.1; omega)) ((lay_str (hn c.f h.2.2)).mono (by decide)) ((lay_bool c.b).mono (by decide))
theorem Dd.lay {fs : List Str} (hn : Names fs) {d : Dd} (h : d.ok fs) (hs : strOk d.nm = true) : Lay 6 d.py :=
  lay_tup3 ((lay_str hs).mono (by decide)) ((Cd.lay hn d.nd h.1).mono (by have := h.2.1; omega)) (lay_map fun w hw => lay_map fun c hc => Ch.lay hn ((h.2.2.2.2 w hw).2 c hc))
theorem Lk.lay {fs : List Str} (hn : Names fs) {l : Lk} (h : l.ok fs) (hs : strOk l.nm = true) : Lay 4 l.py :=
  lay_tup3 ((lay_str hs).mono (by decide)) ((Cd.lay hn l.nd h.1).mono (by have := h.2.1; omega)) ((Cd.lay hn l.seen h.2.2.1).mono (by have := h.2.2.2; omega))
theorem Hs.lay {m : Nat} {h : Hs} (o : h.Ok m) : Lay 8 h.py := lay_tuple fun d hd => by
  simp only [List.mem_cons, List.not_mem_nil, or_false] at hd
  rcases hd with rfl | rfl | rfl | rfl | rfl
  · exact (lay_names o.fn).mono (by decide)
  · exact (lay_map fun d hd => Dd.lay o.fn (o.dok d hd) (o.nn _ (List.mem_append_left _ (List.mem_map_of_mem hd))))
  · exact (lay_map fun d hd => Lk.lay o.fn (o.lok d hd) (o.nn _ (List.mem_append_right _ (List.mem_map_of_mem hd)))).mono (by decide)
  · exact (lay_nats _).mono (by decide)
  · exact (Cd.lay o.fn _ o.wo).mono (by have := o.wd; omega)
def spCopied : SpT := fun ds _ Φ => ∃ (h : Hs) (m : Nat), ds = [h.py] ∧ h.Ok m ∧ Φ (.val h.py)
def feCopied : FEntry := ⟨"_law_copied", ["house"], spCopied⟩
theorem v_copied (k : Nat) : ∀ ds Ξ Φ, spCopied ds Ξ Φ → wpS ⟨N_law_copied, [], [], ["list"], [], k⟩ b_law_copied (rho0 N_law_copied ds) (postOf Ξ Φ) := by
  rintro ds Ξ Φ ⟨h, m, rfl, ok, hΦ⟩
  unfold b_law_copied N_law_copied
  dsimp only [Hs.py]
  walk_at "wp"
  refine compW_each Dd.py Dd.py h.dds (Nat.le_trans ok.d12 (by decide)) (fun d hd A B ha => ?_) ?_
  · dsimp only [Dd.py]
    walk_at "wp"
    refine compW_each wayPy wayPy d.ways (Nat.le_trans (ok.dok d hd).2.2.2.1 (by decide)) (fun w hw A2 B2 ha2 => ?_) ?_
    · dsimp only [wayPy]
      walk_at "wp"
      exact ha2 _ rfl
    walk_at "wp"
    exact ha _ rfl
  walk_at "wp"
  exact hΦ
end K10

open PySem L2 PG
namespace K10
open PySem L2 PG
open PySem.PyData (strOk)
def crowdPy (ws : List Nat) : D := .tuple (ws.map natD)
def φLaw : List FEntry := [feHouse, feCopied, feCrowd, feCell, feLH 5, feDo 5]
theorem empty_eq {α : Type} (f : α → D) (xs : List α) : PyData.eqv (.list (xs.map f)) (.list []) = xs.isEmpty := by
  rw [eqv_list_nil]
  cases xs <;> rfl
theorem all_filter {α : Type} (p : α → Bool) (xs : List α) : (xs.filter fun x => !p x).isEmpty = xs.all p := by
  induction xs with
  | nil => rfl
  | cons x xs ih =>
    rw [List.filter_cons, List.all_cons, ← ih]
    cases p x <;> simp
theorem canN_yes {fs : List Str} {ws : List Nat} {d : Dd} (ds : List Dd) (h : (ws.all fun w => d.nd.ev fs w) = true) : canN fs ws (ds ++ [d]) = canN fs ws ds ++ [d.nm] := by
  unfold canN
  rw [List.filter_append, List.map_append, List.filter_cons, if_pos h]
  rfl
theorem canN_no {fs : List Str} {ws : List Nat} {d : Dd} (ds : List Dd) (h : (ws.all fun w => d.nd.ev fs w) = false) : canN fs ws (ds ++ [d]) = canN fs ws ds := by
  unfold canN
  rw [List.filter_append, List.map_append, List.filter_cons, if_neg (by rw [h]; decide)]
  simp
theorem canN_names {fs : List Str} {ws : List Nat} {ds : List Dd} (h : ∀ d ∈ ds, strOk d.nm = true) : Names (canN fs ws ds) := fun f hf => by
  obtain ⟨d, hd, rfl⟩ := List.mem_map.mp hf
  exact h d (List.mem_filter.mp hd).1
theorem canN_len (fs : List Str) (ws : List Nat) (ds : List Dd) : (canN fs ws ds).length ≤ ds.length := by
  unfold canN
  rw [List.length_map]
  exact List.length_filter_le _ _
theorem v_law (k : Nat) : ∀ ds Ξ Φ, lawSp ds Ξ Φ → wpS ⟨N_law, φLaw, [], ["tuple", "range", "max", "min", "len", "isinstance", "list"], [], k⟩ b_law (rho0 N_law ds) (postOf Ξ Φ) := by
  rintro ds Ξ Φ ⟨ns, rfl, hns, h⟩
  unfold b_law N_law φLaw
  walk_at "wp"
  refine ⟨ns, 10, rfl, by decide, by decide, fun o ok => ?_⟩
  have hl10 := ok.fm
  have lay := (Hs.lay ok).shaped (by decide)
  walk_at "wp"
  refine ⟨o, 10, rfl, ok, ?_⟩
  have ef : SeqAt.shaped (.list (o.fs.map .str)) = true := (lay_names ok.fn).shaped (by decide)
  have eq0 := eqv_same (Hs.lay ok)
  have hnm : ∀ d ∈ o.dds, strOk d.nm = true := fun d hd => ok.nn _ (List.mem_append_left _ (List.mem_map_of_mem hd))
  have p0 : 0 < 2 ^ o.fs.length := Nat.two_pow_pos _
  have hdd : ∀ d ∈ o.dds, d.nd.over o.fs ∧ d.nd.dep < 5 := fun d hd => ⟨(ok.dok d hd).1, by have := (ok.dok d hd).2.1; omega⟩
  obtain ⟨fs, dds, lks, firsts, wish⟩ := o
  dsimp only [Hs.py] at *
  walk_at "wp"
  have er : -100 ≤ (if (if (List.map PyData.int ns).length < (24 : Int) then ((List.map PyData.int ns).length : Int) else 24) > 8 then (if (List.map PyData.int ns).length < (24 : Int) then ((List.map PyData.int ns).length : Int) else 24) else (8 : Int)) ∧ (if (if (List.map PyData.int ns).length < (24 : Int) then ((List.map PyData.int ns).length : Int) else 24) > 8 then (if (List.map PyData.int ns).length < (24 : Int) then ((List.map PyData.int ns).length : Int) else 24) else (8 : Int)) ≤ 24 := by omega
  generalize (if (if (List.map PyData.int ns).length < (24 : Int) then ((List.map PyData.int ns).length : Int) else 24) > 8 then (if (List.map PyData.int ns).length < (24 : Int) then ((List.map PyData.int ns).length : Int) else 24) else (8 : Int)) = cnt at *
  refine ⟨⟨by omega, by omega⟩, ?_⟩
  refine loopW_inv (fun xs ρ => ∃ (cws : List (List Nat)) (s4 s5 s6 s7 s8 s9 s10 s11 : Sl), ρ = [.val (.list (ns.map .int)), .val (Hs.py ⟨fs, dds, lks, firsts, wish⟩), .val (Hs.py ⟨fs, dds, lks, firsts, wish⟩), .own (cws.map crowdPy), s4, s5, s6, s7, s8, s9, s10, s11] ∧ cws.length + xs.length ≤ 25 ∧ (∀ ws ∈ cws, Crowd (2 ^ fs.length) ws ∧ ws.length ≤ 64) ∧ ∀ x ∈ xs, ∃ i : Nat, i < 24 ∧ x = .int (0 + i)) ?_ ?_ _ _ ⟨[firsts], _, _, _, _, _, _, _, _, rfl, ?_, ?_, fun x hx => ?_⟩
  · rintro x xs ρ ⟨cws, s4, s5, s6, s7, s8, s9, s10, s11, rfl, hcl, hcw, hx⟩ K hK
    obtain ⟨i, hi, rfl⟩ := hx x List.mem_cons_self
    rw [List.length_cons] at hcl
    dsimp only [Hs.py]
    walk_at "wp"
    refine ⟨ns, 1 + (0 + (i : Int)), rfl, by omega, fun c => ?_⟩
    walk_at "wp"
    obtain ⟨y, hy, ey⟩ := atI_mod (xs := [PyData.int 1, PyData.int 2, PyData.int 8]) (by simp) (0 + (i : Int))
    have hy : ∃ z : Int, y = .int z ∧ 1 ≤ z ∧ z ≤ 64 := by
      simp only [List.mem_cons, List.not_mem_nil, or_false] at hy
      rcases hy with rfl | rfl | rfl
      · exact ⟨_, rfl, by omega, by omega⟩
      · exact ⟨_, rfl, by omega, by omega⟩
      · exact ⟨_, rfl, by omega, by omega⟩
    obtain ⟨z, rfl, hz1, hz2⟩ := hy
    refine ⟨by decide, _, ey, _, 650, fs, z, rfl, by omega, by omega, by omega, hz1, hz2, fun ws hw hw2 => ⟨by rw [List.length_map]; exact Nat.lt_of_le_of_lt (show cws.length ≤ 25 by omega) (by decide), hK _ ⟨cws ++ [ws], _, _, _, _, _, _, _, _, by rw [List.map_append]; rfl, by rw [List.length_append, List.length_singleton]; omega, fun v hv => ?_, fun z hz => hx z (List.mem_cons_of_mem _ hz)⟩⟩⟩
    rcases List.mem_append.mp hv with hv | hv
    · exact hcw v hv
    · rw [List.mem_singleton.mp hv]; exact ⟨hw, hw2⟩
  · rintro ρ ⟨cws, s4, s5, s6, s7, s8, s9, s10, s11, rfl, hcl, hcw, -⟩
    walk_at "wp"
    refine loopW_on crowdPy (fun xs ρ => (∃ (s4 s5 s6 s7 s8 s9 s10 s11 : Sl), ρ = [.val (.list (ns.map .int)), .val (Hs.py ⟨fs, dds, lks, firsts, wish⟩), .val (Hs.py ⟨fs, dds, lks, firsts, wish⟩), .val (.list (cws.map crowdPy)), s4, s5, s6, s7, s8, s9, s10, s11]) ∧ ∀ ws ∈ xs, Crowd (2 ^ fs.length) ws ∧ ws.length ≤ 64) ?_ ?_ _ _ ⟨⟨_, _, _, _, _, _, _, _, rfl⟩, hcw⟩
    · rintro ws xs ρ ⟨⟨s4, s5, s6, s7, s8, s9, s10, s11, rfl⟩, hxs⟩ K hK
      obtain ⟨hw, hw2⟩ := hxs ws List.mem_cons_self
      dsimp only [Hs.py]
      walk_at "wp"
      refine loopW_on Dd.py (fun rest ρ => ∃ (done : List Dd) (s7 s8 s9 s10 s11 : Sl), done ++ rest = dds ∧ ρ = [.val (.list (ns.map .int)), .val (Hs.py ⟨fs, dds, lks, firsts, wish⟩), .val (Hs.py ⟨fs, dds, lks, firsts, wish⟩), .val (.list (cws.map crowdPy)), s4, .val (crowdPy ws), .own ((canN fs ws done).map .str), s7, s8, s9, s10, s11]) ?_ ?_ _ _ ⟨[], _, _, _, _, _, rfl, rfl⟩
      · rintro d rest ρ ⟨done, s7, s8, s9, s10, s11, hdone, rfl⟩ K2 hK2
        have hd : d ∈ dds := by rw [← hdone]; simp
        have hdl : done.length ≤ 12 := by
          have := congrArg List.length hdone
          have := ok.d12
          simp at *
          omega
        dsimp only [Hs.py, Dd.py, crowdPy]
        walk_at "wp"
        refine compW_on natD (fun w => !d.nd.ev fs w) natD ws (Nat.le_trans hw2 (by decide)) (fun w hw3 A B ha hb => ?_) ?_
        · walk_at "wp"
          exact ⟨fs, d.nd, w, rfl, ok.fn, (hdd d hd).1, by omega, (hdd d hd).2, boolW_mk (fun e => ha e _ rfl) fun e => hb e⟩
        walk_at "wp"
        have sh0 : SeqAt.shaped (.list []) = true := (lay_list (n := 0) fun d hd => by cases hd).shaped (by decide)
        refine ⟨(lay_nats _).shaped (by decide), sh0, ?_⟩
        rw [empty_eq, all_filter]
        have go : done ++ [d] ++ rest = dds := by rw [← hdone]; simp
        refine boolW_mk (fun e => ⟨by rw [List.length_map]; exact Nat.lt_of_le_of_lt (Nat.le_trans (canN_len fs ws done) hdl) (by decide), hK2 _ ⟨done ++ [d], .val (.str d.nm), .val d.nd.py, .val (.list (d.ways.map wayPy)), s10, s11, go, ?_⟩⟩) fun e => hK2 _ ⟨done ++ [d], .val (.str d.nm), .val d.nd.py, .val (.list (d.ways.map wayPy)), s10, s11, go, ?_⟩
        · rw [canN_yes _ e, List.map_append]
          rfl
        · rw [canN_no _ e]
          rfl
      · rintro ρ ⟨done, s7, s8, s9, s10, s11, hdone, rfl⟩
        rw [List.append_nil] at hdone
        subst hdone
        have cn := canN_names (fs := fs) (ws := ws) hnm
        have shn := (lay_names cn).shaped (by decide)
        have can : ∀ Ψ : R → Prop, Ψ (.new ((canN fs ws done).map .str)) → spDo 5 [Hs.py ⟨fs, done, lks, firsts, wish⟩, crowdPy ws] Ξ Ψ := fun Ψ q => ⟨fs, done, _, ws, rfl, ok.fn, by omega, hdd, Nat.le_trans ok.d12 (by decide), by omega, crowd_ok hw, q⟩
        have hx' : ∀ ws ∈ xs, Crowd (2 ^ fs.length) ws ∧ ws.length ≤ 64 := fun v hv => hxs v (List.mem_cons_of_mem _ hv)
        walk_at "wp"
        refine (can _ ?_ : spDo 5 _ _ _)
        dsimp only [Hs.py, crowdPy]
        walk_at "wp"
        refine ⟨shn, shn, ?_⟩
        rw [eqv_same (lay_names cn)]
        walk_at "wp"
        refine ⟨by rw [List.length_map]; exact Nat.lt_of_le_of_lt (Nat.le_trans (canN_len fs ws done) ok.d12) (by decide), ?_⟩
        have z : (feDo 5).sp = spDo 5 := rfl
        rw [z]
        refine can _ ?_
        dsimp only [Hs.py, crowdPy]
        walk_at "wp"
        refine ⟨shn, shn, ?_⟩
        rw [eqv_same (lay_names cn)]
        walk_at "wp"
        exact hK _ ⟨⟨_, _, _, _, _, _, _, _, rfl⟩, hx'⟩
    · rintro ρ ⟨⟨s4, s5, s6, s7, s8, s9, s10, s11, rfl⟩, -⟩
      dsimp only [Hs.py]
      walk_at "wp"
      refine ⟨lay, lay, ?_⟩
      rw [eq0]
      exact h
  · rw [rng_len]
    simp
    omega
  · intro ws hws
    rw [List.mem_singleton.mp hws]
    exact ⟨ok.fi, ok.f64⟩
  · obtain ⟨i, hi, rfl⟩ := mem_rng hx
    exact ⟨i, by omega, rfl⟩
end K10

open PySem L2 PG
open PySem PySem.W PyProof.Rows
namespace K10
open PySem L2 PG
structure Facts (K : Fg) : Prop where
  d1 : ∃ cd, DefAt K "holds_in" st_holds_in cd
  d2 : ∃ c Q, TabAt K "holds_in_each" st_holds_in_each c Q
  d3 : ∃ cd, DefAt K "is_so" st_is_so cd
  d4 : ∃ cd, DefAt K "fact_bit" st_fact_bit cd
  d5 : ∃ cd, DefAt K "worlds_in_all" st_worlds_in_all cd
  d6 : ∃ cd, DefAt K "is_world" st_is_world cd
  d7 : ∃ c Q, TabAt K "are_worlds" st_are_worlds c Q
  d8 : ∃ cd, DefAt K "doable_in" st_doable_in cd
  d9 : ∃ cd, DefAt K "refuse_no_crowd" st_refuse_no_crowd cd
  d10 : ∃ cd, DefAt K "_law_cell_at" st_law_cell_at cd
  d11 : ∃ cd, DefAt K "_law_stir" st_law_stir cd
  d12 : ∃ cd, DefAt K "_law_names" st_law_names cd
  d13 : ∃ cd, DefAt K "_law_condition" st_law_condition cd
  d14 : ∃ cd, DefAt K "_law_way" st_law_way cd
  d15 : ∃ cd, DefAt K "_law_deed" st_law_deed cd
  d16 : ∃ cd, DefAt K "_law_firsts" st_law_firsts cd
  d17 : ∃ cd, DefAt K "_law_house" st_law_house cd
  d18 : ∃ cd, DefAt K "_law_copied" st_law_copied cd
  d19 : ∃ cd, DefAt K "_law_holds" st_law_holds cd
  d20 : ∃ cd, DefAt K "_law_crowd" st_law_crowd cd
  d21 : ∃ cd, DefAt K "law" st_law cd
  c1 : IntAt K "FACTS" 0
  c2 : IntAt K "DEEDS" 1
  x1 : ExcIn K "NoWorld"
  n1 : PySem.W.nsIn K mainGlobals "len" = some none
  n2 : PySem.W.nsIn K mainGlobals "range" = some none
  n3 : PySem.W.nsIn K mainGlobals "sorted" = some none
  n4 : PySem.W.nsIn K mainGlobals "set" = some none
  n5 : PySem.W.nsIn K mainGlobals "list" = some none
  n6 : PySem.W.nsIn K mainGlobals "all" = some none
  n7 : PySem.W.nsIn K mainGlobals "tuple" = some none
  n8 : PySem.W.nsIn K mainGlobals "isinstance" = some none
  n9 : PySem.W.nsIn K mainGlobals "int" = some none
  n10 : PySem.W.nsIn K mainGlobals "bool" = some none
  n11 : PySem.W.nsIn K mainGlobals "max" = some none
  n12 : PySem.W.nsIn K mainGlobals "min" = some none
theorem main {P : Program} {q : Program} {w : World} {K : Fg} {mg : Str → Option Value} {h : Heap} (X : K.In h) (G : h.Ns mainGlobals mg) (A : AllTab q mg h) (f : Facts K)
    (r2 : ((PyProof.Rows.recsOf q).any fun e => e.name == "holds_in_each") = true) (r7 : ((PyProof.Rows.recsOf q).any fun e => e.name == "are_worlds") = true) : ∃ (f : Addr) (fd : FuncData) (cs : List (Addr × Addr)) (W : Wd), mg "law" = some (.ref f) ∧ W.tb = cs.map (·.2) ∧ (∀ p ∈ cs, h.get? p.2 = some { cls := .none, data := .fields #[] } ∧ K.lookup p.2 = none ∧ PySem.W.CodeHd h p.1 p.2) ∧
      (∀ (s : Shared) (us : List Value), us.length = 1 → BindsTo s fd ⟨us, []⟩ ((["script"] : List Str).zip us)) ∧
      ∀ base : Heap, K.In base → base.Ns mainGlobals mg → (∀ p ∈ cs, GxR.TabB base mg p.1 p.2) → FnOk P w K mg base (L2.CX P w) 11 f fd ["script"] (spD K W mg lawSp) := by
  obtain ⟨c2, Q2, t2⟩ := f.d2
  obtain ⟨c7, Q7, t7⟩ := f.d7
  have e2 := tab_empty A X G t2 r2
  have e7 := tab_empty A X G t7 r7
  obtain ⟨_, _, F1, m1, b1, _⟩ := f.d1.choose_spec.fun X G a_holds_in
  obtain ⟨_, _, F2, m2, b2, _⟩ := t2.1.fun X G a_holds_in_each
  obtain ⟨_, _, F3, m3, b3, _⟩ := f.d3.choose_spec.fun X G a_is_so
  obtain ⟨_, _, F4, m4, b4, _⟩ := f.d4.choose_spec.fun X G a_fact_bit
  obtain ⟨_, _, F5, m5, b5, _⟩ := f.d5.choose_spec.fun X G a_worlds_in_all
  obtain ⟨_, _, F6, m6, b6, _⟩ := f.d6.choose_spec.fun X G a_is_world
  obtain ⟨_, _, F7, m7, b7, _⟩ := t7.1.fun X G a_are_worlds
  obtain ⟨_, _, F8, m8, b8, _⟩ := f.d8.choose_spec.fun X G a_doable_in
  obtain ⟨_, _, F9, m9, b9, _⟩ := f.d9.choose_spec.fun X G a_refuse_no_crowd
  obtain ⟨_, _, F10, m10, b10, _⟩ := f.d10.choose_spec.fun X G a_law_cell_at
  obtain ⟨_, _, F11, m11, b11, _⟩ := f.d11.choose_spec.fun X G a_law_stir
  obtain ⟨_, _, F12, m12, b12, _⟩ := f.d12.choose_spec.fun X G a_law_names
  obtain ⟨_, _, F13, m13, b13, _⟩ := f.d13.choose_spec.fun X G a_law_condition
  obtain ⟨_, _, F14, m14, b14, _⟩ := f.d14.choose_spec.fun X G a_law_way
  obtain ⟨_, _, F15, m15, b15, _⟩ := f.d15.choose_spec.fun X G a_law_deed
  obtain ⟨_, _, F16, m16, b16, _⟩ := f.d16.choose_spec.fun X G a_law_firsts
  obtain ⟨_, _, F17, m17, b17, _⟩ := f.d17.choose_spec.fun X G a_law_house
  obtain ⟨_, _, F18, m18, b18, _⟩ := f.d18.choose_spec.fun X G a_law_copied
  obtain ⟨_, _, F19, m19, b19, _⟩ := f.d19.choose_spec.fun X G a_law_holds
  obtain ⟨_, _, F20, m20, b20, _⟩ := f.d20.choose_spec.fun X G a_law_crowd
  obtain ⟨fl, fdl, F21, m21, b21, bt⟩ := f.d21.choose_spec.fun X G a_law
  have cF : ConIn K ⟨fun _ => none, [Q2, Q7]⟩ mg ("FACTS", .int 0) := con_int X G f.c1
  have cD : ConIn K ⟨fun _ => none, [Q2, Q7]⟩ mg ("DEEDS", .int 1) := con_int X G f.c2
  have xW := f.x1.at X G
  have g1 : mg "len" = none := PySem.W.mg_none_of X G f.n1
  have g2 : mg "range" = none := PySem.W.mg_none_of X G f.n2
  have g3 : mg "sorted" = none := PySem.W.mg_none_of X G f.n3
  have g4 : mg "set" = none := PySem.W.mg_none_of X G f.n4
  have g5 : mg "list" = none := PySem.W.mg_none_of X G f.n5
  have g6 : mg "all" = none := PySem.W.mg_none_of X G f.n6
  have g7 : mg "tuple" = none := PySem.W.mg_none_of X G f.n7
  have g8 : mg "isinstance" = none := PySem.W.mg_none_of X G f.n8
  have g9 : mg "int" = none := PySem.W.mg_none_of X G f.n9
  have g10 : mg "bool" = none := PySem.W.mg_none_of X G f.n10
  have g11 : mg "max" = none := PySem.W.mg_none_of X G f.n11
  have g12 : mg "min" = none := PySem.W.mg_none_of X G f.n12
  refine ⟨fl, fdl, [(c2, Q2), (c7, Q7)], ⟨fun _ => none, [Q2, Q7]⟩, m21, rfl, ?_, bt, fun base Xb Gb TB => ?_⟩
  · intro p hp
    simp only [List.mem_cons, List.not_mem_nil, or_false] at hp
    rcases hp with rfl | rfl
    · exact e2
    · exact e7
  have TB2 := TB (c2, Q2) (by simp)
  have TB7 := TB (c7, Q7) (by simp)
  generalize hW : (⟨fun _ => none, [Q2, Q7]⟩ : Wd) = W at *
  have q2 : Q2 ∈ W.tb := by rw [← hW]; simp
  have q7 : Q7 ∈ W.tb := by rw [← hW]; simp
  have i11 : FnIn P w K W mg base 1 feStir := def_ok (Θ := ⟨N_law_stir, [], [], [], [], 0⟩) ⟨fns_nil, cons_nil, by simp, exc_nil⟩ F11 m11 b11 sc_law_stir rfl m_law_stir (by rintro _ _ _ ⟨c, k, rfl, _⟩; rfl) v_stir
  have i10 : FnIn P w K W mg base 1 feCell := def_ok (Θ := ⟨N_law_cell_at, [], [], ["len"], [], 0⟩) ⟨fns_nil, cons_nil, by simp [g1], exc_nil⟩ F10 m10 b10 sc_law_cell_at rfl m_law_cell_at (by rintro _ _ _ ⟨c, k, rfl, _⟩; rfl) v_cell
  have i4 : FnIn P w K W mg base 1 feFB := def_ok (Θ := ⟨N_fact_bit, [], [("FACTS", .int 0)], [], [], 0⟩) ⟨fns_nil, cons_cons cF cons_nil, by simp, exc_nil⟩ F4 m4 b4 sc_fact_bit rfl m_fact_bit (by rintro _ _ _ ⟨c, k, n, rfl, _⟩; rfl) v_fb
  have i3 : FnIn P w K W mg base 2 feSo := def_ok (Θ := ⟨N_is_so, [feFB], [], [], [], 1⟩) ⟨fns_cons i4 fns_nil, cons_nil, by simp, exc_nil⟩ F3 m3 b3 sc_is_so rfl m_is_so (by rintro _ _ _ ⟨c, k, n, w, rfl, _⟩; rfl) v_so
  have i5 : FnIn P w K W mg base 1 feWA := def_ok (Θ := ⟨N_worlds_in_all, [], [("FACTS", .int 0)], ["len"], [], 0⟩) ⟨fns_nil, cons_cons cF cons_nil, by simp [g1], exc_nil⟩ F5 m5 b5 sc_worlds_in_all rfl m_worlds_in_all (by rintro _ _ _ ⟨c, k, rfl, _⟩; rfl) v_wa
  have i1 : ∀ n, FnIn P w K W mg base (n + 2) (feHI n) := fun n => by
    induction n with
    | zero => exact none_ok F1 m1 b1 fun ds Ξ Φ q => by obtain ⟨_, _, _, _, _, _, _, _, q, _⟩ := q; exact Nat.not_lt_zero _ q
    | succ n ih => exact def_ok (Θ := ⟨N_holds_in, [feSo, feHI n], [], [], [], n + 2⟩) ⟨fns_cons (i3.mono (by show 2 ≤ n + 2; omega)) (fns_cons ih fns_nil), cons_nil, by simp, exc_nil⟩ F1 m1 b1 sc_holds_in rfl m_holds_in (by rintro _ _ _ ⟨_, _, _, _, rfl, _⟩; rfl) (v_hi n _)
  have i6 : FnIn P w K W mg base 2 feIW := def_ok (Θ := ⟨N_is_world, [feWA], [], ["isinstance", "int", "bool"], [], 1⟩) ⟨fns_cons i5 fns_nil, cons_nil, by simp [g8, g9, g10], exc_nil⟩ F6 m6 b6 sc_is_world rfl m_is_world (by rintro _ _ _ ⟨_, _, _, rfl, _⟩; rfl) (v_iw _)
  have i7 : FnIn P w K W mg base 4 feAW := def_okG (Θ := ⟨N_are_worlds, [feIW], [], ["all", "len", "list", "sorted", "set"], [], 2⟩) ⟨fns_cons i6 fns_nil, cons_nil, by simp [g1, g3, g4, g5, g6], exc_nil⟩ F7 TB7 q7 m7 b7 sc_are_worlds rfl m_are_worlds (by rintro _ _ _ ⟨_, _, _, _, rfl, _⟩; rfl) (v_aw _)
  have i9 : FnIn P w K W mg base 5 feRN := def_ok (Θ := ⟨N_refuse_no_crowd, [feAW], [], [], ["NoWorld"], 4⟩) ⟨fns_cons i7 fns_nil, cons_nil, by simp, exc_cons xW exc_nil⟩ F9 m9 b9 sc_refuse_no_crowd rfl m_refuse_no_crowd (by rintro _ _ _ ⟨_, _, _, _, rfl, _⟩; rfl) (v_rn _)
  have i2 : FnIn P w K W mg base 9 (feHE 5) := def_okG (Θ := ⟨N_holds_in_each, [feHI 5], [], ["all"], [], 7⟩) ⟨fns_cons (i1 5) fns_nil, cons_nil, by simp [g6], exc_nil⟩ F2 TB2 q2 m2 b2 sc_holds_in_each rfl m_holds_in_each (by rintro _ _ _ ⟨_, _, _, _, _, rfl, _⟩; rfl) (v_he 5 _)
  have i8 : FnIn P w K W mg base 10 (feDo 5) := def_ok (Θ := ⟨N_doable_in, [feRN, feHE 5], [("DEEDS", .int 1)], [], [], 9⟩) ⟨fns_cons (i9.mono (by decide)) (fns_cons i2 fns_nil), cons_cons cD cons_nil, by simp, exc_nil⟩ F8 m8 b8 sc_doable_in rfl m_doable_in (by rintro _ _ _ ⟨_, _, _, _, rfl, _⟩; rfl) (v_do 5 _)
  have i13 : ∀ n, FnIn P w K W mg base (n + 1) (feC n) := fun n => by
    induction n with
    | zero => exact none_ok F13 m13 b13 fun ds Ξ Φ q => by obtain ⟨_, _, _, _, _, _, _, _, _, h1, h2, _⟩ := q; omega
    | succ n ih => exact def_ok (Θ := ⟨N_law_condition, [feStir, feC n], [], ["len"], [], n + 1⟩) ⟨fns_cons (i11.mono (by show 1 ≤ n + 1; omega)) (fns_cons ih fns_nil), cons_nil, by simp [g1], exc_nil⟩ F13 m13 b13 sc_law_condition rfl m_law_condition (by rintro _ _ _ ⟨_, _, _, _, _, rfl, _⟩; rfl) (v_c n _)
  have i12 : FnIn P w K W mg base 2 feN := def_ok (Θ := ⟨N_law_names, [feStir], [], ["range", "len"], [], 1⟩) ⟨fns_cons i11 fns_nil, cons_nil, by simp [g1, g2], exc_nil⟩ F12 m12 b12 sc_law_names rfl m_law_names (by rintro _ _ _ ⟨_, _, _, rfl, _⟩; rfl) (v_n _)
  have i14 : FnIn P w K W mg base 4 feWay := def_ok (Θ := ⟨N_law_way, [feStir, feC 2], [], ["range", "len"], [], 3⟩) ⟨fns_cons (i11.mono (by decide)) (fns_cons (i13 2) fns_nil), cons_nil, by simp [g1, g2], exc_nil⟩ F14 m14 b14 sc_law_way rfl m_law_way (by rintro _ _ _ ⟨_, _, _, rfl, _⟩; rfl) (v_way 0 _)
  have i15 : FnIn P w K W mg base 5 feDeed := def_ok (Θ := ⟨N_law_deed, [feStir, feC 3, feWay], [], ["range"], [], 4⟩) ⟨fns_cons (i11.mono (by decide)) (fns_cons (i13 3) (fns_cons i14 fns_nil)), cons_nil, by simp [g2], exc_nil⟩ F15 m15 b15 sc_law_deed rfl m_law_deed (by rintro _ _ _ ⟨_, _, _, rfl, _⟩; rfl) (v_deed 0 _)
  have i16 : FnIn P w K W mg base 2 feFirsts := def_ok (Θ := ⟨N_law_firsts, [feStir], [], ["range", "len", "sorted"], [], 1⟩) ⟨fns_cons i11 fns_nil, cons_nil, by simp [g1, g2, g3], exc_nil⟩ F16 m16 b16 sc_law_firsts rfl m_law_firsts (by rintro _ _ _ ⟨_, _, _, rfl, _⟩; rfl) (v_firsts _)
  have i17 : FnIn P w K W mg base 6 feHouse := def_ok (Θ := ⟨N_law_house, φHouse 0, [], ["len"], [], 5⟩) ⟨fns_cons (i10.mono (by decide)) (fns_cons (i12.mono (by decide)) (fns_cons (i11.mono (by decide)) (fns_cons i15 (fns_cons (i13 4) (fns_cons (i16.mono (by decide)) fns_nil))))), cons_nil, by simp [g1], exc_nil⟩ F17 m17 b17 sc_law_house rfl m_law_house (by rintro _ _ _ ⟨_, _, rfl, _⟩; rfl) (v_house 0 _)
  have i18 : FnIn P w K W mg base 1 feCopied := def_ok (Θ := ⟨N_law_copied, [], [], ["list"], [], 0⟩) ⟨fns_nil, cons_nil, by simp [g5], exc_nil⟩ F18 m18 b18 sc_law_copied rfl m_law_copied (by rintro _ _ _ ⟨_, _, rfl, _⟩; rfl) (v_copied _)
  have i19 : ∀ n, FnIn P w K W mg base (n + 1) (feLH n) := fun n => by
    induction n with
    | zero => exact none_ok F19 m19 b19 fun ds Ξ Φ q => by obtain ⟨_, _, _, _, _, _, _, q, _⟩ := q; exact Nat.not_lt_zero _ q
    | succ n ih => exact def_ok (Θ := ⟨N_law_holds, [feLH n], [], ["int"], [], n + 1⟩) ⟨fns_cons ih fns_nil, cons_nil, by simp [g9], exc_nil⟩ F19 m19 b19 sc_law_holds rfl m_law_holds (by rintro _ _ _ ⟨_, _, _, rfl, _⟩; rfl) (v_lh n _)
  have i20 : FnIn P w K W mg base 2 feCrowd := def_ok (Θ := ⟨N_law_crowd, [feStir], [], ["len", "tuple", "range", "sorted", "set"], [], 1⟩) ⟨fns_cons i11 fns_nil, cons_nil, by simp [g1, g2, g3, g4, g7], exc_nil⟩ F20 m20 b20 sc_law_crowd rfl m_law_crowd (by rintro _ _ _ ⟨_, _, _, _, rfl, _⟩; rfl) (v_crowd _)
  exact def_fn false (Θ := ⟨N_law, φLaw, [], ["tuple", "range", "max", "min", "len", "isinstance", "list"], [], 10⟩)
    ⟨fns_cons (i17.mono (by decide)) (fns_cons (i18.mono (by decide)) (fns_cons (i20.mono (by decide)) (fns_cons (i10.mono (by decide)) (fns_cons ((i19 5).mono (by decide)) (fns_cons i8 fns_nil))))), cons_nil, by simp [g1, g2, g5, g7, g8, g11, g12], exc_nil⟩
    F21 (fun z => by cases z) sc_law rfl m_law (by rintro _ _ _ ⟨_, rfl, _⟩; rfl) (v_law _)
end K10
set_option maxRecDepth 100000 in
set_option maxHeartbeats 0 in
theorem PySem.Challenge.cw_sureplans_k10_deeds_that_can_be_done_holds : PySem.Challenge.rw_sureplans_k10_deeds_that_can_be_done.Holds := by
  w_on; o_law; k_head; (case hw => w_witness2)
  k_fill
  refine PG.walk (l := PySem.Challenge.rw_sureplans_k10_deeds_that_can_be_done) (k := 11) rfl rfl ⟨rfl, by decide, by decide⟩ (fun w h Y => PySem.W.kIn_of Y) ?F
  case F =>
    intro w mg h KX G A
    refine K10.main KX G A ?ff ?r2 ?r7
    case r2 => rfl
    case r7 => rfl
    case ff =>
      refine ⟨?_, ?_, ?_, ?_, ?_, ?_, ?_, ?_, ?_, ?_, ?_, ?_, ?_, ?_, ?_, ?_, ?_, ?_, ?_, ?_, ?_, ?_, ?_, ?_, ?_, ?_, ?_, ?_, ?_, ?_, ?_, ?_, ?_, ?_, ?_, ?_⟩
      · refine' PG.DefAt.mk ?a ?l ?c ?k; (case a => k_is); (case l => k_is); (case c => k_is); (case k => k_is)
      · refine' PG.TabAt.mk ?a ?l ?c ?k ?m ?n ?o; (case a => k_is); (case l => k_is); (case c => k_is); (case k => k_is); (case m => k_is); (case n => rfl); (case o => rfl)
      iterate 4 (focus (refine' PG.DefAt.mk ?a ?l ?c ?k; (case a => k_is); (case l => k_is); (case c => k_is); (case k => k_is)))
      · refine' PG.TabAt.mk ?a ?l ?c ?k ?m ?n ?o; (case a => k_is); (case l => k_is); (case c => k_is); (case k => k_is); (case m => k_is); (case n => rfl); (case o => rfl)
      iterate 14 (focus (refine' PG.DefAt.mk ?a ?l ?c ?k; (case a => k_is); (case l => k_is); (case c => k_is); (case k => k_is)))
      iterate 2 (focus (refine' PG.IntAt.mk ?a; (case a => k_is)))
      · refine' PG.ExcIn.mk ?a ?b ?c ?d ?e; (case a => k_is); (case b => k_exc); (case c => k_is); (case d => k_is); (case e => k_is)
      all_goals k_is

