import PyProof.Rows.All
import Wide.All
import OpenK.AllK
import Wide.FinOn
import HandS.ForMost
import HandS.Walk
import HandS.Deep
import HandS.IsInst
import KE.OsArith
import HandS.SetFor
import HandS.Conv
import HandS.SortInts
import PySem.Challenge.RW_sureplans_k04_whole_conditions_by_condit
set_option Elab.async false
set_option linter.all false
set_option maxRecDepth 100000
set_option maxHeartbeats 4000000
namespace PF
open PySem L2
open PySem.Spec
open PyProof.Rows (IntsAre seqObj)
section
variable {P : Program} {w : World} {A : Around} {E : Value → Shared → Prop} {s : Shared}
/-- an empty set, as it is made -/
abbrev eset (w : World) : Obj := { cls := .type "set", dict := none, data := .set #[] 0 (.fresh 0 0 (!w.params.followText "set-order")) }
/-- the fill of a new set from a list's iterator -/
theorem eset_fill {l : Addr} {items : Array Value} (ns : List Int) (hh : A.handled = none) (hl : s.heap.IsList l items) (hit : IntsAre items.toList ns) (hb : ns.length + 1 < scanBound) {R : Result → Shared → Prop}
    (hR : ∀ (h' : Heap) (tk c : Nat), SetR w h' s.heap.objs.size (fun j => decide (j ∈ ns)) c → (∀ b o, s.heap.get? b = some o → h'.get? b = some o) → R (.ok (.ret .none)) { s with heap := h', toks := tk }) :
    codeAny (model P w) A (.builtin "set.update.loop" ⟨[.ref s.heap.objs.size, .ref (s.heap.objs.size + 1)], []⟩) R { s with heap := (s.heap.push (eset w)).push { cls := .type "list_iterator", data := .fields #[.ref l, .int 0 0] } } := by
  have e0 : items.size = ns.length := by have := IntsAre.length hit; rw [Array.length_toList] at this; exact this
  obtain ⟨lo, hlo, hrest⟩ := id hl
  have lt0 : l < s.heap.objs.size := Heap.lt_size hlo
  have z1 : (s.heap.push (eset w)).objs.size = s.heap.objs.size + 1 := Heap.size_push ..
  have ne0 : l ≠ s.heap.objs.size + 1 := Nat.ne_of_lt (Nat.lt_succ_of_lt lt0)
  have nin : s.heap.objs.size ∉ [s.heap.objs.size + 1, l] := by
    intro z
    rcases List.mem_cons.mp z with z | z
    · exact absurd z (Nat.ne_of_lt (Nat.lt_succ_self _))
    · exact absurd (List.mem_singleton.mp z) (Nat.ne_of_gt lt0)
  have nw : ((s.heap.push (eset w)).push { cls := .type "list_iterator", data := .fields #[.ref l, .int 0 0] }).get? s.heap.objs.size = some (eset w) := Heap.get?_push_of_some _ (Heap.get?_push_size _ rfl)
  have itv : ∀ (i : Nat) (v : Value), items[i]? = some v → ∃ k t, ns[i]? = some k ∧ v = .int k t := fun i v hv => by
    have lt : i < ns.length := e0 ▸ (Array.getElem?_eq_some_iff.mp hv).1
    obtain ⟨t, e⟩ := PyProof.Rows.IntsAre.int_at hit i v (by rw [Array.getElem?_toList]; exact hv)
    exact ⟨ns[i], t, List.getElem?_eq_getElem lt, by rw [e, List.getD_eq_getElem?_getD, List.getElem?_eq_getElem lt] <;> rfl⟩
  have itr : ((s.heap.push (eset w)).push { cls := .type "list_iterator", data := .fields #[.ref l, .int 0 0] }).get? (s.heap.objs.size + 1) = some { cls := .type "list_iterator", data := .fields #[.ref l, .int 0 0] } := by
    rw [← z1]; exact Heap.get?_push_size _ rfl
  refine set_update_ints ((Walks.list (A := A.in1) (by simp [hh]) (s.heap.objs.size + 1) l ne0 items).toS) s.heap.objs.size nin ns e0 hb itv (items.size - 0) 0 _ (by omega) (Nat.zero_le _) ⟨⟨_, itr, rfl, rfl⟩, (hl.push _).push _⟩ ⟨0, Nat.le_refl 0, setR_new_at nw⟩ fun s' c' hm hc' hS' => ?_
  obtain ⟨h', g2, d', tk', os'⟩ := s'
  obtain rfl : g2 = s.gens := hm.gens
  obtain rfl : d' = s.drawn := hm.drawn
  obtain rfl : os' = s.os := hm.os
  refine hR h' tk' c' hS' fun b o e => ?_
  have q : b < s.heap.objs.size := Heap.lt_size e
  refine hm.heap b o (fun z => ?_) (Heap.get?_push_of_some _ (Heap.get?_push_of_some _ e))
  rcases List.mem_cons.mp z with z | z
  · exact absurd z (Nat.ne_of_lt q)
  · exact absurd (List.mem_singleton.mp z) (Nat.ne_of_lt (Nat.lt_succ_of_lt q))
/-- set(l), l a list of whole numbers -/
theorem set_of_list {l : Addr} {items : Array Value} (ns : List Int) {Q : Value → Shared → Prop} (hh : A.handled = none) (hl : s.heap.IsList l items) (hit : IntsAre items.toList ns) (hb : ns.length + 1 < scanBound)
    (hQ : ∀ (h' : Heap) (tk c : Nat), SetR w h' s.heap.objs.size (fun j => decide (j ∈ ns)) c → (∀ b o, s.heap.get? b = some o → h'.get? b = some o) → Q (.ref s.heap.objs.size) { s with heap := h', toks := tk }) :
    wpAny (model P w) A (call (.type "set") [.ref l]) Q E s := by
  obtain ⟨c0, t0, mro0⟩ := F.called_set.mro
  have made0 := F.called_set.made
  have sub0 := F.called_set.sub
  refine wpAny_call (codeAny_of_tree (show wpAny _ _ (callAny (.type "set") _) _ _ _ from wpAny_pure ⟨Code.quiet_builtin _ (by decide +kernel), codeAny_builtin F.entry_type_call ?_⟩))
  rw [Around.under_plain (weight_type_call_type "set" [.ref l] []) rfl]
  have nt := F.called_set.notType; have cc := F.called_set.canCreate; have tc := F.typeCall_set_1 (.ref l)
  repeat (any_goals (first | assumption | wp_step))
  refine codeAny_mono (code_set_led1 (.ref l) (E := E) (Q₁ := fun o s₁ => o = .ref s.heap.objs.size ∧ s₁ = { s with heap := s.heap.push (eset w) }) ⟨rfl, rfl⟩) fun r s₁ hr => ?_
  match r, hr with
  | .error e, hr => exact hr
  | .ok (.ret o), hr =>
    obtain ⟨rfl, rfl⟩ := hr
    have gS : (s.heap.push (eset w)).get? s.heap.objs.size = some (eset w) := Heap.get?_push_size _ rfl
    have tS : Shared.TypeIs { s with heap := s.heap.push (eset w) } (.ref s.heap.objs.size) "set" := ⟨_, gS, rfl⟩
    have il := F.called_set.init.lookup; have ib := F.called_set.init.bind (.ref s.heap.objs.size)
    repeat (any_goals (first | assumption | wp_step))
    refine codeAny_mono (codeAny_call_builtin (R := wants (fun r s₂ => r = .none ∧ ∃ h' tk c, s₂ = { s with heap := h', toks := tk } ∧ SetR w h' s.heap.objs.size (fun j => decide (j ∈ ns)) c ∧ (∀ b o, s.heap.get? b = some o → h'.get? b = some o)) E)
      F.called_set.init.plain F.entry_set_init (check_set_init_1 tS ?_)) fun r₂ s₂ hr₂ => ?_
    · obtain ⟨⟨lc, ld, lda, ls⟩, hol, hcl, nl, hdl⟩ := id hl
      simp only at hcl hdl
      subst hcl hdl
      have gl : (s.heap.push (eset w)).get? l = some { cls := .type "list", dict := ld, data := .seq items nl, slots := ls } := Heap.get?_push_of_some _ hol
      have s1 := F.sub_list_set; have s2 := F.sub_list_frozenset
      have nd : (Value.type "list" == Value.type "dict") = false := by decide
      unfold Builtin.«set.__init__» noKeywords Builtin.Frozenset.updateFrom
      generalize hPI : pyIter = PI
      wp_walk
      subst hPI
      refine wpAny_pyIter_list (hl.push _) ?_
      refine wpAny_bind (wpAny_runValue ?_)
      show codeAny _ _ (.builtin _ ⟨[_, .ref (s.heap.push (eset w)).objs.size], []⟩) _ _
      rw [show (s.heap.push (eset w)).objs.size = s.heap.objs.size + 1 from Heap.size_push ..]
      refine eset_fill (A := A.in1.in1) ns (by simp [hh]) hl hit hb fun h' tk c hS hk => ?_
      show wpAny _ _ (pure ()) _ _ _
      refine wpAny_pure ?_
      show wpAny _ _ (ret Value.none) _ _ _
      exact wpAny_pure ⟨rfl, h', tk, c, rfl, hS, hk⟩
    · match r₂, hr₂ with
      | .error e, h => exact h
      | .ok (.ret o), h =>
        obtain ⟨rfl, h', tk, c, rfl, hS, hk⟩ := h
        repeat (any_goals (first | assumption | wp_step))
        exact hQ _ _ _ hS hk
      | .ok .next, h | .ok .brk, h | .ok .cont, h => exact h.elim
/-- sorted of a set of whole numbers, however many -/
theorem sorted_of_set {a : Addr} {S : Int → Bool} {n : Nat} {Q : Value → Shared → Prop} (R : SetR w s.heap a S n) (hh : A.handled = none)
    (hQ : ∀ s' p (us : List Value) (c : Nat) (ns : List Int), (∀ b o, s.heap.get? b = some o → s'.heap.get? b = some o) → s'.gens = s.gens → s'.os = s.os → s.heap.objs.size ≤ p →
      s'.heap.get? p = some (seqObj "list" us.toArray c) → IntsAre us ns → ns.Pairwise (· < ·) → (∀ k, k ∈ ns ↔ S k = true) → us.length ≤ sizeLine → Q (.ref p) s') :
    wpAny (model P w) A (call (.builtin "sorted") [.ref a]) Q E s := by
  obtain ⟨o, es, ep, t, ho, hex, hd, g, nd, hm, hb, hf, hn, hr, hl⟩ := R
  refine Calls.call_function_entry PyProof.Rows.kind_sorted PyProof.Rows.plain_sorted PyProof.Rows.entry_sorted (PyProof.Rows.args_sorted1 _) ?_
  unfold Builtin.«sorted»
  refine wpAny_bind (m := checkCount "sorted" 1 1 _) (wpAny_pure (wpAny_bind (collect_set (A := A.in1) hh ⟨o, ho, hex.1, hd⟩ hf hb hr hl fun s1 vs k1 hz g1 o1 pm => ?_)))
  have ln : vs.length = es.size := by rw [pm.length_eq, List.length_map, Array.length_toList]
  have le : vs.length ≤ sizeLine := by rw [ln]; exact fits_of_scanBound hb
  have hI : IntsAre vs (vs.map SrtO.iv) := SrtO.ints_iv fun v hv => by
    obtain ⟨e, he, q⟩ := List.mem_map.mp (pm.mem_iff.mp hv)
    obtain ⟨k, tk, h1, _⟩ := g e he
    exact ⟨k, tk, q.symm.trans h1⟩
  have pk : (vs.map SrtO.iv).Perm (es.toList.map keyOf) := by
    have q := pm.map SrtO.iv
    rw [List.map_map] at q
    exact q
  refine wpAny_bind (wpAny_newList ?_ le)
  have hoL : (s1.heap.push (seqObj "list" vs.toArray 0)).get? s1.heap.objs.size = some (seqObj "list" vs.toArray 0) := Heap.get?_push_size _ rfl
  refine wpAny_bind (wpAny_holding (wpAny_call_entry PyProof.Rows.slot_list_sort ⟨_, hoL, rfl⟩ PyProof.Rows.entry_list_sort (SrtO.list_sort_ord SrtO.swo_int hoL le (fun h2 => SrtO.ints_sortable hI h2) fun out a1 a2 => ⟨_, rfl, ?_⟩) (PyProof.Rows.args_list_sort _)))
  obtain ⟨k1', k2', k3'⟩ := SrtO.ints_out hI a1 a2
  obtain ⟨c, hc⟩ := PyProof.Rows.sortedHeap_at (vs := vs) (out := out.toArray) hoL
  have pn : (out.map SrtO.iv).Perm (es.toList.map keyOf) := k2'.trans pk
  refine wpAny_pure ⟨_, rfl, hQ _ s1.heap.objs.size out c _ (fun b u e => ?_) g1 o1 hz hc k1' (lt_of_le_nodup _ k3' (pn.nodup_iff.mpr nd)) (fun k => by rw [pn.mem_iff, ← hm k]) (by rw [a2.perm.length_eq]; exact le)⟩
  have q := k1 b u e
  have lt := Heap.lt_size q
  exact (PyProof.Rows.sortedHeap_old (Nat.ne_of_lt lt) (by rw [PyProof.Rows.size_push']; exact Nat.lt_succ_of_lt lt)).trans (Heap.get?_push_of_some _ q)
end
section
variable {X : Cx} {x : Expr} {pos p p2 q : Pos}
def tSortSet (K : PySem.W.Frag) (ta : TE) : TE := fun σ H Q => ta σ H fun x H1 => ∃ (l : Addr) (ns : List Int), x = .ref l ∧ SqL K H1 l (ns.map V.int) ∧ ns.length ≤ 4000 ∧
  ∀ (r : Addr) (zs : List Int), zs.Pairwise (· < ·) → (∀ k, k ∈ zs ↔ k ∈ ns) → H1 r = none → Q (.ref r) (upd H1 r (.lst (zs.map V.int)))
theorem pe_sortSet {a : Expr} {ta : TE} (hc : X.calm = true) (hg : Gl X "sorted") (hm : X.mg "sorted" = none) (hg2 : Gl X "set") (hm2 : X.mg "set" = none) (ha : PE X a ta) (na : starEach [a] X.env = (false, eval a X.env) :: starEach [] X.env) :
    PE X (.Call (.Name "sorted" p) [.Call (.Name "set" p2) [a] [] q] [] pos) (tSortSet X.K ta) := by
  refine ⟨fun pins s σ H Q I h => ?_⟩
  refine PyProof.Rows.Call_ (ld_blt I hg hm PyProof.Rows.boot_sorted (PyProof.Rows.callWith_builtin1 (PyProof.Rows.args_cons ?_ rfl) rfl rfl))
  refine PyProof.Rows.Call_ (ld_blt I hg2 hm2 PyProof.Rows.boot_set (PyProof.Rows.callWith_type1 (PyProof.Rows.args_cons (thn (ha.run pins s σ H _ I h) fun v s1 ⟨x, H1, I1, r1, q1⟩ => PyProof.Rows.args_nil ?_) na) na rfl))
  obtain ⟨l, ns, rfl, hq, hl, q1⟩ := q1
  cases r1
  obtain ⟨its, rv, pl, hz⟩ := I1.list hq
  refine set_of_list ns (I1.ok.hd hc) pl.isList (by simpa using ints_of_vals rv) (by unfold scanBound; omega) fun h' tk c hS hk => PyProof.Rows.args_nil ?_
  have I2 : Inv X pins σ H1 { s1 with heap := h', toks := tk } := I1.kept hk
  refine sorted_of_set (s := { s1 with heap := h', toks := tk }) hS (I1.ok.hd hc) fun s' r us c' zs kk g1 o1 hp hr hi hs hm' hle => ?_
  have hz' : (zs.map V.int).length ≤ sizeLine := by
    have e := (vals_of_ints hi).length
    rw [e]; exact hle
  have nr : H1 r = none := I2.hok.fresh hp
  have lay : ObjOk X.prog X.w (upd H1 r (.lst (zs.map V.int))) s'.heap r (.lst (zs.map V.int)) := ⟨hz', us, c', vals_of_ints hi, hr⟩
  have J : Inv X pins σ (upd H1 r (.lst (zs.map V.int))) ⟨s'.heap, s'.gens, s'.drawn, s'.toks, s1.os⟩ :=
    I2.call (s := { s1 with heap := h', toks := tk }) (ch := []) (Un.laid kk hp nr) (I2.hok.laid kk hp lay) (by rw [g1]; exact I2.bare) fun _ z => nomatch z
  have es : s' = ⟨s'.heap, s'.gens, s'.drawn, s'.toks, s1.os⟩ := by
    obtain ⟨_, _, _, _, _⟩ := s'
    obtain rfl := o1
    rfl
  rw [es]
  exact ⟨.ref r, _, J, rfl, q1 r zs hs (fun k => by rw [hm', decide_eq_true_eq]) nr⟩
end
end PF

namespace PF
open PySem L2

abbrev D := PyData
abbrev Fg := PySem.W.Frag

/-! ### heaps that grow -/
theorem sqt_mono {K : Fg} {H H' : Hp} {a : Addr} {xs : List V} (e : Same H H') (h : SqT K H a xs) : SqT K H' a xs := by
  rcases h with (h | ⟨o, h⟩) | h
  · exact .inl (.inl (e _ _ h))
  · exact .inl (.inr ⟨o, e _ _ h⟩)
  · exact .inr h
mutual
theorem dp_mono {K : Fg} {H H' : Hp} (e : Same H H') : ∀ (d : D) {v : V}, Dp K H v d → Dp K H' v d
  | .none, _, h => by cases h; exact .non
  | .bool b, _, h => by cases h; exact .bl b
  | .int i, _, h => by cases h; exact .int i
  | .str x, _, h => by cases h; exact .str x
  | .list ds, _, h => by cases h with | lst hs ha => exact .lst (e.seq hs) (dpa_mono e ds ha)
  | .tuple ds, _, h => by cases h with | tup hs ha => exact .tup (sqt_mono e hs) (dpa_mono e ds ha)
  | .dict _, _, h => by cases h
theorem dpa_mono {K : Fg} {H H' : Hp} (e : Same H H') : ∀ (ds : List D) {vs : List V}, DpAll K H vs ds → DpAll K H' vs ds
  | [], _, h => by cases h; exact .nil
  | d :: ds, _, h => by cases h with | cons h1 h2 => exact .cons (dp_mono e d h1) (dpa_mono e ds h2)
end
/-- from the known part G of the heap H to G' of H': nothing is lost, and what is newly known is new -/
structure Grow (G H G' H' : Hp) : Prop where
  h : Same H H'
  g : Same G G'
  sub : Same G' H'
  new : ∀ a o, G' a = some o → G a = none → H a = none
theorem Grow.refl {G H : Hp} (s : Same G H) : Grow G H G H := ⟨Same.refl H, Same.refl G, s, fun a o h n => by rw [n] at h; cases h⟩
theorem Grow.trans {G H G1 H1 G2 H2 : Hp} (a : Grow G H G1 H1) (b : Grow G1 H1 G2 H2) : Grow G H G2 H2 :=
  ⟨a.h.trans b.h, a.g.trans b.g, b.sub, fun x o h n => by
    cases e : G1 x with
    | some u => exact a.new x u e n
    | none => exact a.h.free (b.new x o h e)⟩
/-- what is known stays hidden where it was hidden -/
theorem Grow.hid {G H G' H' : Hp} (a : Grow G H G' H') {x : Addr} {o : HO} (hG : G x = none) (hH : H x = some o) : G' x = none := by
  cases e : G' x with
  | none => rfl
  | some u => have := a.new x u e hG; rw [hH] at this; cases this

/-! ### what an expression comes to -/
inductive R where
  | val (d : D) | new (ds : List D) | args (ds : List D)
def R.d : R → D
  | .val d => d
  | .new ds => .list ds
  | .args ds => .tuple ds
def RRep (K : Fg) (Hb G H : Hp) : R → V → Prop
  | .val d, v => Dp K G v d
  | .new ds, v => ∃ a xs, v = .ref a ∧ H a = some (.lst xs) ∧ G a = none ∧ Hb a = none ∧ DpAll K G xs ds
  | .args _, _ => False
theorem same_up {G : Hp} {a : Addr} {o : HO} (n : G a = none) : Same G (upd G a o) := fun b u q => by rw [upd_ne (ne_of_none q n)]; exact q
theorem same_into {G H : Hp} {a : Addr} {o : HO} (s : Same G H) (h : H a = some o) : Same (upd G a o) H := fun b u q => by
  by_cases e : b = a
  · subst e; rw [upd_same] at q; cases q; exact h
  · rw [upd_ne e] at q; exact s b u q
/-- a result as a value that is known -/
theorem RRep.frz {K : Fg} {G H G' H' : Hp} {r : R} {v : V} (g : Grow G H G' H') (h : RRep K H G' H' r v) : ∃ G2, Grow G H G2 H' ∧ Same G' G2 ∧ Dp K G2 v r.d := by
  cases r with
  | val d => exact ⟨G', g, Same.refl _, h⟩
  | args ds => exact h.elim
  | new ds =>
    obtain ⟨a, xs, rfl, hH, hG, hb, hd⟩ := h
    have s1 : Same G' (upd G' a (.lst xs)) := same_up hG
    refine ⟨upd G' a (.lst xs), ⟨g.h, g.g.trans s1, same_into g.sub hH, fun b o q n => ?_⟩, s1, .lst (.of upd_same) (dpa_mono s1 ds hd)⟩
    by_cases e : b = a
    · rw [e]; exact hb
    · rw [upd_ne e] at q; exact g.new b o q n

/-! ### slots -/
inductive Sl where
  | un | val (d : D) | own (ds : List D)
structure EnvR (K : Fg) (ρ : List Sl) (G : Hp) (σ : L2.St) (H : Hp) : Prop where
  len : σ.length = ρ.length
  sub : Same G H
  val : ∀ (i : Nat) (d : D), ρ[i]? = some (Sl.val d) → ∃ v, σ[i]? = some (some v) ∧ Dp K G v d
  own : ∀ (i : Nat) (ds : List D), ρ[i]? = some (Sl.own ds) → ∃ a xs, σ[i]? = some (some (.ref a)) ∧ H a = some (.lst xs) ∧ G a = none ∧ DpAll K G xs ds
  sep : ∀ (i j : Nat) (a : Addr) (ds es : List D), i ≠ j → ρ[i]? = some (Sl.own ds) → ρ[j]? = some (Sl.own es) → σ[i]? = some (some (.ref a)) → σ[j]? = some (some (.ref a)) → False
theorem EnvR.grow {K : Fg} {ρ : List Sl} {G H G' H' : Hp} {σ : L2.St} (e : EnvR K ρ G σ H) (g : Grow G H G' H') : EnvR K ρ G' σ H' :=
  ⟨e.len, g.sub, fun i d h => let ⟨v, h1, h2⟩ := e.val i d h; ⟨v, h1, dp_mono g.g d h2⟩,
   fun i ds h => let ⟨a, xs, h1, h2, h3, h4⟩ := e.own i ds h; ⟨a, xs, h1, g.h _ _ h2, g.hid h3 h2, dpa_mono g.g ds h4⟩, e.sep⟩

/-! ### the small language -/
inductive BOp where | add | sub | mul | fdiv | mod | pow | shl | shr | band | bor | bxor
  deriving DecidableEq
inductive COp where | eq | ne | lt | le | gt | ge | isin | notin
  deriving DecidableEq
inductive Bf where | len | list | tuple | int | abs | sum | min2 | max2
  deriving DecidableEq
inductive Ty where | int | bool | str | list | tuple
  deriving DecidableEq
inductive Tg where | one (i : Nat) | many (is : List Nat)
inductive E where
  | var (i : Nat) | int (i : Int) | bl (b : Bool) | str (x : Str) | non | con (j : Nat)
  | bin (op : BOp) (a b : E) | neg (a : E)
  | cmp (op : COp) (a b : E)
  | and_ (a b : E) | or_ (a b : E) | one (a : E) | not_ (a : E) | ite (c a b : E)
  | tup (es : E) | lst (es : E) | enil | econs (a r : E)
  | ix (a i : E) | sl (a lo hi : E) | nop | yes
  | call (j : Nat) (args : E)
  | blt (f : Bf) (args : E)
  | isi (a : E) (t : Ty)
  | mix (o x : E) | join (o x : E)
  | comp (own : List (Str × Nat)) (tg : Tg) (it c elt : E)
  | rng1 (a : E) | rng2 (a b : E)
  | sset (a : E) | lrg1 (a : E) | lrg2 (a b : E) | enm (a : E)
  | lend (i : Nat) (e : E)

structure FEntry where
  name : Str
  ps : List Str
  sp : List D → (R → Prop) → Prop
structure Tb where
  N : List Str
  φ : List FEntry
  κ : List (Str × D)
  bn : List Str
  k : Nat

/-- what the check against the text looks at -/
structure Ts where
  N : List Str
  fn : List Str
  kn : List Str
  bn : List Str
def Tb.st (Θ : Tb) : Ts := ⟨Θ.N, Θ.φ.map (·.name), Θ.κ.map (·.1), Θ.bn⟩

/-! ### what an expression of the small language means -/
def binW : BOp → D → D → (R → Prop) → Prop
  | .add, .int i, .int j, Φ => Φ (.val (.int (i + j)))
  | .add, .str a, .str b, Φ => a.length + b.length ≤ sizeLine ∧ Φ (.val (.str (a ++ b)))
  | .add, .list a, .list b, Φ => a.length + b.length ≤ sizeLine ∧ Φ (.new (a ++ b))
  | .sub, .int i, .int j, Φ => Φ (.val (.int (i - j)))
  | .mul, .int i, .int j, Φ => CMul i j ∧ Φ (.val (.int (i * j)))
  | .fdiv, .int i, .int j, Φ => CDiv i j ∧ Φ (.val (.int (i / j)))
  | .mod, .int i, .int j, Φ => 0 < j ∧ Φ (.val (.int (i % j)))
  | .pow, .int i, .int j, Φ => CPow i j ∧ Φ (.val (.int (i ^ j.toNat)))
  | .shl, .int i, .int j, Φ => CPow i j ∧ Φ (.val (.int (i * 2 ^ j.toNat)))
  | .shr, .int i, .int j, Φ => 0 ≤ j ∧ Φ (.val (.int (i / 2 ^ j.toNat)))
  | .band, .int i, .int j, Φ => Φ (.val (.int (Builtin.bitAnd i j)))
  | .bor, .int i, .int j, Φ => Φ (.val (.int (Builtin.bitOr i j)))
  | .bxor, .int i, .int j, Φ => Φ (.val (.int (Builtin.bitXor i j)))
  | _, _, _, _ => False
def cmpW : COp → D → D → (R → Prop) → Prop
  | .eq, x, y, Φ => SeqAt.shaped x = true ∧ SeqAt.shaped y = true ∧ Φ (.val (.bool (PyData.eqv x y)))
  | .ne, x, y, Φ => SeqAt.shaped x = true ∧ SeqAt.shaped y = true ∧ Φ (.val (.bool (!PyData.eqv x y)))
  | .lt, .int i, .int j, Φ => Φ (.val (.bool (decide (i < j))))
  | .le, .int i, .int j, Φ => Φ (.val (.bool (decide (i ≤ j))))
  | .gt, .int i, .int j, Φ => Φ (.val (.bool (decide (j < i))))
  | .ge, .int i, .int j, Φ => Φ (.val (.bool (decide (j ≤ i))))
  | .isin, x, .list ds, Φ => SeqAt.shaped x = true ∧ SeqAt.shaped (.list ds) = true ∧ Φ (.val (.bool (ds.any fun z => PyData.eqv z x)))
  | .notin, x, .list ds, Φ => SeqAt.shaped x = true ∧ SeqAt.shaped (.list ds) = true ∧ Φ (.val (.bool (!ds.any fun z => PyData.eqv z x)))
  | _, _, _, _ => False
def ixW : D → D → (R → Prop) → Prop
  | .list xs, .int i, Φ => ∃ d, atI xs i = some d ∧ Φ (.val d)
  | .tuple xs, .int i, Φ => ∃ d, atI xs i = some d ∧ Φ (.val d)
  | .str z, .int i, Φ => z.length ≤ sizeLine ∧ ∃ c, atI z.cps.toList i = some c ∧ Φ (.val (.str ⟨#[c]⟩))
  | _, _, _ => False
def cutD (xs : List D) (lo hi : Option Int) : List D := (xs.drop (HT.sIx xs.length 0 lo)).take (HT.sIx xs.length xs.length hi - HT.sIx xs.length 0 lo)
def slW : D → Option Int → Option Int → (R → Prop) → Prop
  | .list xs, lo, hi, Φ => Φ (.new (cutD xs lo hi))
  | .tuple xs, lo, hi, Φ => ¬ (HT.sIx xs.length 0 lo = 0 ∧ HT.sIx xs.length xs.length hi = xs.length) ∧ Φ (.val (.tuple (cutD xs lo hi)))
  | _, _, _, _ => False
def partW : R → (Option Int → Prop) → Prop
  | .args [], Φ => Φ none
  | .val (.int i), Φ => Φ (some i)
  | _, _ => False
def lenW : List D → (R → Prop) → Prop
  | [.list xs], Φ => Φ (.val (.int xs.length))
  | [.tuple xs], Φ => Φ (.val (.int xs.length))
  | [.str z], Φ => z.length ≤ sizeLine ∧ Φ (.val (.int z.length))
  | _, _ => False
def listW : List D → (R → Prop) → Prop
  | [.list xs], Φ => Φ (.new xs)
  | [.tuple xs], Φ => Φ (.new xs)
  | _, _ => False
def tupleW : List D → (R → Prop) → Prop
  | [.list xs], Φ => Φ (.val (.tuple xs))
  | [.tuple xs], Φ => Φ (.val (.tuple xs))
  | _, _ => False
def intW : List D → (R → Prop) → Prop
  | [.int i], Φ => Φ (.val (.int i))
  | [.bool b], Φ => Φ (.val (.int (if b then 1 else 0)))
  | _, _ => False
def absW : List D → (R → Prop) → Prop
  | [.int i], Φ => Φ (.val (.int (if i < 0 then -i else i)))
  | _, _ => False
def min2W : List D → (R → Prop) → Prop
  | [.int i, .int j], Φ => Φ (.val (.int (if j < i then j else i)))
  | _, _ => False
def max2W : List D → (R → Prop) → Prop
  | [.int i, .int j], Φ => Φ (.val (.int (if j > i then j else i)))
  | _, _ => False
def bltW : Bf → List D → (R → Prop) → Prop
  | .len => lenW | .list => listW | .tuple => tupleW | .int => intW | .abs => absW | .sum => fun _ _ => False | .min2 => min2W | .max2 => max2W
def isTy : D → Ty → Option Bool
  | .none, _ => some false
  | .bool _, .bool => some true
  | .bool _, .int => some true
  | .bool _, _ => some false
  | .int _, .int => some true
  | .int _, _ => some false
  | .str _, .str => some true
  | .str _, _ => some false
  | .list _, .list => some true
  | .list _, _ => some false
  | .tuple _, .tuple => some true
  | .tuple _, _ => some false
  | .dict _, _ => none
def mixW : D → D → (R → Prop) → Prop
  | .list ds, d, Φ => SeqAt.shaped (.list ds) = true ∧ SeqAt.shaped d = true ∧ ∃ j z, ds[j]? = some z ∧ PyData.eqv z d = true ∧ (∀ (m : Nat) (z' : PyData), m < j → ds[m]? = some z' → PyData.eqv z' d = false) ∧ Φ (.val (.int (j : Nat)))
  | _, _, _ => False
def strsOf : List D → Option (List Str)
  | [] => some []
  | .str x :: r => (strsOf r).map (x :: ·)
  | _ => none
def joinW : D → D → (R → Prop) → Prop
  | .str a, .list ds, Φ => ∃ ys, strsOf ds = some ys ∧ (ys.map (·.length)).sum + ys.length * a.length ≤ 16777216 ∧ Φ (.val (.str (Txt.join a ys)))
  | .str a, .tuple ds, Φ => ∃ ys, strsOf ds = some ys ∧ (ys.map (·.length)).sum + ys.length * a.length ≤ 16777216 ∧ Φ (.val (.str (Txt.join a ys)))
  | _, _, _ => False
/-- what a loop goes over -/
def itemsOf : R → Option (List D)
  | .val (.list xs) => some xs
  | .val (.tuple xs) => some xs
  | .new xs => some xs
  | _ => none
def itemsW (r : R) (Φ : List D → Prop) : Prop := ∃ xs, itemsOf r = some xs ∧ Φ xs
def rngL (lo : Int) (n : Nat) : List D := (List.range n).map fun (i : Nat) => .int (lo + (i : Int))
def rng1W : D → (R → Prop) → Prop
  | .int j, Φ => (-(2 ^ 62) ≤ j ∧ j < 2 ^ 62) ∧ Φ (.new (rngL 0 j.toNat))
  | _, _ => False
def rng2W : D → D → (R → Prop) → Prop
  | .int i, .int j, Φ => (-(2 ^ 62) ≤ i ∧ i < 2 ^ 62 ∧ -(2 ^ 62) ≤ j ∧ j < 2 ^ 62) ∧ Φ (.new (rngL i (j - i).toNat))
  | _, _, _ => False
def intsOf : List D → Option (List Int)
  | [] => some []
  | .int i :: r => (intsOf r).map (i :: ·)
  | _ => none
/-- sorted(set(..)) of whole numbers -/
def ssetW : D → (R → Prop) → Prop
  | .list ds, Φ => ∃ ns, intsOf ds = some ns ∧ ns.length ≤ 4000 ∧ ∀ zs : List Int, zs.Pairwise (· < ·) → (∀ k, k ∈ zs ↔ k ∈ ns) → Φ (.new (zs.map .int))
  | _, _ => False
def lrg1W : D → (R → Prop) → Prop
  | .int j, Φ => (0 ≤ j ∧ j ≤ 16777216) ∧ Φ (.new (rngL 0 j.toNat))
  | _, _ => False
def lrg2W : D → D → (R → Prop) → Prop
  | .int i, .int j, Φ => (0 ≤ i ∧ i ≤ 16777216 ∧ 0 ≤ j ∧ j ≤ 16777216) ∧ Φ (.new (rngL i (j - i).toNat))
  | _, _, _ => False
def enmL (xs : List D) : List D := (List.range xs.length).map fun i => .tuple [.int (i : Nat), xs.getD i .none]
def enmW : D → (R → Prop) → Prop
  | .list xs, Φ => Φ (.new (enmL xs))
  | _, _ => False
def setMany : List Sl → List Nat → List D → Option (List Sl)
  | ρ, [], [] => some ρ
  | ρ, i :: is, d :: ds => setMany (ρ.set i (.val d)) is ds
  | _, _, _ => none
def bindT : Tg → List Sl → D → Option (List Sl)
  | .one i, ρ, d => some (ρ.set i (.val d))
  | .many is, ρ, .tuple ds => setMany ρ is ds
  | _, _, _ => none
def wipeR (ρ : List Sl) : List Nat → List Sl
  | [] => ρ
  | v :: vs => (wipeR ρ vs).set v .un
def bindW (tg : Tg) (ρ : List Sl) (x : D) (k : List Sl → Prop) : Prop := ∃ ρ', bindT tg ρ x = some ρ' ∧ k ρ'
def boolW (a b : Prop) : R → Prop
  | .val (.bool true) => a
  | .val (.bool false) => b
  | _ => False
def onB (Φ : R → Prop) : R → Prop
  | .val (.bool b) => Φ (.val (.bool b))
  | _ => False
def notW (Φ : R → Prop) : R → Prop
  | .val (.bool b) => Φ (.val (.bool (!b)))
  | _ => False
def compW (b : D → (List Sl → Prop) → Prop) (c : List Sl → (R → Prop) → Prop) (f : List Sl → (R → Prop) → Prop) : List D → List D → (R → Prop) → Prop
  | [], acc, Φ => Φ (.new acc)
  | x :: r, acc, Φ => b x fun ρ => c ρ (boolW (f ρ fun y => acc.length < sizeLine ∧ compW b c f r (acc ++ [y.d]) Φ) (compW b c f r acc Φ))
def scalar : R → Bool
  | .val .none | .val (.bool _) | .val (.int _) | .val (.str _) => true
  | _ => false

def wpE (Θ : Tb) : E → List Sl → (R → Prop) → Prop
  | .var i, ρ, Φ => match ρ[i]? with
    | some (.val d) => Φ (.val d)
    | _ => False
  | .int i, _, Φ => Φ (.val (.int i))
  | .bl b, _, Φ => Φ (.val (.bool b))
  | .str x, _, Φ => Φ (.val (.str x))
  | .non, _, Φ => Φ (.val .none)
  | .con j, _, Φ => match Θ.κ[j]? with
    | some p => Φ (.val p.2)
    | none => False
  | .bin op a b, ρ, Φ => wpE Θ a ρ fun x => wpE Θ b ρ fun y => binW op x.d y.d Φ
  | .neg a, ρ, Φ => wpE Θ a ρ fun x => match x.d with
    | .int i => Φ (.val (.int (-i)))
    | _ => False
  | .cmp op a b, ρ, Φ => wpE Θ a ρ fun x => wpE Θ b ρ fun y => cmpW op x.d y.d Φ
  | .and_ a b, ρ, Φ => wpE Θ a ρ (boolW (wpE Θ b ρ (onB Φ)) (Φ (.val (.bool false))))
  | .or_ a b, ρ, Φ => wpE Θ a ρ (boolW (Φ (.val (.bool true))) (wpE Θ b ρ (onB Φ)))
  | .one a, ρ, Φ => wpE Θ a ρ Φ
  | .not_ a, ρ, Φ => wpE Θ a ρ (notW Φ)
  | .ite c a b, ρ, Φ => wpE Θ c ρ (boolW (wpE Θ a ρ Φ) (wpE Θ b ρ Φ))
  | .tup es, ρ, Φ => wpE Θ es ρ fun x => match x with
    | .args ds => ds.length ≤ sizeLine ∧ Φ (.val (.tuple ds))
    | _ => False
  | .lst es, ρ, Φ => wpE Θ es ρ fun x => match x with
    | .args ds => ds.length ≤ sizeLine ∧ Φ (.new ds)
    | _ => False
  | .enil, _, Φ => Φ (.args [])
  | .econs a r, ρ, Φ => wpE Θ a ρ fun x => wpE Θ r ρ fun y => match y with
    | .args ds => Φ (.args (x.d :: ds))
    | _ => False
  | .ix a i, ρ, Φ => wpE Θ a ρ fun x => wpE Θ i ρ fun y => ixW x.d y.d Φ
  | .sl a lo hi, ρ, Φ => wpE Θ a ρ fun x => wpE Θ lo ρ fun l => partW l fun l => wpE Θ hi ρ fun h => partW h fun h => slW x.d l h Φ
  | .nop, _, Φ => Φ (.args [])
  | .yes, _, Φ => Φ (.val (.bool true))
  | .call j es, ρ, Φ => wpE Θ es ρ fun x => match x, Θ.φ[j]? with
    | .args ds, some fe => fe.sp ds Φ
    | _, _ => False
  | .blt f es, ρ, Φ => wpE Θ es ρ fun x => match x with
    | .args ds => bltW f ds Φ
    | _ => False
  | .isi a t, ρ, Φ => wpE Θ a ρ fun x => match isTy x.d t with
    | some b => Φ (.val (.bool b))
    | none => False
  | .mix o x, ρ, Φ => wpE Θ o ρ fun a => match a.d with
    | .list ds => wpE Θ x ρ fun b => mixW (.list ds) b.d Φ
    | _ => False
  | .join o x, ρ, Φ => wpE Θ o ρ fun a => match a.d with
    | .str z => wpE Θ x ρ fun b => joinW (.str z) b.d Φ
    | _ => False
  | .comp own tg it c elt, ρ, Φ => wpE Θ it ρ fun r => itemsW r fun xs =>
      compW (bindW tg (wipeR ρ (own.map (·.2)))) (fun ρ' k => wpE Θ c ρ' k) (fun ρ' k => wpE Θ elt ρ' k) xs [] Φ
  | .rng1 a, ρ, Φ => wpE Θ a ρ fun x => rng1W x.d Φ
  | .rng2 a b, ρ, Φ => wpE Θ a ρ fun x => wpE Θ b ρ fun y => rng2W x.d y.d Φ
  | .sset a, ρ, Φ => wpE Θ a ρ fun x => ssetW x.d Φ
  | .lrg1 a, ρ, Φ => wpE Θ a ρ fun x => lrg1W x.d Φ
  | .lrg2 a b, ρ, Φ => wpE Θ a ρ fun x => wpE Θ b ρ fun y => lrg2W x.d y.d Φ
  | .enm a, ρ, Φ => wpE Θ a ρ fun x => enmW x.d Φ
  | .lend i e, ρ, Φ => match ρ[i]? with
    | some (.own ds) => wpE Θ e (ρ.set i (.val (.list ds))) fun r => scalar r = true ∧ Φ r
    | _ => False
end PF

namespace PF
open PySem L2

/-- what may follow -/
def Out (K : Fg) (G H : Hp) (Φ : R → Prop) (Q : VK) : Prop := ∀ r v G' H', Φ r → Grow G H G' H' → RRep K H G' H' r v → Q v H'
section
variable {K : Fg} {G H G' H' : Hp} {Φ : R → Prop} {Q : VK}
/-- a value that needs no object -/
theorem Out.sc {d : D} {v : V} (o : Out K G H Φ Q) (s : Same G H) (h : Φ (.val d)) (hv : Dp K G v d) : Q v H := o _ _ G H h (.refl s) hv
theorem grow_tup {p : Addr} {o : HO} (s : Same G H) (n : H p = none) : Grow G H (upd G p o) (upd H p o) := by
  have nG : G p = none := s.free n
  refine ⟨same_up n, same_up nG, fun b u q => ?_, fun b u q m => ?_⟩
  · by_cases e : b = p
    · subst e; rw [upd_same] at q ⊢; exact q
    · rw [upd_ne e] at q ⊢; exact s b u q
  · by_cases e : b = p
    · rw [e]; exact n
    · rw [upd_ne e] at q; rw [m] at q; cases q
theorem grow_hid {p : Addr} {o : HO} (s : Same G H) (n : H p = none) : Grow G H G (upd H p o) :=
  ⟨same_up n, Same.refl G, s.trans (same_up n), fun b u q m => by rw [m] at q; cases q⟩
/-- a new list -/
theorem Out.nl {ds : List D} {xs : List V} (o : Out K G H Φ Q) (s : Same G H) (h : Φ (.new ds)) (hx : DpAll K G xs ds) : ∀ p, H p = none → Q (.ref p) (upd H p (.lst xs)) := fun p n =>
  o _ _ G _ h (grow_hid s n) ⟨p, xs, rfl, upd_same, s.free n, n, hx⟩
/-- a new tuple -/
theorem Out.nt {ds : List D} {xs : List V} (o : Out K G H Φ Q) (s : Same G H) (h : Φ (.val (.tuple ds))) (hx : DpAll K G xs ds) : ∀ p, H p = none → Q (.ref p) (upd H p (.tup xs)) := fun p n =>
  o _ _ _ _ h (grow_tup s n) (.tup (.inl (.inl upd_same)) (dpa_mono (same_up (s.free n)) ds hx))
theorem Out.step {G1 H1 : Hp} (o : Out K G H Φ Q) (g : Grow G H G1 H1) : Out K G1 H1 Φ Q := fun r v G' H' hr g' rr => o r v G' H' hr (g.trans g') (by
  cases r with
  | val d => exact rr
  | args ds => exact rr
  | new ds =>
    obtain ⟨a, xs, e, h1, h2, h3, h4⟩ := rr
    exact ⟨a, xs, e, h1, h2, g.h.free h3, h4⟩)
end
theorem dpa_len {K : Fg} {H : Hp} : ∀ {vs : List V} {ds : List D}, DpAll K H vs ds → vs.length = ds.length
  | _, _, .nil => rfl
  | _, _, .cons _ h => by rw [List.length_cons, List.length_cons, dpa_len h]
theorem dpa_app {K : Fg} {H : Hp} : ∀ {vs ws : List V} {ds es : List D}, DpAll K H vs ds → DpAll K H ws es → DpAll K H (vs ++ ws) (ds ++ es)
  | _, _, _, _, .nil, h => h
  | _, _, _, _, .cons a b, h => .cons a (dpa_app b h)
theorem dpa_drop {K : Fg} {H : Hp} : ∀ (n : Nat) {vs : List V} {ds : List D}, DpAll K H vs ds → DpAll K H (vs.drop n) (ds.drop n)
  | 0, _, _, h => h
  | _ + 1, _, _, .nil => .nil
  | n + 1, _, _, .cons _ h => dpa_drop n h
theorem dpa_take {K : Fg} {H : Hp} : ∀ (n : Nat) {vs : List V} {ds : List D}, DpAll K H vs ds → DpAll K H (vs.take n) (ds.take n)
  | 0, _, _, _ => .nil
  | _ + 1, _, _, .nil => .nil
  | n + 1, _, _, .cons a h => .cons a (dpa_take n h)
theorem dpa_get {K : Fg} {H : Hp} : ∀ {vs : List V} {ds : List D} {n : Nat} {d : D}, DpAll K H vs ds → ds[n]? = some d → ∃ v, vs[n]? = some v ∧ Dp K H v d
  | _, _, n, _, .nil, h => by simp at h
  | _, _, 0, _, .cons a _, h => by simp at h; subst h; exact ⟨_, rfl, a⟩
  | _, _, n + 1, d, .cons _ b, h => by
    obtain ⟨v, h1, h2⟩ := dpa_get (n := n) (d := d) b (by simpa using h)
    exact ⟨v, by simpa using h1, h2⟩
theorem dpa_atI {K : Fg} {H : Hp} {vs : List V} {ds : List D} {i : Int} {d : D} (h : DpAll K H vs ds) (e : atI ds i = some d) : ∃ v, atI vs i = some v ∧ Dp K H v d := by
  unfold atI at e ⊢
  rw [← dpa_len h] at e
  cases q : ixN vs.length i with
  | none => rw [q] at e; cases e
  | some j => rw [q] at e; exact dpa_get (n := j) h e
theorem dpa_strs {K : Fg} {H : Hp} : ∀ {ds : List D} {vs : List V} {ys : List Str}, DpAll K H vs ds → strsOf ds = some ys → vs = ys.map V.str
  | [], _, _, .nil, h => by simp only [strsOf, Option.some.injEq] at h; subst h; rfl
  | .str x :: r, _, ys, .cons a b, h => by
    cases a
    simp only [strsOf] at h
    cases e : strsOf r with
    | none => rw [e] at h; cases h
    | some zs =>
      rw [e] at h
      cases h
      rw [List.map_cons, dpa_strs b e]
  | .none :: _, _, _, _, h => by simp [strsOf] at h
  | .bool _ :: _, _, _, _, h => by simp [strsOf] at h
  | .int _ :: _, _, _, _, h => by simp [strsOf] at h
  | .list _ :: _, _, _, _, h => by simp [strsOf] at h
  | .tuple _ :: _, _, _, _, h => by simp [strsOf] at h
  | .dict _ :: _, _, _, _, h => by simp [strsOf] at h

/-! ### two-place operations -/
def bop : BOp → Operator
  | .add => .Add | .sub => .Sub | .mul => .Mult | .fdiv => .FloorDiv | .mod => .Mod | .pow => .Pow | .shl => .LShift | .shr => .RShift | .band => .BitAnd | .bor => .BitOr | .bxor => .BitXor
def cop : COp → CmpOp
  | .eq => .Eq | .ne => .NotEq | .lt => .Lt | .le => .LtE | .gt => .Gt | .ge => .GtE | .isin => .In | .notin => .NotIn
/-- list + list, any two -/
def rCatL (K : Fg) : R2 := fun x y H Q => ∃ l b xs zs, x = .ref l ∧ y = .ref b ∧ SqL K H l xs ∧ SqL K H b zs ∧ xs.length + zs.length ≤ sizeLine ∧ ∀ p, H p = none → Q (.ref p) (upd H p (.lst (xs ++ zs)))
theorem op_catL {X : Cx} : OpR X (binaryOp .Add) (rCatL X.K) := by
  intro pins s σ H x y v u Q I rx ry h
  obtain ⟨l, b, xs, zs, rfl, rfl, hH, hB, hz, q⟩ := h
  cases rx
  cases ry
  obtain ⟨its, r, p, _⟩ := I.list hH
  obtain ⟨its2, r2, p2, _⟩ := I.list hB
  obtain ⟨⟨cls, dd, data, sl⟩, ho, hc, n, hd⟩ := p.isList
  obtain ⟨⟨cls2, dd2, data2, sl2⟩, ho2, hc2, n2, hd2⟩ := p2.isList
  simp only at hc hd hc2 hd2
  subst hc hd hc2 hd2
  have e : its.toArray ++ its2.toArray = (its ++ its2).toArray := by simp
  have h1 := r.length
  have h2 := r2.length
  refine concat_meets ⟨_, ho, rfl⟩ ⟨_, ho2, rfl⟩ noFill_list_add PySem.seq_list_add PySem.F.slot_list_add PySem.F.entry_list_add (PySem.F.args_list_add_2 _ _) (PyProof.Rows.list_addW l b its.toArray its2.toArray n n2 dd dd2 sl sl2 (by simp; omega)) ⟨ho, ho2, ?_⟩
  rw [e]
  exact ⟨.ref _, _, I.lnew (t' := s.toks) (r.append r2) (by rw [List.length_append]; omega), rfl, q _ I.fresh⟩

/-- an operation on values does what W says of data -/
def OpOk (K : Fg) (r : R2) (W : D → D → (R → Prop) → Prop) : Prop := ∀ x y G H a b Φ Q, Same G H → Dp K G x a → Dp K G y b → W a b Φ → Out K G H Φ Q → r x y H Q
theorem bin_ok {X : Cx} (op : BOp) : ∃ r, OpR X (binaryOp (bop op)) r ∧ OpOk X.K r (binW op) := by
  cases op with
  | add =>
    refine ⟨_, op_add.or (op_add_str.or op_catL), fun x y G H a b Φ Q s hx hy h o => ?_⟩
    cases hx <;> cases hy <;> try exact h.elim
    · exact .inl ⟨_, _, rfl, rfl, o.sc s h (.int _)⟩
    · exact .inr (.inl ⟨_, _, rfl, rfl, h.1, o.sc s h.2 (.str _)⟩)
    · rename_i h1 h2 _ _ _ h3 h4
      exact .inr (.inr ⟨_, _, _, _, rfl, rfl, s.seq h1, s.seq h3, by rw [dpa_len h2, dpa_len h4]; exact h.1, o.nl s h.2 (dpa_app h2 h4)⟩)
  | sub => exact ⟨_, op_sub, fun x y G H a b Φ Q s hx hy h o => by cases hx <;> cases hy <;> first | exact h.elim | exact ⟨_, _, rfl, rfl, o.sc s h (.int _)⟩⟩
  | mul => exact ⟨_, op_mul, fun x y G H a b Φ Q s hx hy h o => by cases hx <;> cases hy <;> first | exact h.elim | exact ⟨_, _, rfl, rfl, h.1, o.sc s h.2 (.int _)⟩⟩
  | fdiv => exact ⟨_, op_fdiv, fun x y G H a b Φ Q s hx hy h o => by cases hx <;> cases hy <;> first | exact h.elim | exact ⟨_, _, rfl, rfl, h.1, o.sc s h.2 (.int _)⟩⟩
  | mod => exact ⟨_, op_mod, fun x y G H a b Φ Q s hx hy h o => by cases hx <;> cases hy <;> first | exact h.elim | exact ⟨_, _, rfl, rfl, h.1, o.sc s h.2 (.int _)⟩⟩
  | pow => exact ⟨_, op_pow, fun x y G H a b Φ Q s hx hy h o => by cases hx <;> cases hy <;> first | exact h.elim | exact ⟨_, _, rfl, rfl, h.1, o.sc s h.2 (.int _)⟩⟩
  | shl => exact ⟨_, op_shl, fun x y G H a b Φ Q s hx hy h o => by cases hx <;> cases hy <;> first | exact h.elim | exact ⟨_, _, rfl, rfl, h.1, o.sc s h.2 (.int _)⟩⟩
  | shr => exact ⟨_, op_shr, fun x y G H a b Φ Q s hx hy h o => by cases hx <;> cases hy <;> first | exact h.elim | exact ⟨_, _, rfl, rfl, h.1, o.sc s h.2 (.int _)⟩⟩
  | band => exact ⟨_, op_and, fun x y G H a b Φ Q s hx hy h o => by cases hx <;> cases hy <;> first | exact h.elim | exact ⟨_, _, rfl, rfl, o.sc s h (.int _)⟩⟩
  | bor => exact ⟨_, op_or, fun x y G H a b Φ Q s hx hy h o => by cases hx <;> cases hy <;> first | exact h.elim | exact ⟨_, _, rfl, rfl, o.sc s h (.int _)⟩⟩
  | bxor => exact ⟨_, op_xor, fun x y G H a b Φ Q s hx hy h o => by cases hx <;> cases hy <;> first | exact h.elim | exact ⟨_, _, rfl, rfl, o.sc s h (.int _)⟩⟩
theorem dp_up {K : Fg} {G H : Hp} {v : V} {d : D} (s : Same G H) (h : Dp K G v d) : Dp K H v d := dp_mono s d h
theorem cmp_ok {X : Cx} (hu : X.A.units + 65 < cLine) (op : COp) : ∃ r, OpR X (compareOp (cop op)) r ∧ OpOk X.K r (cmpW op) := by
  cases op with
  | eq => exact ⟨_, op_eqD (by omega), fun x y G H a b Φ Q s hx hy h o => ⟨a, b, dp_up s hx, dp_up s hy, h.1, h.2.1, o.sc s h.2.2 (.bl _)⟩⟩
  | ne => exact ⟨_, op_neD (by omega), fun x y G H a b Φ Q s hx hy h o => ⟨a, b, dp_up s hx, dp_up s hy, h.1, h.2.1, o.sc s h.2.2 (.bl _)⟩⟩
  | lt => exact ⟨_, op_lt, fun x y G H a b Φ Q s hx hy h o => by cases hx <;> cases hy <;> first | exact h.elim | exact ⟨_, _, rfl, rfl, o.sc s h (.bl _)⟩⟩
  | le => exact ⟨_, op_le, fun x y G H a b Φ Q s hx hy h o => by cases hx <;> cases hy <;> first | exact h.elim | exact ⟨_, _, rfl, rfl, o.sc s h (.bl _)⟩⟩
  | gt => exact ⟨_, op_gt, fun x y G H a b Φ Q s hx hy h o => by cases hx <;> cases hy <;> first | exact h.elim | exact ⟨_, _, rfl, rfl, o.sc s h (.bl _)⟩⟩
  | ge => exact ⟨_, op_ge, fun x y G H a b Φ Q s hx hy h o => by cases hx <;> cases hy <;> first | exact h.elim | exact ⟨_, _, rfl, rfl, o.sc s h (.bl _)⟩⟩
  | isin => exact ⟨_, op_inD hu, fun x y G H a b Φ Q s hx hy h o => by
      cases hy <;> first | (cases a <;> exact h.elim) | (rename_i h1 h2; exact ⟨a, _, dp_up s hx, dp_up s (.lst h1 h2), h.1, h.2.1, o.sc s h.2.2 (.bl _)⟩)⟩
  | notin => exact ⟨_, op_notInD hu, fun x y G H a b Φ Q s hx hy h o => by
      cases hy <;> first | (cases a <;> exact h.elim) | (rename_i h1 h2; exact ⟨a, _, dp_up s hx, dp_up s (.lst h1 h2), h.1, h.2.1, o.sc s h.2.2 (.bl _)⟩)⟩
theorem ix_ok {X : Cx} : ∃ r, IxR X r ∧ OpOk X.K r ixW := by
  refine ⟨_, ix_list.or (ix_tup.or ix_str), fun x y G H a b Φ Q s hx hy h o => ?_⟩
  cases hx <;> cases hy <;> try exact h.elim
  · obtain ⟨hz, c, hc, h⟩ := h
    exact .inr (.inr ⟨_, _, _, rfl, rfl, hz, hc, o.sc s h (.str _)⟩)
  · rename_i h1 h2 _
    obtain ⟨d, hd, h⟩ := h
    obtain ⟨v, e, hv⟩ := dpa_atI h2 hd
    exact .inl ⟨_, _, _, _, rfl, rfl, s.seq h1, e, o.sc s h hv⟩
  · rename_i h1 h2 _
    obtain ⟨d, hd, h⟩ := h
    obtain ⟨v, e, hv⟩ := dpa_atI h2 hd
    exact .inr (.inl ⟨_, _, _, _, rfl, rfl, sqt_mono s h1, e, o.sc s h hv⟩)
theorem sl_ok {X : Cx} : ∃ r, SlR X r ∧ ∀ x G H a lo hi Φ Q, Same G H → Dp X.K G x a → slW a lo hi Φ → Out X.K G H Φ Q → r x lo hi H Q := by
  refine ⟨_, sl_list.or sl_tup, fun x G H a lo hi Φ Q s hx h o => ?_⟩
  cases hx <;> try exact h.elim
  · rename_i a' xs ds h1 h2
    have e : xs.length = ds.length := dpa_len h2
    refine .inl ⟨_, _, rfl, s.seq h1, o.nl s (ds := cutD ds lo hi) h ?_⟩
    unfold cutV cutD
    rw [e]
    exact dpa_take _ (dpa_drop _ h2)
  · rename_i a' xs ds h1 h2
    have e : xs.length = ds.length := dpa_len h2
    refine .inr ⟨_, _, rfl, sqt_mono s h1, by rw [e]; exact h.1, o.nt s (ds := cutD ds lo hi) h.2 ?_⟩
    unfold cutV cutD
    rw [e]
    exact dpa_take _ (dpa_drop _ h2)
end PF

namespace PF
open PySem L2

/-! ### the small language against the text -/
def visB (sc : Scope) (x : Str) : Bool := match sc.names.lookup x with
  | some .local | some .cell | some .free => true
  | _ => false
def glB (sc : Scope) (x : Str) : Bool := match sc.names.lookup x with
  | some .globalImplicit => true
  | _ => false
def okN (x : Str) : Bool := !(x == ("__debug__" : Str)) && !(x == ("__classdict__" : Str)) && !(x == ("__name__" : Str))
def notStar : Expr → Bool
  | .Starred .. => false
  | _ => true
def noCall0 : Expr → Bool
  | .Call _ [] [] _ => false
  | _ => true
def plainIxB : Expr → Bool
  | .Slice .. => false
  | _ => true
def notSet : Expr → Bool
  | .Set .. => false
  | .List .. => true
  | _ => true
/-- tests that are no and, or, not, comparison, a if b else c -/
def plainT : Expr → Bool
  | .UnaryOp .Not _ _ => false
  | .BoolOp .. => false
  | .IfExp .. => false
  | .Compare .. => false
  | _ => true
def Bf.name : Bf → Str
  | .len => "len" | .list => "list" | .tuple => "tuple" | .int => "int" | .abs => "abs" | .sum => "sum" | .min2 => "min" | .max2 => "max"
def Ty.name : Ty → String
  | .int => "int" | .bool => "bool" | .str => "str" | .list => "list" | .tuple => "tuple"
def blkB (N : List Str) (sc scope : Scope) (own : List (Str × Nat)) : Bool :=
  decide (scope.kind = .function) && scope.names.all (fun y => decide (scope.names.lookup y.1 = some y.2)) && own.all (fun p => decide (N[p.2]? = some p.1)) &&
  scope.names.all (fun y => !decide (y.2 = .free) || decide (sc.names.lookup y.1 = some .cell) || decide (sc.names.lookup y.1 = some .free)) &&
  scope.names.all (fun y => !(decide (y.2 = .local) || decide (y.2 = .cell)) || decide (y.1 ∈ own.map (·.1)) || decide (y.1 ∉ N))
def mName (N : List Str) (sc : Scope) (cell : Bool) (i : Nat) : Expr → Bool
  | .Name x _ => decide (N[i]? = some x) && (decide (sc.names.lookup x = some .local) || (cell && decide (sc.names.lookup x = some .cell)))
  | _ => false
def mNames (N : List Str) (sc : Scope) (cell : Bool) : List Nat → List Expr → Bool
  | [], [] => true
  | i :: is, e :: es => mName N sc cell i e && mNames N sc cell is es
  | _, _ => false
def mTg (N : List Str) (sc : Scope) (cell : Bool) : Tg → Expr → Bool
  | .one i, e => mName N sc cell i e
  | .many is, .Tuple es _ _ => mNames N sc cell is es
  | _, _ => false
def Tg.slots : Tg → List Nat
  | .one i => [i]
  | .many is => is
def isYes : E → Bool
  | .yes => true
  | _ => false
def isNop : E → Bool
  | .nop => true
  | _ => false

def isEn : E → Bool
  | .enm _ => true
  | _ => false
def isTup : Expr → Bool
  | .Tuple .. => true
  | _ => false
def mE (Θ : Ts) : E → Scope → List Expr → Bool
  | .var i, sc, es => match es with
    | [.Name x _] => decide (Θ.N[i]? = some x) && visB sc x && okN x
    | _ => false
  | .int i, _, es => match es with
    | [.Constant (.int j) _ _] => decide (i = j)
    | _ => false
  | .bl b, _, es => match es with
    | [.Constant (.bool c) _ _] => decide (b = c)
    | _ => false
  | .str x, _, es => match es with
    | [.Constant (.str y) _ _] => decide (x = y)
    | _ => false
  | .non, _, es => match es with
    | [.Constant .none _ _] => true
    | _ => false
  | .con j, sc, es => match es with
    | [.Name x _] => decide (Θ.kn[j]? = some x) && glB sc x && okN x
    | _ => false
  | .bin op a b, sc, es => match es with
    | [.BinOp x o y _] => decide (o = bop op) && mE Θ a sc [x] && mE Θ b sc [y]
    | _ => false
  | .neg a, sc, es => match es with
    | [.UnaryOp .USub x _] => mE Θ a sc [x]
    | _ => false
  | .cmp op a b, sc, es => match es with
    | [.Compare x [o] [y] _] => decide (o = cop op) && (!behindInMarks o y) && mE Θ a sc [x] && mE Θ b sc [y]
    | _ => false
  | .and_ a b, sc, es => match es with
    | [.BoolOp .And (x :: y :: r) p] => mE Θ a sc [x] && mE Θ b sc [.BoolOp .And (y :: r) p]
    | _ => false
  | .or_ a b, sc, es => match es with
    | [.BoolOp .Or (x :: y :: r) p] => mE Θ a sc [x] && mE Θ b sc [.BoolOp .Or (y :: r) p]
    | _ => false
  | .one a, sc, es => match es with
    | [.BoolOp _ [x] _] => mE Θ a sc [x]
    | _ => false
  | .not_ a, sc, es => match es with
    | [.UnaryOp .Not x _] => mE Θ a sc [x]
    | _ => false
  | .ite c a b, sc, es => match es with
    | [.IfExp x y z _] => mE Θ c sc [x] && mE Θ a sc [y] && mE Θ b sc [z]
    | _ => false
  | .tup a, sc, es => match es with
    | [.Tuple xs _ _] => mE Θ a sc xs
    | _ => false
  | .lst a, sc, es => match es with
    | [.List xs _] => mE Θ a sc xs
    | _ => false
  | .enil, _, es => match es with
    | [] => true
    | _ => false
  | .econs a r, sc, es => match es with
    | x :: xs => notStar x && mE Θ a sc [x] && mE Θ r sc xs
    | [] => false
  | .ix a i, sc, es => match es with
    | [.Subscript x y _] => plainIxB y && mE Θ a sc [x] && mE Θ i sc [y]
    | _ => false
  | .sl a lo hi, sc, es => match es with
    | [.Subscript x (.Slice l h none _) _] => mE Θ a sc [x] && (match l with | none => isNop lo | some l => mE Θ lo sc [l]) && (match h with | none => isNop hi | some h => mE Θ hi sc [h])
    | _ => false
  | .nop, _, _ => false
  | .yes, _, _ => false
  | .call j a, sc, es => match es with
    | [.Call (.Name x _) (y :: ys) [] _] => decide (Θ.fn[j]? = some x) && glB sc x && okN x && (y :: ys).all notStar && mE Θ a sc (y :: ys)
    | _ => false
  | .blt f a, sc, es => match es with
    | [.Call (.Name x _) (y :: ys) [] _] => decide (x = f.name) && glB sc x && decide (x ∈ Θ.bn) && (y :: ys).all notStar && mE Θ a sc (y :: ys)
    | _ => false
  | .isi a t, sc, es => match es with
    | [.Call (.Name x _) [y, .Name u _] [] _] => decide (x = "isinstance") && glB sc x && decide (x ∈ Θ.bn) && decide (u = PySem.Str.ofString t.name) && glB sc u && decide (u ∈ Θ.bn) && notStar y && mE Θ a sc [y]
    | _ => false
  | .mix o a, sc, es => match es with
    | [.Call (.Attribute x n ap) [y] [] cp] => decide (n = "index") && noCall0 x && notStar y && (ap.endLine == cp.line) && mE Θ o sc [x] && mE Θ a sc [y]
    | _ => false
  | .join o a, sc, es => match es with
    | [.Call (.Attribute x n ap) [y] [] cp] => decide (n = "join") && noCall0 x && notStar y && (ap.endLine == cp.line) && mE Θ o sc [x] && mE Θ a sc [y]
    | _ => false
  | .comp own tg it c elt, sc, es => match es with
    | [.ListComp el [⟨t, iter, ifs, 0⟩] scope _] => blkB Θ.N sc scope own && mTg Θ.N (relS scope sc) false tg t && tg.slots.all (fun i => decide (i ∈ own.map (·.2))) && notSet iter && (!isEn it || isTup t) && mE Θ it sc [iter] &&
        (match ifs with | [] => isYes c | [x] => mE Θ c (relS scope sc) [x] | _ => false) && mE Θ elt (relS scope sc) [el]
    | _ => false
  | .rng1 a, sc, es => match es with
    | [.Call (.Name x _) [y] [] _] => decide (x = "range") && glB sc x && decide (x ∈ Θ.bn) && notStar y && mE Θ a sc [y]
    | _ => false
  | .rng2 a b, sc, es => match es with
    | [.Call (.Name x _) [y, z] [] _] => decide (x = "range") && glB sc x && decide (x ∈ Θ.bn) && notStar y && notStar z && mE Θ a sc [y] && mE Θ b sc [z]
    | _ => false
  | .sset a, sc, es => match es with
    | [.Call (.Name x _) [.Call (.Name u _) [y] [] _] [] _] => decide (x = "sorted") && glB sc x && decide (x ∈ Θ.bn) && decide (u = "set") && glB sc u && decide (u ∈ Θ.bn) && notStar y && mE Θ a sc [y]
    | _ => false
  | .lrg1 a, sc, es => match es with
    | [.Call (.Name x _) [.Call (.Name u _) [y] [] _] [] _] => decide (x = "list") && glB sc x && decide (x ∈ Θ.bn) && decide (u = "range") && glB sc u && decide (u ∈ Θ.bn) && notStar y && mE Θ a sc [y]
    | _ => false
  | .lrg2 a b, sc, es => match es with
    | [.Call (.Name x _) [.Call (.Name u _) [y, z] [] _] [] _] => decide (x = "list") && glB sc x && decide (x ∈ Θ.bn) && decide (u = "range") && glB sc u && decide (u ∈ Θ.bn) && notStar y && notStar z && mE Θ a sc [y] && mE Θ b sc [z]
    | _ => false
  | .enm a, sc, es => match es with
    | [.Call (.Name x _) [y] [] _] => decide (x = "enumerate") && glB sc x && decide (x ∈ Θ.bn) && notStar y && mE Θ a sc [y]
    | _ => false
  | .lend _ e, sc, es => mE Θ e sc es

/-! ### what is asked of the context -/
def spD (K : Fg) (f : List D → (R → Prop) → Prop) : Sp := fun vs H Q _ => ∃ ds G Φ, Same G H ∧ DpAll K G vs ds ∧ f ds Φ ∧ Out K G H Φ Q
structure OkX (Θ : Tb) (sc : Scope) (X : Cx) : Prop where
  N : X.N = Θ.N
  nd : X.N.Nodup
  sc : X.env.scope = sc
  calm : X.calm = true
  room : Room Θ.k X.A
  fns : ∀ (j : Nat) (fe : FEntry), Θ.φ[j]? = some fe → ∃ f fd, X.mg fe.name = some (.ref f) ∧ PySem.W.keepIn X.K (.ref f) = true ∧ Binds X.K fd fe.ps [] ∧ FnOk X.prog X.w X.K X.mg X.base CX0 Θ.k f fd fe.ps (spD X.K fe.sp)
  cons : ∀ (j : Nat) (p : Str × D), Θ.κ[j]? = some p → ∃ u v, X.mg p.1 = some u ∧ RelV v u ∧ ∀ G, Dp X.K G v p.2
  blt : ∀ x ∈ Θ.bn, X.mg x = none
theorem OkX.blk {Θ : Tb} {sc scope : Scope} {X : Cx} (ok : OkX Θ sc X) (s : Shared) (H : Hp) (C : Addr) (cl : List (Str × Addr)) (fp : List Addr) : OkX Θ (relS scope sc) (X.blk s H scope (compEnvC scope cl C X.env) fp) := by
  refine ⟨ok.N, ok.nd, ?_, ok.calm, ok.room, ok.fns, ok.cons, ok.blt⟩
  rw [← ok.sc]
  rfl

/-! ### readings -/
def tD (Θ : Tb) (K : Fg) (e : E) : TE := fun σ H Q => ∃ ρ G Φ, EnvR K ρ G σ H ∧ wpE Θ e ρ Φ ∧ Out K G H Φ Q
def tAr (Θ : Tb) (K : Fg) (e : E) : TA := fun σ H Q => ∃ ρ G Φ, EnvR K ρ G σ H ∧ wpE Θ e ρ Φ ∧ ∀ ds vs G' H', Φ (.args ds) → Grow G H G' H' → DpAll K G' vs ds → Q vs H'
def tPt (Θ : Tb) (K : Fg) (e : E) : TO := fun σ H Q => ∃ ρ G Φ, EnvR K ρ G σ H ∧ wpE Θ e ρ (fun r => partW r Φ) ∧ ∀ o G' H', Φ o → Grow G H G' H' → Q o H'
def tTs (Θ : Tb) (K : Fg) (e : E) : TT := fun σ H Q => ∃ ρ G Φ, EnvR K ρ G σ H ∧ wpE Θ e ρ Φ ∧ (∀ r, Φ r → ∃ b, r = .val (.bool b)) ∧ ∀ b G' H', Φ (.val (.bool b)) → Grow G H G' H' → Q b H'
def WalkD (K : Fg) (J : It) (xs : List D) (G : Hp) : Prop := Walk J xs.length (fun H => Same G H) (fun i H x H' => ∀ Gc, Same G Gc → Same Gc H → ∃ d G2, xs[i]? = some d ∧ Grow Gc H G2 H' ∧ Dp K G2 x d)
def tIt (Θ : Tb) (K : Fg) (e : E) : TI := fun σ H P => ∃ ρ G Φ, EnvR K ρ G σ H ∧ wpE Θ e ρ Φ ∧ (∀ r, Φ r → ∃ xs, itemsOf r = some xs) ∧ ∀ r xs G' H' J, Φ r → itemsOf r = some xs → Grow G H G' H' → WalkD K J xs G' → P J H'
theorem pe_imp {X : Cx} {e : Expr} {t t' : TE} (h : PE X e t) (k : ∀ σ H Q, t' σ H Q → t σ H Q) : PE X e t' := ⟨fun pins s σ H Q I hw => h.run pins s σ H Q I (k σ H Q hw)⟩
theorem pa_imp {X : Cx} {e : List Expr} {t t' : TA} (h : PA X e t) (k : ∀ σ H Q, t' σ H Q → t σ H Q) : PA X e t' := ⟨fun pos pins s σ H Q I hw => h.run pos pins s σ H Q I (k σ H Q hw)⟩
theorem po_imp {X : Cx} {e : Option Expr} {t t' : TO} (h : PO X e t) (k : ∀ σ H Q, t' σ H Q → t σ H Q) : PO X e t' := ⟨fun pins s σ H Q I hw => h.run pins s σ H Q I (k σ H Q hw)⟩
theorem pt_imp {X : Cx} {e : Expr} {t t' : TT} (h : PT X e t) (k : ∀ σ H Q, t' σ H Q → t σ H Q) : PT X e t' := ⟨fun pins s σ H Q I hw => h.run pins s σ H Q I (k σ H Q hw)⟩
theorem pw_imp {X : Cx} {e : Expr} {t t' : TT} (h : PW X e t) (k : ∀ σ H Q, t' σ H Q → t σ H Q) : PW X e t' := ⟨fun wh pins s σ H Q I hw => h.run wh pins s σ H Q I (k σ H Q hw)⟩
theorem pi_imp {X : Cx} {tg e : Expr} {t t' : TI} (h : PI X tg e t) (k : ∀ σ H Q, t' σ H Q → t σ H Q) : PI X tg e t' := ⟨fun pins s σ H Q I hw => h.run pins s σ H Q I (k σ H Q hw)⟩

section
variable {Θ : Tb} {sc : Scope} {X : Cx}
theorem vis_of {x : Str} (h : visB sc x = true) : Vis sc x := by
  unfold visB at h
  cases e : sc.names.lookup x with
  | none => rw [e] at h; cases h
  | some k => cases k <;> first | exact .inl e | exact .inr (.inl e) | exact .inr (.inr e) | (rw [e] at h; cases h)
theorem OkX.gl (ok : OkX Θ sc X) {x : Str} (h : glB sc x = true) : Gl X x := by
  unfold glB at h
  show X.env.scope.names.lookup x = some .globalImplicit
  rw [ok.sc]
  cases e : sc.names.lookup x with
  | none => rw [e] at h; cases h
  | some k => cases k <;> first | rfl | (rw [e] at h; cases h)
theorem okN_d {x : Str} (h : okN x = true) : (x == ("__debug__" : Str)) = false := by
  unfold okN at h
  simp only [Bool.and_eq_true, Bool.not_eq_true'] at h
  exact h.1.1
theorem okN_c {x : Str} (h : okN x = true) : (x == ("__classdict__" : Str)) = false := by
  unfold okN at h
  simp only [Bool.and_eq_true, Bool.not_eq_true'] at h
  exact h.1.2
theorem star_cons {e : Expr} {es : List Expr} {env : Env} (h : notStar e = true) : starEach (e :: es) env = (false, eval e env) :: starEach es env := by
  cases e <;> first | rfl | cases h
theorem star_any {pos : Pos} {env : Env} : ∀ {es : List Expr}, es.all notStar = true → (backTo pos (starEach es env)).any (·.1) = false
  | [], _ => rfl
  | e :: es, h => by
    rw [List.all_cons, Bool.and_eq_true] at h
    rw [star_cons h.1]
    show (false || (backTo pos (starEach es env)).any (·.1)) = false
    rw [star_any h.2]
    rfl
theorem attr_base {o : Expr} {n : Str} {env : Env} {w : Sem Value} (h : noCall0 o = true) : attributeBase o n env w = w := by
  cases o <;> first | rfl | skip
  rename_i f as ks p
  cases as <;> cases ks <;> cases f <;> first | rfl | cases h
theorem plain_ix {b : Expr} (h : plainIxB b = true) : PlainIx b := by
  cases b <;> first | exact fun _ _ => rfl | cases h
theorem pt_plain {e : Expr} (h : plainT e = true) {t : TE} (p : PE X e t) : PT X e (tB t) := by
  refine pt_val p ?_
  cases e with
  | UnaryOp op o p => cases op <;> first | (intro _; rfl) | cases h
  | BoolOp _ _ _ => cases h
  | IfExp _ _ _ _ => cases h
  | Compare _ _ _ _ => cases h
  | _ => intro _; rfl
theorem fold_set {e : Expr} {env : Env} {x : Value} (h : notSet e = true) : foldedSetIterable e env x = pure x := by
  cases e <;> first | rfl | cases h
theorem cline (ok : OkX Θ sc X) : X.A.units + 65 < cLine := by have := ok.room.un; omega
end
end PF

namespace PF
open PySem L2
section
variable {Θ : Tb} {sc : Scope} {X : Cx} {pos : Pos} {x y z : Expr} {a b c : E}

theorem s_var (ok : OkX Θ sc X) {i : Nat} {n : Str} (h1 : Θ.N[i]? = some n) (h2 : visB sc n = true) (h3 : okN n = true) : PE X (.Name n pos) (tD Θ X.K (.var i)) := by
  refine pe_imp (pe_var (i := i) (by rw [ok.N]; exact h1) (by rw [ok.sc]; exact vis_of h2) (okN_d h3) (okN_c h3)) fun σ H Q ⟨ρ, G, Φ, env, wp, out⟩ => ?_
  have wp : (match ρ[i]? with | some (.val d) => Φ (.val d) | _ => False) := wp
  split at wp
  · rename_i d e
    obtain ⟨v, hv, hd⟩ := env.val i d e
    exact ⟨v, hv, out.sc env.sub wp hd⟩
  · exact wp.elim
theorem s_int {i : Int} {k : Nat} : PE X (.Constant (.int i) k pos) (tD Θ X.K (.int i)) := pe_imp pe_int fun σ H Q ⟨ρ, G, Φ, env, wp, out⟩ => out.sc env.sub wp (.int i)
theorem s_bl {i : Bool} {k : Nat} : PE X (.Constant (.bool i) k pos) (tD Θ X.K (.bl i)) := pe_imp pe_bl fun σ H Q ⟨ρ, G, Φ, env, wp, out⟩ => out.sc env.sub wp (.bl i)
theorem s_str {i : Str} {k : Nat} : PE X (.Constant (.str i) k pos) (tD Θ X.K (.str i)) := pe_imp pe_str fun σ H Q ⟨ρ, G, Φ, env, wp, out⟩ => out.sc env.sub wp (.str i)
theorem s_non {k : Nat} : PE X (.Constant .none k pos) (tD Θ X.K .non) := pe_imp pe_non fun σ H Q ⟨ρ, G, Φ, env, wp, out⟩ => out.sc env.sub wp .non
theorem s_con (ok : OkX Θ sc X) {j : Nat} {n : Str} {p : Str × D} (h1 : Θ.κ[j]? = some p) (hn : p.1 = n) (h2 : glB sc n = true) (h3 : okN n = true) : PE X (.Name n pos) (tD Θ X.K (.con j)) := by
  subst hn
  obtain ⟨u, v, hm, rv, hd⟩ := ok.cons j p h1
  refine pe_imp (pe_glob (ok.gl h2) hm rv (okN_d h3)) fun σ H Q ⟨ρ, G, Φ, env, wp, out⟩ => ?_
  have wp : (match Θ.κ[j]? with | some p => Φ (.val p.2) | none => False) := wp
  rw [h1] at wp
  exact out.sc env.sub wp (hd G)
theorem s_bin {op : BOp} (ha : PE X x (tD Θ X.K a)) (hb : PE X y (tD Θ X.K b)) : PE X (.BinOp x (bop op) y pos) (tD Θ X.K (.bin op a b)) := by
  obtain ⟨r, ho, hw⟩ := bin_ok (X := X) op
  refine pe_imp (pe_op ho ha hb) fun σ H Q ⟨ρ, G, Φ, env, wp, out⟩ => ?_
  refine ⟨ρ, G, _, env, wp, fun ra v G1 H1 h1 g1 r1 => ?_⟩
  obtain ⟨G2, g2, _, d1⟩ := r1.frz g1
  refine ⟨ρ, G2, _, env.grow g2, h1, fun rb u G3 H3 h3 g3 r3 => ?_⟩
  obtain ⟨G4, g4, _, d2⟩ := r3.frz g3
  exact hw v u G4 H3 _ _ Φ Q g4.sub (dp_mono g4.g _ d1) d2 h3 (out.step (g2.trans g4))
theorem s_neg (ha : PE X x (tD Θ X.K a)) : PE X (.UnaryOp .USub x pos) (tD Θ X.K (.neg a)) := by
  refine pe_imp (pe_un un_neg ha) fun σ H Q ⟨ρ, G, Φ, env, wp, out⟩ => ?_
  refine ⟨ρ, G, _, env, wp, fun ra v G1 H1 h1 g1 r1 => ?_⟩
  obtain ⟨G2, g2, _, d1⟩ := r1.frz g1
  generalize ra.d = d at h1 d1
  cases d1 <;> try exact h1.elim
  exact ⟨_, rfl, (out.step g2).sc g2.sub h1 (.int _)⟩
theorem cmp_core {op : COp} {r : R2} (hw : OpOk X.K r (cmpW op)) {σ : L2.St} {H : Hp} {Q : VK} (h : tD Θ X.K (.cmp op a b) σ H Q) : tOp r (tD Θ X.K a) (tD Θ X.K b) σ H Q := by
  obtain ⟨ρ, G, Φ, env, wp, out⟩ := h
  refine ⟨ρ, G, _, env, wp, fun ra v G1 H1 h1 g1 r1 => ?_⟩
  obtain ⟨G2, g2, _, d1⟩ := r1.frz g1
  refine ⟨ρ, G2, _, env.grow g2, h1, fun rb u G3 H3 h3 g3 r3 => ?_⟩
  obtain ⟨G4, g4, _, d2⟩ := r3.frz g3
  exact hw v u G4 H3 _ _ Φ Q g4.sub (dp_mono g4.g _ d1) d2 h3 (out.step (g2.trans g4))
theorem s_cmp (ok : OkX Θ sc X) {op : COp} (hm : behindInMarks (cop op) y = false) (ha : PE X x (tD Θ X.K a)) (hb : PE X y (tD Θ X.K b)) : PE X (.Compare x [cop op] [y] pos) (tD Θ X.K (.cmp op a b)) := by
  obtain ⟨r, ho, hw⟩ := cmp_ok (X := X) (cline ok) op
  exact pe_imp (pe_cmpR ho ha hb hm) fun σ H Q h => cmp_core hw h
/-- a test's reading from a value's -/
theorem tts_of {e : E} {σ : L2.St} {H : Hp} {Q : Bool → Hp → Prop} (h : tTs Θ X.K e σ H Q) : tD Θ X.K e σ H (fun x H' => ∃ k, x = .bl k ∧ Q k H') := by
  obtain ⟨ρ, G, Φ, env, wp, hb, out⟩ := h
  refine ⟨ρ, G, Φ, env, wp, fun r v G1 H1 h1 g1 r1 => ?_⟩
  obtain ⟨k, rfl⟩ := hb r h1
  cases (show Dp X.K G1 v (.bool k) from r1)
  exact ⟨k, rfl, out k G1 H1 h1 g1⟩
theorem s_cmpT (ok : OkX Θ sc X) {op : COp} (hm : behindInMarks (cop op) y = false) (ha : PE X x (tD Θ X.K a)) (hb : PE X y (tD Θ X.K b)) : PT X (.Compare x [cop op] [y] pos) (tTs Θ X.K (.cmp op a b)) := by
  obtain ⟨r, ho, hw⟩ := cmp_ok (X := X) (cline ok) op
  exact pt_imp (pt_cmpR ho ha hb hm) fun σ H Q h => cmp_core hw (tts_of h)
theorem s_plainT {e : E} (hp : plainT x = true) (h : PE X x (tD Θ X.K e)) : PT X x (tTs Θ X.K e) := pt_imp (pt_plain hp h) fun σ H Q h => tts_of h
theorem s_and {r : List Expr} (ha : PE X x (tD Θ X.K a)) (hb : PE X (.BoolOp .And (y :: r) pos) (tD Θ X.K b)) : PE X (.BoolOp .And (x :: y :: r) pos) (tD Θ X.K (.and_ a b)) := by
  refine pe_imp (pe_and ha hb) fun σ H Q ⟨ρ, G, Φ, env, wp, out⟩ => ?_
  refine ⟨ρ, G, _, env, wp, fun ra v G1 H1 h1 g1 r1 => ?_⟩
  unfold boolW at h1
  split at h1
  · cases (show Dp X.K G1 v (.bool true) from r1)
    refine ⟨true, rfl, ?_⟩
    rw [if_pos rfl]
    refine ⟨ρ, G1, _, env.grow g1, h1, fun rb u G3 H3 h3 g3 r3 => ?_⟩
    unfold onB at h3
    split at h3
    · exact out _ _ _ _ h3 (g1.trans g3) r3
    · exact h3.elim
  · cases (show Dp X.K G1 v (.bool false) from r1)
    refine ⟨false, rfl, ?_⟩
    rw [if_neg Bool.false_ne_true]
    exact out _ _ _ _ h1 g1 (.bl false)
  · exact h1.elim
theorem s_or {r : List Expr} (ha : PE X x (tD Θ X.K a)) (hb : PE X (.BoolOp .Or (y :: r) pos) (tD Θ X.K b)) : PE X (.BoolOp .Or (x :: y :: r) pos) (tD Θ X.K (.or_ a b)) := by
  refine pe_imp (pe_or ha hb) fun σ H Q ⟨ρ, G, Φ, env, wp, out⟩ => ?_
  refine ⟨ρ, G, _, env, wp, fun ra v G1 H1 h1 g1 r1 => ?_⟩
  unfold boolW at h1
  split at h1
  · cases (show Dp X.K G1 v (.bool true) from r1)
    refine ⟨true, rfl, ?_⟩
    rw [if_pos rfl]
    exact out _ _ _ _ h1 g1 (.bl true)
  · cases (show Dp X.K G1 v (.bool false) from r1)
    refine ⟨false, rfl, ?_⟩
    rw [if_neg Bool.false_ne_true]
    refine ⟨ρ, G1, _, env.grow g1, h1, fun rb u G3 H3 h3 g3 r3 => ?_⟩
    unfold onB at h3
    split at h3
    · exact out _ _ _ _ h3 (g1.trans g3) r3
    · exact h3.elim
  · exact h1.elim
theorem s_andW {r : List Expr} (ha : PT X x (tTs Θ X.K a)) (hb : PW X (.BoolOp .And (y :: r) pos) (tTs Θ X.K b)) : PW X (.BoolOp .And (x :: y :: r) pos) (tTs Θ X.K (.and_ a b)) := by
  refine pw_imp (pw_and ha hb) fun σ H Q ⟨ρ, G, Φ, env, wp, hbl, out⟩ => ?_
  refine ⟨ρ, G, _, env, wp, fun r hr => ?_, fun k G1 H1 h1 g1 => ?_⟩
  · unfold boolW at hr
    split at hr
    · exact ⟨true, rfl⟩
    · exact ⟨false, rfl⟩
    · exact hr.elim
  · cases k with
    | true =>
      rw [if_pos rfl]
      refine ⟨ρ, G1, _, env.grow g1, h1, fun r hr => ?_, fun k G2 H2 h2 g2 => out k G2 H2 h2 (g1.trans g2)⟩
      unfold onB at hr
      split at hr
      · exact ⟨_, rfl⟩
      · exact hr.elim
    | false =>
      rw [if_neg Bool.false_ne_true]
      exact out false G1 H1 h1 g1
theorem s_orW {r : List Expr} (ha : PT X x (tTs Θ X.K a)) (hb : PW X (.BoolOp .Or (y :: r) pos) (tTs Θ X.K b)) : PW X (.BoolOp .Or (x :: y :: r) pos) (tTs Θ X.K (.or_ a b)) := by
  refine pw_imp (pw_or ha hb) fun σ H Q ⟨ρ, G, Φ, env, wp, hbl, out⟩ => ?_
  refine ⟨ρ, G, _, env, wp, fun r hr => ?_, fun k G1 H1 h1 g1 => ?_⟩
  · unfold boolW at hr
    split at hr
    · exact ⟨true, rfl⟩
    · exact ⟨false, rfl⟩
    · exact hr.elim
  · cases k with
    | true =>
      rw [if_pos rfl]
      exact out true G1 H1 h1 g1
    | false =>
      rw [if_neg Bool.false_ne_true]
      refine ⟨ρ, G1, _, env.grow g1, h1, fun r hr => ?_, fun k G2 H2 h2 g2 => out k G2 H2 h2 (g1.trans g2)⟩
      unfold onB at hr
      split at hr
      · exact ⟨_, rfl⟩
      · exact hr.elim
theorem s_oneW {op : BoolOp} (ha : PT X x (tTs Θ X.K a)) : PW X (.BoolOp op [x] pos) (tTs Θ X.K (.one a)) := by
  cases op with
  | And => exact pw_imp (pw_and1 ha) fun σ H Q h => h
  | Or => exact pw_imp (pw_or1 ha) fun σ H Q h => h
theorem s_one {op : BoolOp} (ha : PE X x (tD Θ X.K a)) : PE X (.BoolOp op [x] pos) (tD Θ X.K (.one a)) := pe_imp (pe_one ha) fun σ H Q h => h
theorem s_not (ha : PE X x (tD Θ X.K a)) : PE X (.UnaryOp .Not x pos) (tD Θ X.K (.not_ a)) := by
  refine pe_imp (pe_not ha) fun σ H Q ⟨ρ, G, Φ, env, wp, out⟩ => ?_
  refine ⟨ρ, G, _, env, wp, fun ra v G1 H1 h1 g1 r1 => ?_⟩
  unfold notW at h1
  split at h1
  · rename_i k
    cases (show Dp X.K G1 v (.bool k) from r1)
    exact ⟨k, rfl, out _ _ _ _ h1 g1 (.bl _)⟩
  · exact h1.elim
theorem s_notT (ha : PT X x (tTs Θ X.K a)) : PT X (.UnaryOp .Not x pos) (tTs Θ X.K (.not_ a)) := by
  refine pt_imp (pt_not ha) fun σ H Q ⟨ρ, G, Φ, env, wp, hbl, out⟩ => ?_
  refine ⟨ρ, G, _, env, wp, fun r hr => ?_, fun k G1 H1 h1 g1 => out _ G1 H1 h1 g1⟩
  unfold notW at hr
  split at hr
  · exact ⟨_, rfl⟩
  · exact hr.elim
theorem s_ite (hc : PT X x (tTs Θ X.K c)) (ha : PE X y (tD Θ X.K a)) (hb : PE X z (tD Θ X.K b)) : PE X (.IfExp x y z pos) (tD Θ X.K (.ite c a b)) := by
  refine pe_imp (pe_ifExp hc ha hb) fun σ H Q ⟨ρ, G, Φ, env, wp, out⟩ => ?_
  refine ⟨ρ, G, _, env, wp, fun r hr => ?_, fun k G1 H1 h1 g1 => ?_⟩
  · unfold boolW at hr
    split at hr
    · exact ⟨_, rfl⟩
    · exact ⟨_, rfl⟩
    · exact hr.elim
  · cases k with
    | true => rw [if_pos rfl]; exact ⟨ρ, G1, Φ, env.grow g1, h1, out.step g1⟩
    | false => rw [if_neg Bool.false_ne_true]; exact ⟨ρ, G1, Φ, env.grow g1, h1, out.step g1⟩
theorem s_nil : PA X [] (tAr Θ X.K .enil) := pa_imp pa_nil fun σ H Q ⟨ρ, G, Φ, env, wp, out⟩ => out [] [] G H wp (.refl env.sub) .nil
theorem s_cons {es : List Expr} (hs : notStar x = true) (ha : PE X x (tD Θ X.K a)) (hb : PA X es (tAr Θ X.K b)) : PA X (x :: es) (tAr Θ X.K (.econs a b)) := by
  refine pa_imp (pa_cons ha hb (star_cons hs)) fun σ H Q ⟨ρ, G, Φ, env, wp, out⟩ => ?_
  refine ⟨ρ, G, _, env, wp, fun ra v G1 H1 h1 g1 r1 => ?_⟩
  obtain ⟨G2, g2, _, d1⟩ := r1.frz g1
  refine ⟨ρ, G2, _, env.grow g2, h1, fun ds vs G3 H3 h3 g3 r3 => ?_⟩
  exact out _ _ G3 H3 h3 (g2.trans g3) (.cons (dp_mono g3.g _ d1) r3)
theorem tar_of {e : E} {σ : L2.St} {H : Hp} {ρ : List Sl} {G : Hp} {Φ : R → Prop} {P : List V → Hp → Prop} (env : EnvR X.K ρ G σ H) (wp : wpE Θ e ρ Φ) (out : ∀ ds vs G' H', Φ (.args ds) → Grow G H G' H' → DpAll X.K G' vs ds → P vs H') : tAr Θ X.K e σ H P :=
  ⟨ρ, G, Φ, env, wp, out⟩
theorem s_tup {es : List Expr} {k : Nat} (ha : PA X es (tAr Θ X.K a)) : PE X (.Tuple es k pos) (tD Θ X.K (.tup a)) := by
  refine pe_imp (pe_tup ha) fun σ H Q ⟨ρ, G, Φ, env, wp, out⟩ => ?_
  refine ⟨ρ, G, _, env, wp, fun ds vs G1 H1 h1 g1 r1 => ?_⟩
  exact ⟨by rw [dpa_len r1]; exact h1.1, (out.step g1).nt g1.sub h1.2 r1⟩
theorem s_lst {es : List Expr} (ha : PA X es (tAr Θ X.K a)) : PE X (.List es pos) (tD Θ X.K (.lst a)) := by
  refine pe_imp (pe_lst ha) fun σ H Q ⟨ρ, G, Φ, env, wp, out⟩ => ?_
  refine ⟨ρ, G, _, env, wp, fun ds vs G1 H1 h1 g1 r1 => ?_⟩
  exact ⟨by rw [dpa_len r1]; exact h1.1, (out.step g1).nl g1.sub h1.2 r1⟩
theorem s_ix (hp : plainIxB y = true) (ha : PE X x (tD Θ X.K a)) (hb : PE X y (tD Θ X.K b)) : PE X (.Subscript x y pos) (tD Θ X.K (.ix a b)) := by
  obtain ⟨r, ho, hw⟩ := ix_ok (X := X)
  refine pe_imp (pe_ix ho ha hb (plain_ix hp)) fun σ H Q ⟨ρ, G, Φ, env, wp, out⟩ => ?_
  refine ⟨ρ, G, _, env, wp, fun ra v G1 H1 h1 g1 r1 => ?_⟩
  obtain ⟨G2, g2, _, d1⟩ := r1.frz g1
  refine ⟨ρ, G2, _, env.grow g2, h1, fun rb u G3 H3 h3 g3 r3 => ?_⟩
  obtain ⟨G4, g4, _, d2⟩ := r3.frz g3
  exact hw v u G4 H3 _ _ Φ Q g4.sub (dp_mono g4.g _ d1) d2 h3 (out.step (g2.trans g4))
theorem s_po {e : E} (h : PE X x (tD Θ X.K e)) : PO X (some x) (tPt Θ X.K e) := by
  refine po_imp (po_some h) fun σ H Q ⟨ρ, G, Φ, env, wp, out⟩ => ?_
  refine ⟨ρ, G, _, env, wp, fun ra v G1 H1 h1 g1 r1 => ?_⟩
  unfold partW at h1
  split at h1
  · exact (show False from r1).elim
  · rename_i i
    cases (show Dp X.K G1 v (.int i) from r1)
    exact ⟨i, rfl, out _ G1 H1 h1 g1⟩
  · exact h1.elim
theorem s_pn : PO X none (tPt Θ X.K .nop) := po_imp po_none fun σ H Q ⟨ρ, G, Φ, env, wp, out⟩ => out none G H wp (.refl env.sub)
theorem s_sl {l h : Option Expr} {lo hi : E} {p2 : Pos} (ha : PE X x (tD Θ X.K a)) (hl : PO X l (tPt Θ X.K lo)) (hh : PO X h (tPt Θ X.K hi)) : PE X (.Subscript x (.Slice l h none p2) pos) (tD Θ X.K (.sl a lo hi)) := by
  obtain ⟨r, ho, hw⟩ := sl_ok (X := X)
  refine pe_imp (pe_slice ho ha hl hh) fun σ H Q ⟨ρ, G, Φ, env, wp, out⟩ => ?_
  refine ⟨ρ, G, _, env, wp, fun ra v G1 H1 h1 g1 r1 => ?_⟩
  obtain ⟨G2, g2, _, d1⟩ := r1.frz g1
  refine ⟨ρ, G2, _, env.grow g2, h1, fun o G3 H3 h3 g3 => ?_⟩
  refine ⟨ρ, G3, _, (env.grow g2).grow g3, h3, fun o2 G4 H4 h4 g4 => ?_⟩
  exact hw v G4 H4 _ _ _ Φ Q g4.sub (dp_mono (g3.trans g4).g _ d1) h4 (out.step (g2.trans (g3.trans g4)))
theorem s_call (ok : OkX Θ sc X) {j : Nat} {fe : FEntry} {n : Str} {p : Pos} {es : List Expr} (h1 : Θ.φ[j]? = some fe) (hn : fe.name = n) (h2 : glB sc n = true) (h3 : okN n = true) (hs : (x :: es).all notStar = true) (ha : PA X (x :: es) (tAr Θ X.K a)) :
    PE X (.Call (.Name n p) (x :: es) [] pos) (tD Θ X.K (.call j a)) := by
  subst hn
  obtain ⟨f, fd, hm, hk, hb, F⟩ := ok.fns j fe h1
  have hs' := hs
  rw [List.all_cons, Bool.and_eq_true] at hs'
  refine pe_imp (pe_call F ok.room (ok.gl h2) hm hk hb .nil pass0 ha (okN_d h3) (star_cons hs'.1) (star_any hs'.2)) fun σ H Q ⟨ρ, G, Φ, env, wp, out⟩ => ?_
  refine ⟨ρ, G, _, env, wp, fun ds vs G1 H1 h4 g1 r1 => ?_⟩
  simp only [h1] at h4
  show spD X.K fe.sp (vs ++ []) H1 Q E0
  rw [List.append_nil]
  exact ⟨ds, G1, Φ, g1.sub, r1, h4, out.step g1⟩
theorem ty_of {K : Fg} {G H : Hp} {v : V} {d : D} {t : Ty} {r : Bool} (s : Same G H) (h : Dp K G v d) (e : isTy d t = some r) : ∃ u, TyX K H v (.type u) ∧ kitB u t.name = some r := by
  cases h with
  | non => exact ⟨_, .base .non, by cases t <;> cases e <;> decide +kernel⟩
  | bl b => exact ⟨_, .base (.bl b), by cases t <;> cases e <;> decide +kernel⟩
  | int i => exact ⟨_, .base (.int i), by cases t <;> cases e <;> decide +kernel⟩
  | str x => exact ⟨_, .base (.str x), by cases t <;> cases e <;> decide +kernel⟩
  | lst h1 h2 =>
    refine ⟨"list", ?_, by cases t <;> cases e <;> decide +kernel⟩
    rcases s.seq h1 with (h | ⟨o, h⟩) | ⟨o, its, n, hk, hc, _⟩
    · exact .base (.lst h)
    · exact .base (.frz h)
    · exact .kList hk hc
  | tup h1 h2 =>
    refine ⟨"tuple", ?_, by cases t <;> cases e <;> decide +kernel⟩
    rcases sqt_mono s h1 with (h | ⟨o, h⟩) | ⟨o, its, n, hk, hc, _⟩
    · exact .base (.tup h)
    · exact .fTuple h
    · exact .kTuple hk hc
theorem boot_ty (t : Ty) : bootBuiltins (PySem.Str.ofString t.name) = some (.type t.name) := by cases t <;> decide +kernel
theorem ty_plain (t : Ty) : PySem.Str.ofString t.name ≠ "__name__" ∧ (PySem.Str.ofString t.name == ("__debug__" : Str)) = false := by cases t <;> decide +kernel
theorem s_isi (ok : OkX Θ sc X) {t : Ty} {p p2 : Pos} (h1 : glB sc "isinstance" = true) (h2 : ("isinstance" : Str) ∈ Θ.bn) (h3 : glB sc (PySem.Str.ofString t.name) = true) (h4 : PySem.Str.ofString t.name ∈ Θ.bn) (hs : notStar x = true) (ha : PE X x (tD Θ X.K a)) :
    PE X (.Call (.Name "isinstance" p) [x, .Name (PySem.Str.ofString t.name) p2] [] pos) (tD Θ X.K (.isi a t)) := by
  have ht : PE X (.Name (PySem.Str.ofString t.name) p2) (tC (.ty t.name)) := pe_bltn (ok.gl h3) (ok.blt _ h4) (boot_ty t) rfl (ty_plain t).1 (ty_plain t).2
  refine pe_imp (pe_callB call_isi (ok.gl h1) (ok.blt _ h2) PyProof.Rows.boot_isinstance (pa_cons ha (pa_cons ht pa_nil) (star_cons hs)) (by decide) (by decide) (star_cons hs)) fun σ H Q ⟨ρ, G, Φ, env, wp, out⟩ => ?_
  refine ⟨ρ, G, _, env, wp, fun ra v G1 H1 h1 g1 r1 => ?_⟩
  obtain ⟨G2, g2, _, d1⟩ := r1.frz g1
  split at h1
  · rename_i r e
    obtain ⟨u, ty, hk⟩ := ty_of g2.sub d1 e
    exact ⟨v, .ty t.name, .type u, .type t.name, r, rfl, .ty _, ty, kit_ty hk, (out.step g2).sc g2.sub h1 (.bl _)⟩
  · exact h1.elim
theorem s_mix (ok : OkX Θ sc X) {ap : Pos} (h1 : noCall0 x = true) (h2 : notStar y = true) (hl : (ap.endLine == pos.line) = true) (ha : PE X x (tD Θ X.K a)) (hb : PE X y (tD Θ X.K b)) : PE X (.Call (.Attribute x "index" ap) [y] [] pos) (tD Θ X.K (.mix a b)) := by
  refine pe_imp (pe_bm PySem.F.plainAttrs_list PySem.F.slot_list_index PySem.F.type_list_index (mt_indexD (cline ok)) ha (pa_cons hb pa_nil (star_cons h2)) (attr_base h1) (by rw [star_cons h2]; rfl) hl (star_cons h2)) fun σ H Q ⟨ρ, G, Φ, env, wp, out⟩ => ?_
  refine ⟨ρ, G, _, env, wp, fun ra v G1 H1 h1 g1 r1 => ?_⟩
  obtain ⟨G2, g2, _, d1⟩ := r1.frz g1
  generalize ra.d = da at h1 d1
  cases d1 <;> try exact h1.elim
  rename_i q1 q2
  refine ⟨.inl ⟨rfl, _, g2.sub.seq q1⟩, ρ, G2, _, env.grow g2, h1, fun rb u G3 H3 h3 g3 r3 => ?_⟩
  obtain ⟨G4, g4, _, d2⟩ := r3.frz g3
  obtain ⟨s1, s2, j, zz, e1, e2, e3, hf⟩ := h3
  exact ⟨_, u, _, _, j, zz, rfl, rfl, dp_up g4.sub (dp_mono g4.g _ (.lst q1 q2)), dp_up g4.sub d2, s1, s2, e1, e2, e3, (out.step (g2.trans g4)).sc g4.sub hf (.int _)⟩
theorem s_join (ok : OkX Θ sc X) {ap : Pos} (h1 : noCall0 x = true) (h2 : notStar y = true) (hl : (ap.endLine == pos.line) = true) (ha : PE X x (tD Θ X.K a)) (hb : PE X y (tD Θ X.K b)) : PE X (.Call (.Attribute x "join" ap) [y] [] pos) (tD Θ X.K (.join a b)) := by
  refine pe_imp (pe_join ha hb (star_cons h2) (attr_base h1) hl) fun σ H Q ⟨ρ, G, Φ, env, wp, out⟩ => ?_
  refine ⟨ρ, G, _, env, wp, fun ra v G1 H1 h1 g1 r1 => ?_⟩
  obtain ⟨G2, g2, _, d1⟩ := r1.frz g1
  generalize ra.d = da at h1 d1
  cases d1 <;> try exact h1.elim
  rename_i z
  refine ⟨⟨z, rfl⟩, ρ, G2, _, env.grow g2, h1, fun rb u G3 H3 h3 g3 r3 => ?_⟩
  obtain ⟨G4, g4, _, d2⟩ := r3.frz g3
  generalize rb.d = db at h3 d2
  cases d2 <;> try exact h3.elim
  · rename_i p xs ds q1 q2
    obtain ⟨ys, e1, e2, hf⟩ := h3
    have e := dpa_strs q2 e1
    subst e
    exact ⟨z, p, ys, rfl, rfl, .inl (g4.sub.seq q1), e2, (out.step (g2.trans g4)).sc g4.sub hf (.str _)⟩
  · rename_i p xs ds q1 q2
    obtain ⟨ys, e1, e2, hf⟩ := h3
    have e := dpa_strs q2 e1
    subst e
    exact ⟨z, p, ys, rfl, rfl, .inr (sqt_mono g4.sub q1), e2, (out.step (g2.trans g4)).sc g4.sub hf (.str _)⟩
theorem lend_env {i : Nat} {e : E} {ρ : List Sl} {G : Hp} {σ : L2.St} {H : Hp} {Φ : R → Prop} (env : EnvR X.K ρ G σ H) (wp : wpE Θ (.lend i e) ρ Φ) :
    ∃ ρ' G', EnvR X.K ρ' G' σ H ∧ wpE Θ e ρ' (fun r => scalar r = true ∧ Φ r) := by
  have wp : (match ρ[i]? with | some (.own ds) => wpE Θ e (ρ.set i (.val (.list ds))) fun r => scalar r = true ∧ Φ r | _ => False) := wp
  split at wp
  · rename_i ds e1
    obtain ⟨p, xs, h1, h2, h3, h4⟩ := env.own i ds e1
    have hi : i < ρ.length := (List.getElem?_eq_some_iff.mp e1).1
    have sG : Same G (upd G p (.lst xs)) := same_up h3
    refine ⟨ρ.set i (.val (.list ds)), upd G p (.lst xs), ⟨by rw [List.length_set]; exact env.len, same_into env.sub h2, fun j d hj => ?_, fun j es hj => ?_, fun j k q ds1 ds2 hjk hj hk h5 h6 => ?_⟩, wp⟩
    · by_cases e : i = j
      · subst e
        rw [List.getElem?_set_self hi] at hj
        cases hj
        exact ⟨_, h1, .lst (.of upd_same) (dpa_mono sG _ h4)⟩
      · rw [List.getElem?_set_ne e] at hj
        obtain ⟨v, q1, q2⟩ := env.val j d hj
        exact ⟨v, q1, dp_mono sG d q2⟩
    · by_cases e : i = j
      · subst e
        rw [List.getElem?_set_self hi] at hj
        cases hj
      · rw [List.getElem?_set_ne e] at hj
        obtain ⟨q, ys, q1, q2, q3, q4⟩ := env.own j es hj
        have ne : q ≠ p := fun z => env.sep i j p ds es e e1 hj h1 (by rw [q1, z])
        exact ⟨q, ys, q1, q2, by rw [upd_ne ne]; exact q3, dpa_mono sG _ q4⟩
    · have n1 : j ≠ i := fun z => by subst z; rw [List.getElem?_set_self hi] at hj; cases hj
      have n2 : k ≠ i := fun z => by subst z; rw [List.getElem?_set_self hi] at hk; cases hk
      rw [List.getElem?_set_ne (Ne.symm n1)] at hj
      rw [List.getElem?_set_ne (Ne.symm n2)] at hk
      exact env.sep j k q ds1 ds2 hjk hj hk h5 h6
  · exact wp.elim
theorem s_lend {i : Nat} {e : E} (h : PE X x (tD Θ X.K e)) : PE X x (tD Θ X.K (.lend i e)) := by
  refine pe_imp h fun σ H Q ⟨ρ, G, Φ, env, wp, out⟩ => ?_
  obtain ⟨ρ', G', env', wp'⟩ := lend_env env wp
  refine ⟨ρ', G', _, env', wp', fun r v G1 H1 hr g1 r1 => ?_⟩
  have gg : Grow G H G H1 := ⟨g1.h, Same.refl G, env.sub.trans g1.h, fun b o q n => by rw [n] at q; cases q⟩
  refine out r v G H1 hr.2 gg ?_
  have hs := hr.1
  cases r with
  | args _ => cases hs
  | new _ => cases hs
  | val d =>
    cases d with
    | none => cases r1; exact .non
    | bool b => cases r1; exact .bl b
    | int n => cases r1; exact .int n
    | str z => cases r1; exact .str z
    | list _ => cases hs
    | tuple _ => cases hs
    | dict _ => cases hs
theorem s_lendT {i : Nat} {e : E} (h : PT X x (tTs Θ X.K e)) : PT X x (tTs Θ X.K (.lend i e)) := by
  refine pt_imp h fun σ H Q ⟨ρ, G, Φ, env, wp, hb, out⟩ => ?_
  obtain ⟨ρ', G', env', wp'⟩ := lend_env env wp
  refine ⟨ρ', G', _, env', wp', fun r hr => hb r hr.2, fun k G1 H1 hr g1 => ?_⟩
  exact out k G H1 hr.2 ⟨g1.h, Same.refl G, env.sub.trans g1.h, fun b o q n => by rw [n] at q; cases q⟩
end
end PF

namespace PF
open PySem L2
section
variable {Θ : Tb} {sc : Scope} {X : Cx} {pos : Pos} {x y z : Expr} {a b c : E}

/-! ### built-in functions -/
def CallOk (K : Fg) (r : List V → Hp → VK → Prop) (W : List D → (R → Prop) → Prop) : Prop := ∀ vs G H ds Φ Q, Same G H → DpAll K G vs ds → W ds Φ → Out K G H Φ Q → r vs H Q
theorem len_ok : ∃ r, CallR X (.builtin "len") r ∧ CallOk X.K r lenW := by
  refine ⟨_, call_len_seq.or call_len_str, fun vs G H ds Φ Q s hv h o => ?_⟩
  cases hv with
  | nil => exact h.elim
  | cons h1 h2 => cases h2 with
    | cons _ _ => cases h1 <;> exact h.elim
    | nil =>
      cases h1 <;> try exact h.elim
      · exact .inr ⟨_, rfl, h.1, o.sc s h.2 (.int _)⟩
      · rename_i q1 q2; exact .inl ⟨_, _, rfl, .inl (s.seq q1), by rw [dpa_len q2]; exact o.sc s h (.int _)⟩
      · rename_i q1 q2; exact .inl ⟨_, _, rfl, .inr (sqt_mono s q1), by rw [dpa_len q2]; exact o.sc s h (.int _)⟩
theorem list_ok : ∃ r, CallR X (.type "list") r ∧ CallOk X.K r listW := by
  refine ⟨_, call_list_of, fun vs G H ds Φ Q s hv h o => ?_⟩
  cases hv with
  | nil => exact h.elim
  | cons h1 h2 => cases h2 with
    | cons _ _ => cases h1 <;> exact h.elim
    | nil =>
      cases h1 <;> try exact h.elim
      · rename_i q1 q2; exact ⟨_, _, rfl, .inl (s.seq q1), o.nl s h q2⟩
      · rename_i q1 q2; exact ⟨_, _, rfl, .inr (sqt_mono s q1), o.nl s h q2⟩
theorem tuple_ok : ∃ r, CallR X (.type "tuple") r ∧ CallOk X.K r tupleW := by
  refine ⟨_, call_tuple_of, fun vs G H ds Φ Q s hv h o => ?_⟩
  cases hv with
  | nil => exact h.elim
  | cons h1 h2 => cases h2 with
    | cons _ _ => cases h1 <;> exact h.elim
    | nil =>
      cases h1 <;> try exact h.elim
      · rename_i q1 q2; exact ⟨_, _, rfl, .inl ⟨s.seq q1, o.nt s h q2⟩⟩
      · rename_i q1 q2; exact ⟨_, _, rfl, .inr ⟨sqt_mono s q1, o.sc s h (.tup q1 q2)⟩⟩
theorem int_ok : ∃ r, CallR X (.type "int") r ∧ CallOk X.K r intW := by
  refine ⟨_, call_int1, fun vs G H ds Φ Q s hv h o => ?_⟩
  cases hv with
  | nil => exact h.elim
  | cons h1 h2 => cases h2 with
    | cons _ _ => cases h1 <;> exact h.elim
    | nil =>
      cases h1 <;> try exact h.elim
      · exact .inr ⟨_, rfl, o.sc s h (.int _)⟩
      · exact .inl ⟨_, rfl, o.sc s h (.int _)⟩
theorem abs_ok : ∃ r, CallR X (.builtin "abs") r ∧ CallOk X.K r absW := by
  refine ⟨_, call_abs, fun vs G H ds Φ Q s hv h o => ?_⟩
  cases hv with
  | nil => exact h.elim
  | cons h1 h2 => cases h2 with
    | cons _ _ => cases h1 <;> exact h.elim
    | nil =>
      cases h1 <;> try exact h.elim
      exact ⟨_, rfl, o.sc s h (.int _)⟩
theorem min2_ok (hc : X.calm = true) : ∃ r, CallR X (.builtin "min") r ∧ CallOk X.K r min2W := by
  refine ⟨_, call_min2 hc, fun vs G H ds Φ Q s hv h o => ?_⟩
  cases hv with
  | nil => exact h.elim
  | cons h1 h2 => cases h2 with
    | nil => cases h1 <;> exact h.elim
    | cons h3 h4 => cases h4 with
      | cons _ _ => cases h1 <;> cases h3 <;> exact h.elim
      | nil =>
        cases h1 <;> cases h3 <;> try exact h.elim
        exact ⟨_, _, rfl, o.sc s h (.int _)⟩
theorem max2_ok (hc : X.calm = true) : ∃ r, CallR X (.builtin "max") r ∧ CallOk X.K r max2W := by
  refine ⟨_, call_max2 hc, fun vs G H ds Φ Q s hv h o => ?_⟩
  cases hv with
  | nil => exact h.elim
  | cons h1 h2 => cases h2 with
    | nil => cases h1 <;> exact h.elim
    | cons h3 h4 => cases h4 with
      | cons _ _ => cases h1 <;> cases h3 <;> exact h.elim
      | nil =>
        cases h1 <;> cases h3 <;> try exact h.elim
        exact ⟨_, _, rfl, o.sc s h (.int _)⟩
theorem blt_core {r : List V → Hp → VK → Prop} {W : List D → (R → Prop) → Prop} {f : Bf} (hW : bltW f = W) (hw : CallOk X.K r W) {σ : L2.St} {H : Hp} {Q : VK} (h : tD Θ X.K (.blt f a) σ H Q) : tCB r (tAr Θ X.K a) σ H Q := by
  obtain ⟨ρ, G, Φ, env, wp, out⟩ := h
  refine ⟨ρ, G, _, env, wp, fun ds vs G1 H1 h1 g1 r1 => ?_⟩
  exact hw vs G1 H1 ds Φ Q g1.sub r1 (by rw [← hW]; exact h1) (out.step g1)
theorem s_blt (ok : OkX Θ sc X) {f : Bf} {p : Pos} {es : List Expr} (h1 : glB sc f.name = true) (h2 : f.name ∈ Θ.bn) (hs : (x :: es).all notStar = true) (ha : PA X (x :: es) (tAr Θ X.K a)) : PE X (.Call (.Name f.name p) (x :: es) [] pos) (tD Θ X.K (.blt f a)) := by
  have hs' := hs
  rw [List.all_cons, Bool.and_eq_true] at hs'
  have e1 : starEach (x :: es) X.env = (false, eval x X.env) :: starEach es X.env := star_cons hs'.1
  have e2 : (backTo pos (starEach es X.env)).any (·.1) = false := star_any hs'.2
  have gl := ok.gl h1
  have mg := ok.blt _ h2
  cases f with
  | len => obtain ⟨r, hr, hw⟩ := len_ok (X := X); exact pe_imp (pe_callB hr gl mg PySem.boot_len ha (by decide) (by decide) e1 e2) fun σ H Q h => blt_core rfl hw h
  | list => obtain ⟨r, hr, hw⟩ := list_ok (X := X); exact pe_imp (pe_callTy hr gl mg PyProof.Rows.boot_list ha (by decide) (by decide) e1 e2) fun σ H Q h => blt_core rfl hw h
  | tuple => obtain ⟨r, hr, hw⟩ := tuple_ok (X := X); exact pe_imp (pe_callTy hr gl mg PyProof.Rows.boot_tuple ha (by decide) (by decide) e1 e2) fun σ H Q h => blt_core rfl hw h
  | int => obtain ⟨r, hr, hw⟩ := int_ok (X := X); exact pe_imp (pe_callTy hr gl mg PyProof.Rows.boot_int ha (by decide) (by decide) e1 e2) fun σ H Q h => blt_core rfl hw h
  | abs => obtain ⟨r, hr, hw⟩ := abs_ok (X := X); exact pe_imp (pe_callB hr gl mg (by decide +kernel) ha (by decide) (by decide) e1 e2) fun σ H Q h => blt_core rfl hw h
  | sum => exact pe_imp (pe_callB (X := X) (r := fun _ _ _ => False) (fun _ _ _ _ _ _ _ _ _ h => h.elim) gl mg PyProof.Rows.boot_sum ha (by decide) (by decide) e1 e2) fun σ H Q h => blt_core (f := .sum) (W := fun _ _ => False) rfl (fun _ _ _ _ _ _ _ _ h _ => h) h
  | min2 => obtain ⟨r, hr, hw⟩ := min2_ok (X := X) ok.calm; exact pe_imp (pe_callB hr gl mg PyProof.Rows.boot_min ha (by decide) (by decide) e1 e2) fun σ H Q h => blt_core rfl hw h
  | max2 => obtain ⟨r, hr, hw⟩ := max2_ok (X := X) ok.calm; exact pe_imp (pe_callB hr gl mg PyProof.Rows.boot_max ha (by decide) (by decide) e1 e2) fun σ H Q h => blt_core rfl hw h

/-! ### what is walked -/
theorem dpa_inv {K : Fg} {H : Hp} : ∀ {vs : List V} {ds : List D} {n : Nat} {v : V}, DpAll K H vs ds → vs[n]? = some v → ∃ d, ds[n]? = some d ∧ Dp K H v d
  | _, _, n, _, .nil, h => by simp at h
  | _, _, 0, _, .cons a _, h => by simp at h; subst h; exact ⟨_, rfl, a⟩
  | _, _, n + 1, v, .cons _ b, h => by
    obtain ⟨d, h1, h2⟩ := dpa_inv (n := n) (v := v) b (by simpa using h)
    exact ⟨d, by simpa using h1, h2⟩
def iSeq (K : Fg) (tl : TE) : TI := fun σ H P => tl σ H fun x H1 => ∃ a, x = .ref a ∧ ((∃ xs, SqL K H1 a xs ∧ P (Itl K a) H1) ∨ ∃ xs, SqT K H1 a xs ∧ P (Itt K a) H1)
theorem pi_seq {tg l : Expr} {tl : TE} (hl : PE X l tl) : PI X tg l (iSeq X.K tl) := by
  refine ⟨fun pins s σ H R I h => ?_⟩
  refine thn (hl.run pins s σ H _ I h) fun v s1 ⟨x, H1, I1, r1, q1⟩ => ?_
  obtain ⟨a, e, q⟩ := q1
  subst e
  cases r1
  rcases q with ⟨xs, hq, q⟩ | ⟨xs, hq, q⟩
  · obtain ⟨its, rv, p, hz⟩ := I1.list hq
    refine wpAny_pyIter_list p.isList ?_
    refine ⟨s1.heap.objs.size, [s1.heap.objs.size], _, _, H1, rfl, I1.kept (t' := s1.toks) fun b o e => Heap.get?_push_of_some _ e, turn_list a _, ⟨_, Heap.get?_push_size _ rfl, rfl, rfl⟩, fun b hb => ?_, q⟩
    have e : b = s1.heap.objs.size := by simpa using hb
    subst e
    exact I1.fpOk (Nat.le_refl _) (I1.hok.fresh (Nat.le_refl _))
  · obtain ⟨its, rv, p, hz⟩ := I1.tuple hq
    refine wpAny_pyIter_tuple (show s1.heap.IsTuple a its.toArray from p) ?_
    refine ⟨s1.heap.objs.size, [s1.heap.objs.size], _, _, H1, rfl, I1.kept (t' := s1.toks) fun b o e => Heap.get?_push_of_some _ e, turn_tuple a _, ⟨_, Heap.get?_push_size _ rfl, rfl, rfl⟩, fun b hb => ?_, q⟩
    have e : b = s1.heap.objs.size := by simpa using hb
    subst e
    exact I1.fpOk (Nat.le_refl _) (I1.hok.fresh (Nat.le_refl _))
theorem s_pi {tg : Expr} {e : E} (h : PE X x (tD Θ X.K e)) : PI X tg x (tIt Θ X.K e) := by
  refine pi_imp (pi_seq h) fun σ H P ⟨ρ, G, Φ, env, wp, hit, out⟩ => ?_
  refine ⟨ρ, G, Φ, env, wp, fun r v G1 H1 h1 g1 r1 => ?_⟩
  obtain ⟨G2, g2, _, d1⟩ := r1.frz g1
  obtain ⟨xs, hx⟩ := hit r h1
  have go : ∀ J, WalkD X.K J xs G2 → P J H1 := fun J w => out r xs G2 H1 J h1 hx g2 w
  have key : r.d = .list xs ∨ r.d = .tuple xs := by
    cases r with
    | new ds => cases hx; exact .inl rfl
    | args ds => cases hx
    | val d => cases d <;> cases hx <;> first | exact .inl rfl | exact .inr rfl
  generalize r.d = d at d1 key
  rcases key with rfl | rfl
  · cases d1 with
    | lst q1 q2 =>
      rename_i p vs
      refine ⟨p, rfl, .inl ⟨vs, g2.sub.seq q1, go _ ?_⟩⟩
      unfold WalkD
      rw [← dpa_len q2]
      refine walk_list.mono (fun H h => Same.seq h q1) fun i H v H' hi h hy => ?_
      intro Gc s1 s2
      obtain ⟨rfl, hv⟩ := hy
      obtain ⟨d, e1, e2⟩ := dpa_inv q2 hv
      exact ⟨d, Gc, e1, .refl s2, dp_mono s1 d e2⟩
  · cases d1 with
    | tup q1 q2 =>
      rename_i p vs
      refine ⟨p, rfl, .inr ⟨vs, sqt_mono g2.sub q1, go _ ?_⟩⟩
      unfold WalkD
      rw [← dpa_len q2]
      refine walk_tup.mono (fun H h => sqt_mono h q1) fun i H v H' hi h hy => ?_
      intro Gc s1 s2
      obtain ⟨rfl, hv⟩ := hy
      obtain ⟨d, e1, e2⟩ := dpa_inv q2 hv
      exact ⟨d, Gc, e1, .refl s2, dp_mono s1 d e2⟩
theorem rng_walk {K : Fg} {lo : Int} {n : Nat} {G : Hp} : WalkD K (Itr lo n) (rngL lo n) G := by
  unfold WalkD
  have e : (rngL lo n).length = n := by unfold rngL; rw [List.length_map, List.length_range]
  rw [e]
  refine walk_range.mono (fun _ _ => True.intro) fun i H v H' hi h hy => ?_
  intro Gc s1 s2
  obtain ⟨rfl, rfl⟩ := hy
  refine ⟨.int (lo + i), Gc, ?_, .refl s2, .int _⟩
  unfold rngL
  rw [List.getElem?_map, List.getElem?_range hi]
  rfl
theorem s_rng1 (ok : OkX Θ sc X) {tg : Expr} {p : Pos} (h1 : glB sc "range" = true) (h2 : ("range" : Str) ∈ Θ.bn) (hs : notStar x = true) (ha : PE X x (tD Θ X.K a)) : PI X tg (.Call (.Name "range" p) [x] [] pos) (tIt Θ X.K (.rng1 a)) := by
  refine pi_imp (pi_range1 (ok.gl h1) (ok.blt _ h2) (pa_cons ha pa_nil (star_cons hs)) (star_cons hs)) fun σ H P ⟨ρ, G, Φ, env, wp, hit, out⟩ => ?_
  refine ⟨ρ, G, _, env, wp, fun r v G1 H1 h1 g1 r1 => ?_⟩
  obtain ⟨G2, g2, _, d1⟩ := r1.frz g1
  generalize r.d = d at d1 h1
  cases d1 <;> try exact h1.elim
  obtain ⟨⟨b1, b2⟩, h1⟩ := h1
  exact ⟨_, rfl, b1, b2, out _ _ G2 H1 _ h1 rfl g2 rng_walk⟩
theorem s_rng2 (ok : OkX Θ sc X) {tg : Expr} {p : Pos} (h1 : glB sc "range" = true) (h2 : ("range" : Str) ∈ Θ.bn) (hs : notStar x = true) (hs2 : notStar y = true) (ha : PE X x (tD Θ X.K a)) (hb : PE X y (tD Θ X.K b)) : PI X tg (.Call (.Name "range" p) [x, y] [] pos) (tIt Θ X.K (.rng2 a b)) := by
  refine pi_imp (pi_range2 (ok.gl h1) (ok.blt _ h2) (pa_cons ha (pa_cons hb pa_nil (star_cons hs2)) (star_cons hs)) (by rw [star_cons hs, star_cons hs2]; rfl) (star_cons hs2)) fun σ H P ⟨ρ, G, Φ, env, wp, hit, out⟩ => ?_
  refine ⟨ρ, G, _, env, wp, fun r v G1 H1 h1 g1 r1 => ?_⟩
  obtain ⟨G2, g2, _, d1⟩ := r1.frz g1
  refine ⟨ρ, G2, _, env.grow g2, h1, fun r' v' G3 H3 h3 g3 r3 => ?_⟩
  obtain ⟨G4, g4, _, d2⟩ := r3.frz g3
  generalize r.d = d at d1 h3
  generalize r'.d = d' at d2 h3
  cases d1 <;> cases d2 <;> try exact h3.elim
  obtain ⟨b1, h3⟩ := h3
  exact ⟨_, _, rfl, b1, out _ _ G4 H3 _ h3 rfl (g2.trans g4) rng_walk⟩
theorem dpa_ints {K : Fg} {H : Hp} : ∀ {ds : List D} {vs : List V} {ns : List Int}, DpAll K H vs ds → intsOf ds = some ns → vs = ns.map V.int
  | [], _, _, .nil, h => by simp only [intsOf, Option.some.injEq] at h; subst h; rfl
  | .int x :: r, _, ys, .cons a b, h => by
    cases a
    simp only [intsOf] at h
    cases e : intsOf r with
    | none => rw [e] at h; cases h
    | some zs =>
      rw [e] at h
      cases h
      rw [List.map_cons, dpa_ints b e]
  | .none :: _, _, _, _, h => by simp [intsOf] at h
  | .bool _ :: _, _, _, _, h => by simp [intsOf] at h
  | .str _ :: _, _, _, _, h => by simp [intsOf] at h
  | .list _ :: _, _, _, _, h => by simp [intsOf] at h
  | .tuple _ :: _, _, _, _, h => by simp [intsOf] at h
  | .dict _ :: _, _, _, _, h => by simp [intsOf] at h
theorem ints_dpa {K : Fg} {H : Hp} : ∀ zs : List Int, DpAll K H (zs.map V.int) (zs.map .int)
  | [] => .nil
  | z :: zs => .cons (.int z) (ints_dpa zs)
theorem s_sset (ok : OkX Θ sc X) {p p2 q : Pos} (h1 : glB sc "sorted" = true) (h2 : ("sorted" : Str) ∈ Θ.bn) (h3 : glB sc "set" = true) (h4 : ("set" : Str) ∈ Θ.bn) (hs : notStar x = true) (ha : PE X x (tD Θ X.K a)) :
    PE X (.Call (.Name "sorted" p) [.Call (.Name "set" p2) [x] [] q] [] pos) (tD Θ X.K (.sset a)) := by
  refine pe_imp (pe_sortSet ok.calm (ok.gl h1) (ok.blt _ h2) (ok.gl h3) (ok.blt _ h4) ha (star_cons hs)) fun σ H Q ⟨ρ, G, Φ, env, wp, out⟩ => ?_
  refine ⟨ρ, G, _, env, wp, fun r v G1 H1 h1 g1 r1 => ?_⟩
  obtain ⟨G2, g2, _, d1⟩ := r1.frz g1
  generalize r.d = d at d1 h1
  cases d1 <;> try exact h1.elim
  rename_i l vs ds q1 q2
  obtain ⟨ns, e, hl, h1⟩ := h1
  refine ⟨l, ns, rfl, by rw [← dpa_ints q2 e]; exact g2.sub.seq q1, hl, fun r zs z1 z2 n => ?_⟩
  exact (out.step g2).nl g2.sub (h1 zs z1 z2) (ints_dpa zs) r n
theorem rg_dpa {K : Fg} {H : Hp} {i j : Int} : DpAll K H (rgV i j) (rngL i (j - i).toNat) := by
  unfold rgV rngL
  generalize (j - i).toNat = n
  generalize List.range n = l
  induction l with
  | nil => exact .nil
  | cons k l ih => exact .cons (.int _) ih
theorem s_lrg1 (ok : OkX Θ sc X) {p p2 q : Pos} (h1 : glB sc "list" = true) (h2 : ("list" : Str) ∈ Θ.bn) (h3 : glB sc "range" = true) (h4 : ("range" : Str) ∈ Θ.bn) (hs : notStar x = true) (ha : PE X x (tD Θ X.K a)) :
    PE X (.Call (.Name "list" p) [.Call (.Name "range" p2) [x] [] q] [] pos) (tD Θ X.K (.lrg1 a)) := by
  refine pe_imp (pe_listRg ok.calm (ok.gl h1) (ok.blt _ h2) (prg_1 (ok.gl h3) (ok.blt _ h4) ha (star_cons hs)) rfl) fun σ H Q ⟨ρ, G, Φ, env, wp, out⟩ => ?_
  refine ⟨ρ, G, _, env, wp, fun r v G1 H1 h1 g1 r1 => ?_⟩
  obtain ⟨G2, g2, _, d1⟩ := r1.frz g1
  generalize r.d = d at d1 h1
  cases d1 <;> try exact h1.elim
  rename_i j
  obtain ⟨⟨b1, b2⟩, h1⟩ := h1
  refine ⟨j, rfl, RgOk.of_le (by omega) b2 (by omega) b1, fun r n => ?_⟩
  exact (out.step g2).nl g2.sub h1 (by have := rg_dpa (K := X.K) (H := G2) (i := 0) (j := j); rwa [Int.sub_zero] at this) r n
theorem s_lrg2 (ok : OkX Θ sc X) {p p2 q : Pos} (h1 : glB sc "list" = true) (h2 : ("list" : Str) ∈ Θ.bn) (h3 : glB sc "range" = true) (h4 : ("range" : Str) ∈ Θ.bn) (hs : notStar x = true) (hs2 : notStar y = true) (ha : PE X x (tD Θ X.K a)) (hb : PE X y (tD Θ X.K b)) :
    PE X (.Call (.Name "list" p) [.Call (.Name "range" p2) [x, y] [] q] [] pos) (tD Θ X.K (.lrg2 a b)) := by
  refine pe_imp (pe_listRg ok.calm (ok.gl h1) (ok.blt _ h2) (prg_2 (ok.gl h3) (ok.blt _ h4) ha hb (star_cons hs) (star_cons hs2) (hp := star_any (es := [y]) (by simp [hs2]))) rfl) fun σ H Q ⟨ρ, G, Φ, env, wp, out⟩ => ?_
  refine ⟨ρ, G, _, env, wp, fun r v G1 H1 h1 g1 r1 => ?_⟩
  obtain ⟨G2, g2, _, d1⟩ := r1.frz g1
  refine ⟨ρ, G2, _, env.grow g2, h1, fun r' v' G3 H3 h3 g3 r3 => ?_⟩
  obtain ⟨G4, g4, _, d2⟩ := r3.frz g3
  generalize r.d = d at d1 h3
  generalize r'.d = d' at d2 h3
  cases d1 <;> cases d2 <;> try exact h3.elim
  obtain ⟨⟨b1, b2, b3, b4⟩, h3⟩ := h3
  refine ⟨_, _, rfl, rfl, RgOk.of_le b1 b4 b2 b3, fun r n => ?_⟩
  exact (out.step (g2.trans g4)).nl (g2.trans g4).sub h3 rg_dpa r n
theorem s_enm (ok : OkX Θ sc X) {p tp : Pos} {elts : List Expr} {kk : Nat} (h1 : glB sc "enumerate" = true) (h2 : ("enumerate" : Str) ∈ Θ.bn) (hs : notStar x = true) (ha : PE X x (tD Θ X.K a)) : PI X (.Tuple elts kk tp) (.Call (.Name "enumerate" p) [x] [] pos) (tIt Θ X.K (.enm a)) := by
  refine pi_imp (pi_enum (ok.gl h1) (ok.blt _ h2) (pa_cons ha pa_nil (star_cons hs)) (star_cons hs)) fun σ H P ⟨ρ, G, Φ, env, wp, hit, out⟩ => ?_
  refine ⟨ρ, G, _, env, wp, fun r v G1 H1 h1 g1 r1 => ?_⟩
  obtain ⟨G2, g2, _, d1⟩ := r1.frz g1
  generalize r.d = d at d1 h1
  cases d1 <;> try exact h1.elim
  rename_i l vs ds q1 q2
  refine ⟨l, vs, rfl, g2.sub.seq q1, out _ _ G2 H1 _ h1 rfl g2 ?_⟩
  have e : (enmL ds).length = vs.length := by unfold enmL; rw [List.length_map, List.length_range, dpa_len q2]
  unfold WalkD
  rw [e]
  refine walk_enum.mono (fun H h => Same.seq h q1) fun i H v H' hi h hy => ?_
  intro Gc s1 s2
  obtain ⟨T, u, z, rfl, nT, rfl, hu, hz⟩ := hy
  cases hu
  obtain ⟨d, e1, e2⟩ := dpa_inv q2 hz
  refine ⟨.tuple [.int (i : Nat), d], _, ?_, grow_tup s2 nT, .tup (.inl (.inl upd_same)) (.cons (.int _) (.cons (dp_mono (s1.trans (same_up (s2.free nT))) d e2) .nil))⟩
  unfold enmL
  rw [List.getElem?_map, List.getElem?_range (by rw [← dpa_len q2]; exact hi)]
  show some (PyData.tuple [.int (i : Nat), ds.getD i .none]) = _
  rw [List.getD_eq_getElem?_getD, e1]
  rfl
end
end PF

namespace PF
open PySem L2

/-! ### slots set and forgotten -/
section
variable {K : Fg} {ρ ρ' : List Sl} {G H G' H' : Hp} {σ : L2.St}
theorem env_set (e : EnvR K ρ G σ H) {v : V} {d : D} (h : Dp K G v d) (i : Nat) : EnvR K (ρ.set i (.val d)) G (σ.set i (some v)) H := by
  have key : ∀ {j : Nat} {x : Sl}, (ρ.set i (.val d))[j]? = some x → (j = i ∧ x = .val d ∧ i < ρ.length) ∨ (j ≠ i ∧ ρ[j]? = some x) := fun {j x} hj => by
    by_cases q : i = j
    · subst q
      by_cases hi : i < ρ.length
      · rw [List.getElem?_set_self hi] at hj; cases hj; exact .inl ⟨rfl, rfl, hi⟩
      · rw [List.getElem?_eq_none (by simpa using hi)] at hj; cases hj
    · rw [List.getElem?_set_ne q] at hj; exact .inr ⟨Ne.symm q, hj⟩
  refine ⟨by rw [List.length_set, List.length_set]; exact e.len, e.sub, fun j d' hj => ?_, fun j ds hj => ?_, fun j k a ds es hjk hj hk h5 h6 => ?_⟩
  · rcases key hj with ⟨rfl, q, hi⟩ | ⟨q, hj⟩
    · cases q
      exact ⟨v, List.getElem?_set_self (by rw [e.len]; exact hi), h⟩
    · obtain ⟨w, q1, q2⟩ := e.val j d' hj
      exact ⟨w, by rw [List.getElem?_set_ne (Ne.symm q)]; exact q1, q2⟩
  · rcases key hj with ⟨rfl, q, hi⟩ | ⟨q, hj⟩
    · cases q
    · obtain ⟨w, xs, q1, q2⟩ := e.own j ds hj
      exact ⟨w, xs, by rw [List.getElem?_set_ne (Ne.symm q)]; exact q1, q2⟩
  · rcases key hj with ⟨_, q, _⟩ | ⟨q, hj⟩
    · cases q
    rcases key hk with ⟨_, q, _⟩ | ⟨q2, hk⟩
    · cases q
    rw [List.getElem?_set_ne (Ne.symm q)] at h5
    rw [List.getElem?_set_ne (Ne.symm q2)] at h6
    exact e.sep j k a ds es hjk hj hk h5 h6
/-- some slots are known less of -/
theorem env_weak (e : EnvR K ρ G σ H) {σ' : L2.St} (hl : σ'.length = ρ'.length) (w : ∀ (j : Nat) (x : Sl), ρ'[j]? = some x → x = .un ∨ (ρ[j]? = some x ∧ σ'[j]? = σ[j]?)) : EnvR K ρ' G σ' H := by
  refine ⟨hl, e.sub, fun j d' hj => ?_, fun j ds hj => ?_, fun j k a ds es hjk hj hk h5 h6 => ?_⟩
  · rcases w j _ hj with q | ⟨q1, q2⟩
    · cases q
    · rw [q2]; exact e.val j d' q1
  · rcases w j _ hj with q | ⟨q1, q2⟩
    · cases q
    · rw [q2]; exact e.own j ds q1
  · rcases w j _ hj with q | ⟨q1, q2⟩
    · cases q
    rcases w k _ hk with q | ⟨q3, q4⟩
    · cases q
    rw [q2] at h5
    rw [q4] at h6
    exact e.sep j k a ds es hjk q1 q3 h5 h6
theorem env_un (e : EnvR K ρ G σ H) (i : Nat) (y : Option V) : EnvR K (ρ.set i .un) G (σ.set i y) H := by
  refine env_weak e (by rw [List.length_set, List.length_set]; exact e.len) fun j x hj => ?_
  by_cases q : i = j
  · subst q
    by_cases hi : i < ρ.length
    · rw [List.getElem?_set_self hi] at hj; cases hj; exact .inl rfl
    · rw [List.getElem?_eq_none (by simpa using hi)] at hj; cases hj
  · rw [List.getElem?_set_ne q] at hj
    exact .inr ⟨hj, List.getElem?_set_ne q⟩
theorem env_wipe (e : EnvR K ρ G σ H) : ∀ vs : List Nat, EnvR K (wipeR ρ vs) G (wipe σ vs) H
  | [] => e
  | v :: vs => env_un (env_wipe e vs) v none
theorem wipe_set_core (σ : L2.St) (i : Nat) (y : Option V) : ∀ vs : List Nat, (wipe (σ.set i y) vs).set i none = (wipe σ vs).set i none
  | [] => by unfold wipe; rw [List.set_set]
  | v :: vs => by
    unfold wipe
    by_cases q : v = i
    · subst q; rw [List.set_set, List.set_set]; exact wipe_set_core σ v y vs
    · rw [List.set_comm _ _ q, List.set_comm (a := none) (b := none) (l := wipe σ vs) q, wipe_set_core σ i y vs]
theorem wipe_set (σ : L2.St) {i : Nat} (y : Option V) : ∀ {vs : List Nat}, i ∈ vs → wipe (σ.set i y) vs = wipe σ vs
  | v :: vs, h => by
    unfold wipe
    by_cases q : v = i
    · subst q; exact wipe_set_core σ v y vs
    · rw [wipe_set σ y ((List.mem_cons.mp h).resolve_left fun z => q z.symm)]
end

/-! ### targets -/
def gMany : List Nat → TGs
  | [] => gNil
  | i :: is => gCons (gName i) (gMany is)
def gT (K : Fg) : Tg → TG
  | .one i => gName i
  | .many is => gTup K is.length (gMany is)
section
variable {Θ : Tb} {sc : Scope} {X : Cx} {pos : Pos} {x y z : Expr} {a b c : E}
theorem s_name (ok : OkX Θ sc X) {cell : Bool} (hf : cell = true → ∀ n, X.fn n = true) {i : Nat} (h : mName Θ.N sc cell i x = true) : PG X x (gName i) := by
  unfold mName at h
  split at h
  · rename_i n p
    simp only [Bool.and_eq_true, Bool.or_eq_true, decide_eq_true_eq] at h
    obtain ⟨h1, h2⟩ := h
    rcases h2 with h2 | ⟨h2, h3⟩
    · exact pg_name ok.nd (by rw [ok.N]; exact h1) (.inl (by rw [ok.sc]; exact h2)) (.inr (by rw [ok.sc]; exact h2))
    · exact pg_name ok.nd (by rw [ok.N]; exact h1) (.inr (by rw [ok.sc]; exact h3)) (.inl (hf h2 n))
  · cases h
theorem s_names (ok : OkX Θ sc X) {cell : Bool} (hf : cell = true → ∀ n, X.fn n = true) : ∀ {is : List Nat} {es : List Expr}, mNames Θ.N sc cell is es = true → PGs X es (gMany is) ∧ es.length = is.length ∧ (assignEach es X.env).length = is.length ∧ (assignEach es X.env).findIdx? (·.1) = none
  | [], [], _ => ⟨pgs_nil, rfl, rfl, rfl⟩
  | i :: is, e :: es, h => by
    unfold mNames at h
    rw [Bool.and_eq_true] at h
    obtain ⟨q1, q2, q3, q4⟩ := s_names ok hf h.2
    have h1 := s_name ok hf h.1
    have he := h.1
    unfold mName at he
    split at he
    · rename_i n p
      refine ⟨pgs_cons h1 q1, by rw [List.length_cons, List.length_cons, q2], ?_, ?_⟩
      · show (assignEach es X.env).length + 1 = is.length + 1
        rw [q3]
      · show List.findIdx? _ ((false, _) :: assignEach es X.env) = none
        rw [List.findIdx?_cons, q4]
        rfl
    · cases he
  | [], _ :: _, h => by simp [mNames] at h
  | _ :: _, [], h => by simp [mNames] at h
theorem s_tg (ok : OkX Θ sc X) {cell : Bool} (hf : cell = true → ∀ n, X.fn n = true) {tg : Tg} (h : mTg Θ.N sc cell tg x = true) : PG X x (gT X.K tg) := by
  unfold mTg at h
  split at h
  · exact s_name ok hf h
  · rename_i is es k p
    obtain ⟨q1, q2, q3, q4⟩ := s_names ok hf h
    exact pg_tup ok.calm q1 q3 q4
  · cases h
theorem run_many {K : Fg} {Q : L2.St → Hp → Prop} : ∀ {is : List Nat} {ρ ρ' : List Sl} {G H : Hp} {σ : L2.St} {vs : List V} {ds : List D}, EnvR K ρ G σ H → DpAll K G vs ds → setMany ρ is ds = some ρ' →
    (∀ σ', EnvR K ρ' G σ' H → (∀ ws : List Nat, (∀ i ∈ is, i ∈ ws) → wipe σ' ws = wipe σ ws) → Q σ' H) → gMany is vs σ H Q
  | [], ρ, ρ', G, H, σ, vs, ds, e, hv, hs, q => by
    cases ds with
    | cons _ _ => cases hs
    | nil => cases hs; cases hv; exact ⟨rfl, q σ e fun _ _ => rfl⟩
  | i :: is, ρ, ρ', G, H, σ, vs, ds, e, hv, hs, q => by
    cases ds with
    | nil => cases hs
    | cons d ds =>
      cases hv with
      | cons h1 h2 =>
        refine ⟨_, _, rfl, ?_⟩
        refine run_many (env_set e h1 i) h2 hs fun σ' e' hw => q σ' e' fun ws hi => ?_
        rw [hw ws fun j hj => hi j (List.mem_cons_of_mem _ hj)]
        exact wipe_set σ _ (hi i List.mem_cons_self)
theorem setMany_len : ∀ {is : List Nat} {ρ ρ' : List Sl} {ds : List D}, setMany ρ is ds = some ρ' → is.length = ds.length
  | [], _, _, [], _ => rfl
  | i :: is, _, _, d :: ds, h => by rw [List.length_cons, List.length_cons, setMany_len (ds := ds) h]
  | [], _, _, _ :: _, h => by cases h
  | _ :: _, _, _, [], h => by cases h
theorem run_tg {K : Fg} {tg : Tg} {ρ ρ' : List Sl} {G H : Hp} {σ : L2.St} {v : V} {d : D} {Q : L2.St → Hp → Prop} (e : EnvR K ρ G σ H) (hv : Dp K G v d) (hs : bindT tg ρ d = some ρ')
    (q : ∀ σ', EnvR K ρ' G σ' H → (∀ ws : List Nat, (∀ i ∈ tg.slots, i ∈ ws) → wipe σ' ws = wipe σ ws) → Q σ' H) : gT K tg v σ H Q := by
  cases tg with
  | one i =>
    cases hs
    exact q _ (env_set e hv i) fun ws hi => wipe_set σ _ (hi i (List.mem_singleton.mpr rfl))
  | many is =>
    cases hv with
    | tup h1 h2 =>
      have hl := setMany_len (show setMany ρ is _ = some ρ' from hs)
      exact ⟨_, _, rfl, sqt_mono e.sub h1, by rw [dpa_len h2, hl], run_many e h2 hs q⟩
    | _ => cases hs

/-! ### comprehensions -/
theorem wipe_wipe (σ : L2.St) : ∀ vs : List Nat, (∀ ws : List Nat, (∀ i ∈ vs, i ∈ ws) → wipe (wipe σ vs) ws = wipe σ ws)
  | [], _, _ => rfl
  | v :: vs, ws, h => by
    show wipe ((wipe σ vs).set v none) ws = wipe σ ws
    rw [wipe_set _ _ (h v List.mem_cons_self)]
    exact wipe_wipe σ vs ws fun i hi => h i (List.mem_cons_of_mem _ hi)
def tCd (Θ : Tb) (K : Fg) (c : E) : TT := match c with
  | .yes => tYes
  | c => tTs Θ K c
theorem s_lc {own : List (Str × Nat)} {tg : Tg} {it c elt : E} {σ : L2.St} {H : Hp} {Q : VK} (hsub : ∀ i ∈ tg.slots, i ∈ own.map (·.2))
    (h : tD Θ X.K (.comp own tg it c elt) σ H Q) : tLc (tIt Θ X.K it) (gT X.K tg) (tCd Θ X.K c) (tD Θ X.K elt) (own.map (·.2)) σ H Q := by
  obtain ⟨ρ, G, Φ, env, wp, out⟩ := h
  refine ⟨ρ, G, _, env, wp, fun r hr => let ⟨xs, h1, _⟩ := hr; ⟨xs, h1⟩, fun r xs G1 H1 J h1 hx g1 w => ?_⟩
  obtain ⟨xs', hx', h1⟩ := h1
  rw [hx] at hx'
  cases hx'
  intro L nL
  have out1 := out.step g1
  have env1 := env.grow g1
  refine lc_it w (fun i Hc => ∃ Gc acc dacc, Grow G1 H1 Gc Hc ∧ Hc L = some (.lst acc) ∧ Gc L = none ∧ DpAll X.K Gc acc dacc ∧
    compW (bindW tg (wipeR ρ (own.map (·.2)))) (wpE Θ c) (wpE Θ elt) (xs.drop i) dacc Φ) ?_ ?_ ?_ ?_
  · exact ⟨G1, [], [], grow_hid g1.sub nL, upd_same, g1.sub.free nL, .nil, h1⟩
  · rintro i Hc _ ⟨Gc, acc, dacc, g, _⟩
    exact g.g.trans g.sub
  · rintro i x Hc Hc' hi ⟨Gc, acc, dacc, g, hL, nG, ha, hw⟩ hy
    obtain ⟨d, G2, hd, g2, hv⟩ := hy Gc g.g g.sub
    have hi' : i < xs.length := hi
    have ed : xs[i] = d := by rw [List.getElem?_eq_getElem hi'] at hd; exact Option.some.inj hd
    rw [List.drop_eq_getElem_cons hi', ed] at hw
    obtain ⟨ρ', hb, hw⟩ := hw
    have gg : Grow G1 H1 G2 Hc' := g.trans g2
    refine run_tg (env_wipe (env1.grow gg) (own.map (·.2))) hv hb fun σ2 e2 hwp => ⟨by rw [hwp _ hsub, wipe_wipe _ _ _ fun _ z => z], ?_⟩
    have body : ∀ (k : Bool) (G3 H3 : Hp), Grow G2 Hc' G3 H3 → (match k with
        | true => wpE Θ elt ρ' fun y => dacc.length < sizeLine ∧ compW (bindW tg (wipeR ρ (own.map (·.2)))) (wpE Θ c) (wpE Θ elt) (xs.drop (i + 1)) (dacc ++ [y.d]) Φ
        | false => compW (bindW tg (wipeR ρ (own.map (·.2)))) (wpE Θ c) (wpE Θ elt) (xs.drop (i + 1)) dacc Φ) →
        (if k = true then tD Θ X.K elt σ2 H3 fun y H4 => ∃ acc, H4 L = some (.lst acc) ∧ acc.length < sizeLine ∧ ∃ Gc acc' dacc, Grow G1 H1 Gc (upd H4 L (.lst (acc ++ [y]))) ∧ upd H4 L (.lst (acc ++ [y])) L = some (.lst acc') ∧ Gc L = none ∧ DpAll X.K Gc acc' dacc ∧
            compW (bindW tg (wipeR ρ (own.map (·.2)))) (wpE Θ c) (wpE Θ elt) (xs.drop (i + 1)) dacc Φ
          else ∃ Gc acc dacc, Grow G1 H1 Gc H3 ∧ H3 L = some (.lst acc) ∧ Gc L = none ∧ DpAll X.K Gc acc dacc ∧
            compW (bindW tg (wipeR ρ (own.map (·.2)))) (wpE Θ c) (wpE Θ elt) (xs.drop (i + 1)) dacc Φ) := by
      intro k G3 H3 g3 hk
      have n2 : G2 L = none := g2.hid nG hL
      have L2' : Hc' L = some (.lst acc) := g2.h _ _ hL
      have n3 : G3 L = none := g3.hid n2 L2'
      have L3 : H3 L = some (.lst acc) := g3.h _ _ L2'
      have d3 : DpAll X.K G3 acc dacc := dpa_mono (g2.trans g3).g _ ha
      cases k with
      | false =>
        rw [if_neg Bool.false_ne_true]
        exact ⟨G3, acc, dacc, gg.trans g3, L3, n3, d3, hk⟩
      | true =>
        rw [if_pos rfl]
        refine ⟨ρ', G3, _, e2.grow g3, hk, fun r y G4 H4 hr g4 r4 => ?_⟩
        obtain ⟨G5, g5, _, d5⟩ := r4.frz g4
        have L4 : H4 L = some (.lst acc) := g5.h _ _ L3
        have n5 : G5 L = none := g5.hid n3 L3
        have gg5 : Grow G1 H1 G5 H4 := (gg.trans g3).trans g5
        refine ⟨acc, L4, by rw [dpa_len d3]; exact hr.1, G5, acc ++ [y], dacc ++ [r.d], ⟨fun b o q => ?_, gg5.g, fun b o q => ?_, gg5.new⟩, upd_same, n5, dpa_app (dpa_mono g5.g _ d3) (.cons d5 .nil), hr.2⟩
        · rw [upd_ne (ne_of_none q nL)]; exact gg5.h b o q
        · rw [upd_ne (ne_of_none q n5)]; exact gg5.sub b o q
    unfold tCd
    split
    · exact body true G2 Hc' (.refl g2.sub) hw
    · refine ⟨ρ', G2, _, e2, hw, fun r hr => ?_, fun k G3 H3 hk g3 => body k G3 H3 g3 ?_⟩
      · unfold boolW at hr
        split at hr
        · exact ⟨true, rfl⟩
        · exact ⟨false, rfl⟩
        · exact hr.elim
      · cases k with
        | true => exact hk
        | false => exact hk
  · rintro Hc ⟨Gc, acc, dacc, g, hL, nG, ha, hw⟩
    rw [List.drop_length] at hw
    exact out1 _ _ Gc Hc hw g ⟨L, acc, rfl, hL, nG, nL, ha⟩
theorem blk_ok {N : List Str} {sc scope : Scope} {own : List (Str × Nat)} (h : blkB N sc scope own = true) : BlkOk N sc scope own := by
  unfold blkB at h
  simp only [Bool.and_eq_true, decide_eq_true_eq, List.all_eq_true, Bool.or_eq_true, Bool.not_eq_true', decide_eq_false_iff_not, Bool.or_eq_false_iff] at h
  obtain ⟨⟨⟨⟨h1, h2⟩, h3⟩, h4⟩, h5⟩ := h
  refine ⟨h1, h2, h3, fun y hy e => ?_, fun y hy e => ?_⟩
  · rcases h4 y hy with (q | q) | q
    · exact absurd e q
    · exact .inl q
    · exact .inr q
  · rcases h5 y hy with (q | q) | q
    · rcases e with e | e
      · exact absurd e q.1
      · exact absurd e q.2
    · exact .inl q
    · exact .inr q
theorem s_comp (ok : OkX Θ sc X) {own : List (Str × Nat)} {tg : Tg} {it c elt : E} {tge iter el : Expr} {ifs : List Expr} {scope : Scope} (hb : blkB Θ.N sc scope own = true) (htg : mTg Θ.N (relS scope sc) false tg tge = true) (hsub : ∀ i ∈ tg.slots, i ∈ own.map (·.2)) (hns : notSet iter = true)
    (hi : PI X tge iter (tIt Θ X.K it)) (ht : ∀ (X' : Cx), X'.K = X.K → OkX Θ (relS scope sc) X' → PTs X' ifs (tCd Θ X'.K c)) (he : ∀ (X' : Cx), X'.K = X.K → OkX Θ (relS scope sc) X' → PE X' el (tD Θ X'.K elt)) :
    PE X (.ListComp el [⟨tge, iter, ifs, 0⟩] scope pos) (tD Θ X.K (.comp own tg it c elt)) := by
  refine pe_imp (pe_lc (tt := tCd Θ X.K c) (te := tD Θ X.K elt) (g := gT X.K tg) ok.calm ok.nd hi (by rw [ok.N, ok.sc]; exact blk_ok hb)
    (fun s H C cl fp => s_tg (X := X.blk s H scope (compEnvC scope cl C X.env) fp) (ok.blk s H C cl fp) (fun z => by cases z) htg)
    (fun s H C cl fp => ht (X.blk s H scope (compEnvC scope cl C X.env) fp) rfl (ok.blk s H C cl fp))
    (fun s H C cl fp => he (X.blk s H scope (compEnvC scope cl C X.env) fp) rfl (ok.blk s H C cl fp)) (fun _ => fold_set hns)) fun σ H Q h => s_lc hsub h
end
end PF

namespace PF
open PySem L2
def isL : E → Bool
  | .enil | .econs _ _ => true
  | _ => false
def isR : E → Bool
  | .rng1 _ | .rng2 _ _ | .enm _ => true
  | _ => false
def isBO : E → Bool
  | .and_ _ _ | .or_ _ _ | .one _ => true
  | _ => false
/-- may stand as a test -/
def isTs : E → Bool
  | .enil | .econs _ _ | .rng1 _ | .rng2 _ _ | .enm _ | .ite _ _ _ | .nop | .yes => false
  | .and_ a b => isTs a && isBO b && isTs b
  | .or_ a b => isTs a && isBO b && isTs b
  | .one a => isTs a
  | .not_ a => isTs a
  | .lend _ e => isTs e
  | _ => true
structure Snd (Θ : Tb) (X : Cx) (e' : E) (es : List Expr) : Prop where
  pe : isL e' = false → isR e' = false → ∀ e, es = [e] → PE X e (tD Θ X.K e')
  pa : isL e' = true → PA X es (tAr Θ X.K e')
  pi : isL e' = false → ∀ e tg, (isEn e' = true → isTup tg = true) → es = [e] → PI X tg e (tIt Θ X.K e')
  pw : isBO e' = true → isTs e' = true → ∀ e, es = [e] → PW X e (tTs Θ X.K e')
  pt : isTs e' = true → ∀ e, es = [e] → PT X e (tTs Θ X.K e')
section
variable {Θ : Tb} {sc : Scope} {X : Cx} {e' : E} {e : Expr} {es : List Expr}
theorem Snd.plain (hl : isL e' = false) (hb : isBO e' = false) (hp : plainT e = true) (h : PE X e (tD Θ X.K e')) : Snd Θ X e' [e] where
  pe := fun _ _ x q => by cases q; exact h
  pa := fun q => by rw [hl] at q; cases q
  pi := fun _ x tg _ q => by cases q; exact s_pi h
  pw := fun q => by rw [hb] at q; cases q
  pt := fun _ x q => by cases q; exact s_plainT hp h
theorem Snd.bo (hl : isL e' = false) (h : PE X e (tD Θ X.K e')) (hw : isTs e' = true → PW X e (tTs Θ X.K e')) : Snd Θ X e' [e] where
  pe := fun _ _ x q => by cases q; exact h
  pa := fun q => by rw [hl] at q; cases q
  pi := fun _ x tg _ q => by cases q; exact s_pi h
  pw := fun _ t x q => by cases q; exact hw t
  pt := fun t x q => by cases q; exact (hw t).pt
theorem Snd.tst (hl : isL e' = false) (hb : isBO e' = false) (h : PE X e (tD Θ X.K e')) (ht : isTs e' = true → PT X e (tTs Θ X.K e')) : Snd Θ X e' [e] where
  pe := fun _ _ x q => by cases q; exact h
  pa := fun q => by rw [hl] at q; cases q
  pi := fun _ x tg _ q => by cases q; exact s_pi h
  pw := fun q => by rw [hb] at q; cases q
  pt := fun t x q => by cases q; exact ht t
theorem Snd.args (hl : isL e' = true) (hs : isTs e' = false) (h : PA X es (tAr Θ X.K e')) : Snd Θ X e' es where
  pe := fun q => by rw [hl] at q; cases q
  pa := fun _ => h
  pi := fun q => by rw [hl] at q; cases q
  pw := fun _ q => by rw [hs] at q; cases q
  pt := fun q => by rw [hs] at q; cases q
theorem Snd.rng (hr : isR e' = true) (hl : isL e' = false) (hs : isTs e' = false) (h : ∀ tg, (isEn e' = true → isTup tg = true) → PI X tg e (tIt Θ X.K e')) : Snd Θ X e' [e] where
  pe := fun _ q => by rw [hr] at q; cases q
  pa := fun q => by rw [hl] at q; cases q
  pi := fun _ x tg t q => by cases q; exact h tg t
  pw := fun _ q => by rw [hs] at q; cases q
  pt := fun q => by rw [hs] at q; cases q
end
/-- sorts: what stands where a value is wanted is no list of values and no range -/
def okS : E → Bool
  | .bin _ a b | .cmp _ a b | .and_ a b | .or_ a b | .ix a b | .mix a b | .join a b | .rng2 a b => !isL a && !isR a && !isL b && !isR b && okS a && okS b
  | .lrg2 a b => !isL a && !isR a && !isL b && !isR b && okS a && okS b
  | .neg a | .one a | .not_ a | .isi a _ | .rng1 a | .sset a | .lrg1 a | .enm a => !isL a && !isR a && okS a
  | .ite c a b => !isL c && !isR c && isTs c && !isL a && !isR a && !isL b && !isR b && okS c && okS a && okS b
  | .sl a b c => !isL c && !isR c && !isL a && !isR a && !isL b && !isR b && okS c && okS a && okS b
  | .tup a | .lst a | .call _ a | .blt _ a => isL a && okS a
  | .econs a r => !isL a && !isR a && okS a && isL r && okS r
  | .comp _ _ it c elt => !isL it && okS it && (isYes c || (isTs c && okS c)) && !isL elt && !isR elt && okS elt
  | .lend _ e => !isL e && !isR e && okS e
  | _ => true
theorem sound {Θ : Tb} : ∀ (e' : E) (sc : Scope) (es : List Expr) (X : Cx), OkX Θ sc X → okS e' = true → mE Θ.st e' sc es = true → Snd Θ X e' es := by
  intro e'
  induction e' with
  | var i =>
    intro sc es X ok hs h
    unfold mE at h
    split at h
    · simp only [Bool.and_eq_true, decide_eq_true_eq] at h
      exact .plain rfl rfl rfl (s_var ok h.1.1 h.1.2 h.2)
    · cases h
  | int i =>
    intro sc es X ok hs h
    unfold mE at h
    split at h
    · simp only [decide_eq_true_eq] at h
      subst h
      exact .plain rfl rfl rfl s_int
    · cases h
  | bl i =>
    intro sc es X ok hs h
    unfold mE at h
    split at h
    · simp only [decide_eq_true_eq] at h
      subst h
      exact .plain rfl rfl rfl s_bl
    · cases h
  | str i =>
    intro sc es X ok hs h
    unfold mE at h
    split at h
    · simp only [decide_eq_true_eq] at h
      subst h
      exact .plain rfl rfl rfl s_str
    · cases h
  | non =>
    intro sc es X ok hs h
    unfold mE at h
    split at h
    · exact .plain rfl rfl rfl s_non
    · cases h
  | con j =>
    intro sc es X ok hs h
    unfold mE at h
    split at h
    · simp only [Bool.and_eq_true] at h
      obtain ⟨⟨h1, h2⟩, h3⟩ := h
      have h1 : (Θ.κ.map (·.1))[j]? = some _ := of_decide_eq_true h1
      rw [List.getElem?_map] at h1
      cases e : Θ.κ[j]? with
      | none => rw [e] at h1; cases h1
      | some p => rw [e] at h1; exact .plain rfl rfl rfl (s_con ok e (Option.some.inj h1) h2 h3)
    · cases h
  | bin op a b iha ihb =>
    intro sc es X ok hs h
    unfold mE at h
    simp only [okS, Bool.and_eq_true, Bool.not_eq_true'] at hs
    split at h
    · simp only [Bool.and_eq_true, decide_eq_true_eq] at h
      obtain ⟨⟨rfl, h1⟩, h2⟩ := h
      exact .plain rfl rfl rfl (s_bin ((iha sc _ X ok hs.1.2 h1).pe hs.1.1.1.1.1 hs.1.1.1.1.2 _ rfl) ((ihb sc _ X ok hs.2 h2).pe hs.1.1.1.2 hs.1.1.2 _ rfl))
    · cases h
  | neg a iha =>
    intro sc es X ok hs h
    unfold mE at h
    simp only [okS, Bool.and_eq_true, Bool.not_eq_true'] at hs
    split at h
    · exact .plain rfl rfl rfl (s_neg ((iha sc _ X ok hs.2 h).pe hs.1.1 hs.1.2 _ rfl))
    · cases h
  | cmp op a b iha ihb =>
    intro sc es X ok hs h
    unfold mE at h
    simp only [okS, Bool.and_eq_true, Bool.not_eq_true'] at hs
    split at h
    · simp only [Bool.and_eq_true, decide_eq_true_eq, Bool.not_eq_true'] at h
      obtain ⟨⟨⟨rfl, h3⟩, h1⟩, h2⟩ := h
      have p1 := (iha sc _ X ok hs.1.2 h1).pe hs.1.1.1.1.1 hs.1.1.1.1.2 _ rfl
      have p2 := (ihb sc _ X ok hs.2 h2).pe hs.1.1.1.2 hs.1.1.2 _ rfl
      exact .tst rfl rfl (s_cmp ok h3 p1 p2) fun _ => s_cmpT ok h3 p1 p2
    · cases h
  | and_ a b iha ihb =>
    intro sc es X ok hs h
    unfold mE at h
    simp only [okS, Bool.and_eq_true, Bool.not_eq_true'] at hs
    split at h
    · simp only [Bool.and_eq_true] at h
      have s1 := iha sc _ X ok hs.1.2 h.1
      have s2 := ihb sc _ X ok hs.2 h.2
      refine .bo rfl (s_and (s1.pe hs.1.1.1.1.1 hs.1.1.1.1.2 _ rfl) (s2.pe hs.1.1.1.2 hs.1.1.2 _ rfl)) fun t => ?_
      simp only [isTs, Bool.and_eq_true] at t
      exact s_andW (s1.pt t.1.1 _ rfl) (s2.pw t.1.2 t.2 _ rfl)
    · cases h
  | or_ a b iha ihb =>
    intro sc es X ok hs h
    unfold mE at h
    simp only [okS, Bool.and_eq_true, Bool.not_eq_true'] at hs
    split at h
    · simp only [Bool.and_eq_true] at h
      have s1 := iha sc _ X ok hs.1.2 h.1
      have s2 := ihb sc _ X ok hs.2 h.2
      refine .bo rfl (s_or (s1.pe hs.1.1.1.1.1 hs.1.1.1.1.2 _ rfl) (s2.pe hs.1.1.1.2 hs.1.1.2 _ rfl)) fun t => ?_
      simp only [isTs, Bool.and_eq_true] at t
      exact s_orW (s1.pt t.1.1 _ rfl) (s2.pw t.1.2 t.2 _ rfl)
    · cases h
  | one a iha =>
    intro sc es X ok hs h
    unfold mE at h
    simp only [okS, Bool.and_eq_true, Bool.not_eq_true'] at hs
    split at h
    · have s1 := iha sc _ X ok hs.2 h
      exact .bo rfl (s_one (s1.pe hs.1.1 hs.1.2 _ rfl)) fun t => s_oneW (s1.pt t _ rfl)
    · cases h
  | not_ a iha =>
    intro sc es X ok hs h
    unfold mE at h
    simp only [okS, Bool.and_eq_true, Bool.not_eq_true'] at hs
    split at h
    · have s1 := iha sc _ X ok hs.2 h
      exact .tst rfl rfl (s_not (s1.pe hs.1.1 hs.1.2 _ rfl)) fun t => s_notT (s1.pt t _ rfl)
    · cases h
  | ite c a b ihc iha ihb =>
    intro sc es X ok hs h
    unfold mE at h
    simp only [okS, Bool.and_eq_true, Bool.not_eq_true'] at hs
    obtain ⟨⟨⟨⟨⟨⟨⟨⟨⟨c1, c2⟩, c3⟩, a1⟩, a2⟩, b1⟩, b2⟩, c4⟩, a4⟩, b4⟩ := hs
    split at h
    · simp only [Bool.and_eq_true] at h
      exact .tst rfl rfl (s_ite ((ihc sc _ X ok c4 h.1.1).pt c3 _ rfl) ((iha sc _ X ok a4 h.1.2).pe a1 a2 _ rfl) ((ihb sc _ X ok b4 h.2).pe b1 b2 _ rfl)) fun t => by cases t
    · cases h
  | tup a iha =>
    intro sc es X ok hs h
    unfold mE at h
    simp only [okS, Bool.and_eq_true] at hs
    split at h
    · exact .plain rfl rfl rfl (s_tup ((iha sc _ X ok hs.2 h).pa hs.1))
    · cases h
  | lst a iha =>
    intro sc es X ok hs h
    unfold mE at h
    simp only [okS, Bool.and_eq_true] at hs
    split at h
    · exact .plain rfl rfl rfl (s_lst ((iha sc _ X ok hs.2 h).pa hs.1))
    · cases h
  | enil =>
    intro sc es X ok hs h
    unfold mE at h
    split at h
    · exact .args rfl rfl s_nil
    · cases h
  | econs a r iha ihr =>
    intro sc es X ok hs h
    unfold mE at h
    simp only [okS, Bool.and_eq_true, Bool.not_eq_true'] at hs
    split at h
    · simp only [Bool.and_eq_true] at h
      exact .args rfl rfl (s_cons h.1.1 ((iha sc _ X ok hs.1.1.2 h.1.2).pe hs.1.1.1.1 hs.1.1.1.2 _ rfl) ((ihr sc _ X ok hs.2 h.2).pa hs.1.2))
    · cases h
  | ix a b iha ihb =>
    intro sc es X ok hs h
    unfold mE at h
    simp only [okS, Bool.and_eq_true, Bool.not_eq_true'] at hs
    split at h
    · simp only [Bool.and_eq_true] at h
      exact .plain rfl rfl rfl (s_ix h.1.1 ((iha sc _ X ok hs.1.2 h.1.2).pe hs.1.1.1.1.1 hs.1.1.1.1.2 _ rfl) ((ihb sc _ X ok hs.2 h.2).pe hs.1.1.1.2 hs.1.1.2 _ rfl))
    · cases h
  | sl a lo hi iha ihl ihh =>
    intro sc es X ok hs h
    unfold mE at h
    simp only [okS, Bool.and_eq_true, Bool.not_eq_true'] at hs
    obtain ⟨⟨⟨⟨⟨⟨⟨⟨c1, c2⟩, a1⟩, a2⟩, b1⟩, b2⟩, c4⟩, a4⟩, b4⟩ := hs
    split at h
    · rename_i x l hh p2 p
      simp only [Bool.and_eq_true] at h
      refine .plain rfl rfl rfl (s_sl ((iha sc _ X ok a4 h.1.1).pe a1 a2 _ rfl) ?_ ?_)
      · have q := h.1.2
        cases l with
        | none => cases lo <;> first | (cases q; done) | exact s_pn
        | some l => exact s_po ((ihl sc _ X ok b4 q).pe b1 b2 _ rfl)
      · have q := h.2
        cases hh with
        | none => cases hi <;> first | (cases q; done) | exact s_pn
        | some l => exact s_po ((ihh sc _ X ok c4 q).pe c1 c2 _ rfl)
    · cases h
  | nop =>
    intro sc es X ok hs h
    cases h
  | yes =>
    intro sc es X ok hs h
    cases h
  | call j a iha =>
    intro sc es X ok hs h
    unfold mE at h
    simp only [okS, Bool.and_eq_true] at hs
    split at h
    · simp only [Bool.and_eq_true] at h
      obtain ⟨⟨⟨⟨h1, h2⟩, h3⟩, h4⟩, h5⟩ := h
      have h1 : (Θ.φ.map (·.name))[j]? = some _ := of_decide_eq_true h1
      rw [List.getElem?_map] at h1
      cases e : Θ.φ[j]? with
      | none => rw [e] at h1; cases h1
      | some fe => rw [e] at h1; exact .plain rfl rfl rfl (s_call ok e (Option.some.inj h1) h2 h3 h4 ((iha sc _ X ok hs.2 h5).pa hs.1))
    · cases h
  | blt f a iha =>
    intro sc es X ok hs h
    unfold mE at h
    simp only [okS, Bool.and_eq_true] at hs
    split at h
    · simp only [Bool.and_eq_true, decide_eq_true_eq] at h
      obtain ⟨⟨⟨⟨rfl, h2⟩, h3⟩, h4⟩, h5⟩ := h
      exact .plain rfl rfl rfl (s_blt ok h2 h3 h4 ((iha sc _ X ok hs.2 h5).pa hs.1))
    · cases h
  | isi a t iha =>
    intro sc es X ok hs h
    unfold mE at h
    simp only [okS, Bool.and_eq_true, Bool.not_eq_true'] at hs
    split at h
    · simp only [Bool.and_eq_true, decide_eq_true_eq] at h
      obtain ⟨⟨⟨⟨⟨⟨⟨rfl, h1⟩, h2⟩, rfl⟩, h3⟩, h4⟩, h5⟩, h6⟩ := h
      exact .plain rfl rfl rfl (s_isi ok h1 h2 h3 h4 h5 ((iha sc _ X ok hs.2 h6).pe hs.1.1 hs.1.2 _ rfl))
    · cases h
  | mix o a iho iha =>
    intro sc es X ok hs h
    unfold mE at h
    simp only [okS, Bool.and_eq_true, Bool.not_eq_true'] at hs
    split at h
    · simp only [Bool.and_eq_true, decide_eq_true_eq] at h
      obtain ⟨⟨⟨⟨⟨rfl, h1⟩, h2⟩, h3⟩, h4⟩, h5⟩ := h
      exact .plain rfl rfl rfl (s_mix ok h1 h2 h3 ((iho sc _ X ok hs.1.2 h4).pe hs.1.1.1.1.1 hs.1.1.1.1.2 _ rfl) ((iha sc _ X ok hs.2 h5).pe hs.1.1.1.2 hs.1.1.2 _ rfl))
    · cases h
  | join o a iho iha =>
    intro sc es X ok hs h
    unfold mE at h
    simp only [okS, Bool.and_eq_true, Bool.not_eq_true'] at hs
    split at h
    · simp only [Bool.and_eq_true, decide_eq_true_eq] at h
      obtain ⟨⟨⟨⟨⟨rfl, h1⟩, h2⟩, h3⟩, h4⟩, h5⟩ := h
      exact .plain rfl rfl rfl (s_join ok h1 h2 h3 ((iho sc _ X ok hs.1.2 h4).pe hs.1.1.1.1.1 hs.1.1.1.1.2 _ rfl) ((iha sc _ X ok hs.2 h5).pe hs.1.1.1.2 hs.1.1.2 _ rfl))
    · cases h
  | comp own tg it c elt ihi ihc ihe =>
    intro sc es X ok hs h
    unfold mE at h
    simp only [okS, Bool.and_eq_true, Bool.not_eq_true', Bool.or_eq_true] at hs
    obtain ⟨⟨⟨⟨⟨i1, i2⟩, c1⟩, e1⟩, e2⟩, e3⟩ := hs
    split at h
    · rename_i el t iter ifs scope p
      simp only [Bool.and_eq_true] at h
      obtain ⟨⟨⟨⟨⟨⟨⟨h1, h2⟩, h3⟩, h4⟩, hen⟩, h5⟩, h6⟩, h7⟩ := h
      have hen : isEn it = true → isTup t = true := fun z => by rw [z] at hen; simpa using hen
      refine .plain rfl rfl rfl (s_comp ok h1 h2 (fun i hi => of_decide_eq_true (List.all_eq_true.mp h3 i hi)) h4 ((ihi sc _ X ok i2 h5).pi i1 _ t hen rfl) (fun X' hK ok' => ?_) (fun X' hK ok' => (ihe _ _ X' ok' e3 h7).pe e1 e2 _ rfl))
      split at h6
      · cases c <;> first | (cases h6; done) | exact pts_nil
      · rename_i x
        have c2 : isTs c = true ∧ okS c = true := by
          rcases c1 with c1 | c1
          · cases c <;> first | (cases c1; done) | (cases h6; done)
          · exact c1
        have s := (ihc _ _ X' ok' c2.2 h6).pt c2.1 _ rfl
        have e : tCd Θ X'.K c = tTs Θ X'.K c := by cases c <;> first | rfl | (cases h6; done)
        rw [e]
        exact pts_one s
      · cases h6
    · cases h
  | rng1 a iha =>
    intro sc es X ok hs h
    unfold mE at h
    simp only [okS, Bool.and_eq_true, Bool.not_eq_true'] at hs
    split at h
    · simp only [Bool.and_eq_true, decide_eq_true_eq] at h
      obtain ⟨⟨⟨⟨rfl, h1⟩, h2⟩, h3⟩, h4⟩ := h
      exact .rng rfl rfl rfl fun tg _ => s_rng1 ok h1 h2 h3 ((iha sc _ X ok hs.2 h4).pe hs.1.1 hs.1.2 _ rfl)
    · cases h
  | rng2 a b iha ihb =>
    intro sc es X ok hs h
    unfold mE at h
    simp only [okS, Bool.and_eq_true, Bool.not_eq_true'] at hs
    split at h
    · simp only [Bool.and_eq_true, decide_eq_true_eq] at h
      obtain ⟨⟨⟨⟨⟨⟨rfl, h1⟩, h2⟩, h3⟩, h4⟩, h5⟩, h6⟩ := h
      exact .rng rfl rfl rfl fun tg _ => s_rng2 ok h1 h2 h3 h4 ((iha sc _ X ok hs.1.2 h5).pe hs.1.1.1.1.1 hs.1.1.1.1.2 _ rfl) ((ihb sc _ X ok hs.2 h6).pe hs.1.1.1.2 hs.1.1.2 _ rfl)
    · cases h
  | sset a iha =>
    intro sc es X ok hs h
    unfold mE at h
    simp only [okS, Bool.and_eq_true, Bool.not_eq_true'] at hs
    split at h
    · simp only [Bool.and_eq_true, decide_eq_true_eq] at h
      obtain ⟨⟨⟨⟨⟨⟨⟨rfl, h1⟩, h2⟩, rfl⟩, h3⟩, h4⟩, h5⟩, h6⟩ := h
      exact .plain rfl rfl rfl (s_sset ok h1 h2 h3 h4 h5 ((iha sc _ X ok hs.2 h6).pe hs.1.1 hs.1.2 _ rfl))
    · cases h
  | lrg1 a iha =>
    intro sc es X ok hs h
    unfold mE at h
    simp only [okS, Bool.and_eq_true, Bool.not_eq_true'] at hs
    split at h
    · simp only [Bool.and_eq_true, decide_eq_true_eq] at h
      obtain ⟨⟨⟨⟨⟨⟨⟨rfl, h1⟩, h2⟩, rfl⟩, h3⟩, h4⟩, h5⟩, h6⟩ := h
      exact .plain rfl rfl rfl (s_lrg1 ok h1 h2 h3 h4 h5 ((iha sc _ X ok hs.2 h6).pe hs.1.1 hs.1.2 _ rfl))
    · cases h
  | lrg2 a b iha ihb =>
    intro sc es X ok hs h
    unfold mE at h
    simp only [okS, Bool.and_eq_true, Bool.not_eq_true'] at hs
    split at h
    · simp only [Bool.and_eq_true, decide_eq_true_eq] at h
      obtain ⟨⟨⟨⟨⟨⟨⟨⟨⟨rfl, h1⟩, h2⟩, rfl⟩, h3⟩, h4⟩, h5⟩, h5'⟩, h6⟩, h7⟩ := h
      exact .plain rfl rfl rfl (s_lrg2 ok h1 h2 h3 h4 h5 h5' ((iha sc _ X ok hs.1.2 h6).pe hs.1.1.1.1.1 hs.1.1.1.1.2 _ rfl) ((ihb sc _ X ok hs.2 h7).pe hs.1.1.1.2 hs.1.1.2 _ rfl))
    · cases h
  | enm a iha =>
    intro sc es X ok hs h
    unfold mE at h
    simp only [okS, Bool.and_eq_true, Bool.not_eq_true'] at hs
    split at h
    · simp only [Bool.and_eq_true, decide_eq_true_eq] at h
      obtain ⟨⟨⟨⟨rfl, h1⟩, h2⟩, h3⟩, h4⟩ := h
      refine .rng rfl rfl rfl fun tg t => ?_
      cases tg <;> first | exact s_enm ok h1 h2 h3 ((iha sc _ X ok hs.2 h4).pe hs.1.1 hs.1.2 _ rfl) | exact absurd (t rfl) Bool.false_ne_true
    · cases h
  | lend i e ih =>
    intro sc es X ok hs h
    have h : mE Θ.st e sc es = true := h
    simp only [okS, Bool.and_eq_true, Bool.not_eq_true'] at hs
    have s := ih sc es X ok hs.2 h
    exact ⟨fun _ _ x q => s_lend (s.pe hs.1.1 hs.1.2 x q), (fun q => by cases q), fun _ x tg _ q => s_pi (s_lend (s.pe hs.1.1 hs.1.2 x q)), (fun q => by cases q), fun t x q => s_lendT (s.pt t x q)⟩
end PF

namespace PF
open PySem L2

inductive S where
  | nil | seq (a b : S)
  | set (i : Nat) (own : Bool) (e : E)
  | setLc (i : Nat) (own : Bool) (e : E)
  | unpack (is : List Nat) (e : E)
  | ret (e : E) | retO (i : Nat) | retN
  | ife (c : E) (a b : S)
  | for_ (tg : Tg) (it : E) (b : S)
  | while_ (c : E) (b : S)
  | app (i : Nat) (e : E)
  | expr (e : E)
  | frz (i : Nat)
  | pass | brk | cont
structure Post where
  nx : List Sl → Prop
  rt : R → Prop
  bk : List Sl → Prop
  ct : List Sl → Prop
def putW (own : Bool) (i : Nat) (ρ : List Sl) (k : List Sl → Prop) : R → Prop
  | .new ds => match own with
    | true => k (ρ.set i (.own ds))
    | false => k (ρ.set i (.val (.list ds)))
  | .val d => match own with
    | true => False
    | false => k (ρ.set i (.val d))
  | .args _ => False
def loopW (t : List Sl → D → Option (List Sl)) (b : List Sl → (List Sl → Prop) → Prop) : List D → List Sl → (List Sl → Prop) → Prop
  | [], ρ, k => k ρ
  | x :: r, ρ, k => ∃ ρ', t ρ x = some ρ' ∧ b ρ' fun ρ'' => loopW t b r ρ'' k
def whileW (c : List Sl → (R → Prop) → Prop) (b : List Sl → (List Sl → Prop) → Prop) (k : List Sl → Prop) : Nat → List Sl → Prop
  | 0, _ => False
  | n + 1, ρ => c ρ (boolW (b ρ fun ρ' => whileW c b k n ρ') (k ρ))
def wpS (Θ : Tb) : S → List Sl → Post → Prop
  | .nil, ρ, P => P.nx ρ
  | .seq a b, ρ, P => wpS Θ a ρ { P with nx := fun ρ' => wpS Θ b ρ' P }
  | .set i own e, ρ, P => wpE Θ e ρ (putW own i ρ P.nx)
  | .setLc i own e, ρ, P => wpE Θ e ρ (putW own i ρ P.nx)
  | .unpack is e, ρ, P => wpE Θ e ρ fun r => match r with
    | .val (.tuple ds) => ∃ ρ', setMany ρ is ds = some ρ' ∧ P.nx ρ'
    | _ => False
  | .ret e, ρ, P => wpE Θ e ρ P.rt
  | .retO i, ρ, P => match ρ[i]? with
    | some (.own ds) => P.rt (.new ds)
    | _ => False
  | .retN, _, P => P.rt (.val .none)
  | .ife c a b, ρ, P => wpE Θ c ρ (boolW (wpS Θ a ρ P) (wpS Θ b ρ P))
  | .for_ tg it b, ρ, P => wpE Θ it ρ fun r => itemsW r fun xs => loopW (bindT tg) (fun ρ' k => wpS Θ b ρ' { nx := k, ct := k, bk := P.nx, rt := P.rt }) xs ρ P.nx
  | .while_ c b, ρ, P => ∃ n, whileW (fun ρ' k => wpE Θ c ρ' k) (fun ρ' k => wpS Θ b ρ' { nx := k, ct := k, bk := P.nx, rt := P.rt }) P.nx n ρ
  | .app i e, ρ, P => match ρ[i]? with
    | some (.own ds) => wpE Θ e ρ fun r => ds.length < sizeLine ∧ P.nx (ρ.set i (.own (ds ++ [r.d])))
    | _ => False
  | .expr e, ρ, P => wpE Θ e ρ fun _ => P.nx ρ
  | .frz i, ρ, P => match ρ[i]? with
    | some (.own ds) => P.nx (ρ.set i (.val (.list ds)))
    | _ => False
  | .pass, ρ, P => P.nx ρ
  | .brk, ρ, P => P.bk ρ
  | .cont, ρ, P => P.ct ρ

def isG : S → Bool
  | .frz _ => true
  | _ => false
def isB : S → Bool
  | .nil | .seq _ _ => true
  | _ => false
def notComp : Expr → Bool
  | .ListComp .. | .SetComp .. | .DictComp .. => false
  | _ => true
def notTup : Expr → Bool
  | .Tuple .. => false
  | _ => true
/-- a comprehension given to a name that other blocks read too: stored as any value -/
def cellLc (sc : Scope) (x : Str) : Expr → Bool
  | .ListComp .. => decide (sc.names.lookup x = some .cell)
  | _ => false
def mS (Θ : Ts) (sc : Scope) : S → List Stmt → Bool
  | .nil, sts => sts.isEmpty
  | .seq a b, sts => if isG a then isB b && mS Θ sc b sts else match sts with
    | st :: rest => !isB a && mS Θ sc a [st] && isB b && mS Θ sc b rest
    | [] => false
  | .set i _ e, sts => match sts with
    | [.Assign [.Name x _] v _] => mName Θ.N sc true i (.Name x ⟨0, 0, 0, 0⟩) && (notComp v || cellLc sc x v) && !isL e && !isR e && okS e && mE Θ e sc [v]
    | _ => false
  | .setLc i _ e, sts => match sts with
    | [.Assign [.Name x px] (.ListComp el [⟨t, iter, ifs, 0⟩] scope p) _] => decide (Θ.N[i]? = some x) && decide (sc.names.lookup x = some .local) && (px.line == p.line) && decide (sc.kind = .function) &&
        !(scope.names.any fun (n, k) => n == x && (k == .local || k == .cell)) && (match e with | .comp .. => true | _ => false) && okS e && mE Θ e sc [.ListComp el [⟨t, iter, ifs, 0⟩] scope p]
    | _ => false
  | .unpack is e, sts => match sts with
    | [.Assign [.Tuple ts k p] v _] => mNames Θ.N sc true is ts && notTup v && !isL e && !isR e && okS e && mE Θ e sc [v]
    | _ => false
  | .ret e, sts => match sts with
    | [.Return (some v) _] => !isL e && !isR e && okS e && mE Θ e sc [v]
    | _ => false
  | .retO i, sts => match sts with
    | [.Return (some (.Name x _)) _] => decide (Θ.N[i]? = some x) && visB sc x && okN x
    | _ => false
  | .retN, sts => match sts with
    | [.Return none _] => true
    | _ => false
  | .ife c a b, sts => match sts with
    | [.If t p q _] => isTs c && okS c && mE Θ c sc [t] && isB a && isB b && mS Θ sc a p && mS Θ sc b q
    | _ => false
  | .for_ tg it b, sts => match sts with
    | [.For t iter body [] _] => mTg Θ.N sc true tg t && notSet iter && (!isEn it || isTup t) && !isL it && okS it && mE Θ it sc [iter] && isB b && mS Θ sc b body
    | _ => false
  | .while_ c b, sts => match sts with
    | [.While t body [] _] => isTs c && okS c && mE Θ c sc [t] && isB b && mS Θ sc b body
    | _ => false
  | .app i e, sts => match sts with
    | [.Expr (.Call (.Attribute (.Name x _) n ap) [y] [] cp) _] => decide (Θ.N[i]? = some x) && visB sc x && okN x && decide (n = "append") && notStar y && (ap.endLine == cp.line) && !isL e && !isR e && okS e && mE Θ e sc [y]
    | _ => false
  | .expr e, sts => match sts with
    | [.Expr v _] => notComp v && !isL e && !isR e && okS e && mE Θ e sc [v]
    | _ => false
  | .frz _, _ => false
  | .pass, sts => match sts with
    | [.Pass _] => true
    | _ => false
  | .brk, sts => match sts with
    | [.Break _] => true
    | _ => false
  | .cont, sts => match sts with
    | [.Continue _] => true
    | _ => false

structure OkF (Θ : Tb) (sc : Scope) (X : Cx) : Prop extends OkX Θ sc X where
  fn : ∀ x, X.fn x = true
  own : PassesOwn (model X.prog X.w) X.A X.env X.xe
/-- the slots, over the entry G0, H0 of the def -/
structure EnvS (K : Fg) (G0 H0 : Hp) (ρ : List Sl) (G : Hp) (σ : L2.St) (H : Hp) : Prop where
  env : EnvR K ρ G σ H
  g : Grow G0 H0 G H
  young : ∀ (i : Nat) (ds : List D) (a : Addr), ρ[i]? = some (Sl.own ds) → σ[i]? = some (some (.ref a)) → H0 a = none
structure OutS (K : Fg) (G0 H0 : Hp) (P : Post) (D : Ends) : Prop where
  nx : ∀ ρ G σ H, P.nx ρ → EnvS K G0 H0 ρ G σ H → D.nx σ H
  bk : ∀ ρ G σ H, P.bk ρ → EnvS K G0 H0 ρ G σ H → D.bk σ H
  ct : ∀ ρ G σ H, P.ct ρ → EnvS K G0 H0 ρ G σ H → D.ct σ H
  rt : ∀ r v G H, P.rt r → Grow G0 H0 G H → RRep K H0 G H r v → D.rt v H
def tS (Θ : Tb) (K : Fg) (s : S) : TS := fun D σ H => ∃ G0 H0 ρ G P, EnvS K G0 H0 ρ G σ H ∧ wpS Θ s ρ P ∧ OutS K G0 H0 P D
theorem ps_imp {X : Cx} {e : Stmt} {t t' : TS} (h : PS X e t) (k : ∀ D σ H, t' D σ H → t D σ H) : PS X e t' := ⟨fun pins s σ H D I hw => h.run pins s σ H D I (k D σ H hw)⟩
theorem pss_imp {X : Cx} {e : List Stmt} {t t' : TS} (h : PSs X e t) (k : ∀ D σ H, t' D σ H → t D σ H) : PSs X e t' := ⟨fun pins s σ H D I hw => h.run pins s σ H D I (k D σ H hw)⟩

section
variable {K : Fg} {G0 H0 G H G' H' : Hp} {ρ : List Sl} {σ : L2.St}
theorem EnvS.grow (e : EnvS K G0 H0 ρ G σ H) (g : Grow G H G' H') : EnvS K G0 H0 ρ G' σ H' := ⟨e.env.grow g, e.g.trans g, e.young⟩
theorem EnvS.set (e : EnvS K G0 H0 ρ G σ H) {v : V} {d : D} (h : Dp K G v d) (i : Nat) : EnvS K G0 H0 (ρ.set i (.val d)) G (σ.set i (some v)) H := by
  refine ⟨env_set e.env h i, e.g, fun j ds a hj hs => ?_⟩
  by_cases q : i = j
  · subst q
    by_cases hi : i < ρ.length
    · rw [List.getElem?_set_self hi] at hj; cases hj
    · rw [List.getElem?_eq_none (by simpa using hi)] at hj; cases hj
  · rw [List.getElem?_set_ne q] at hj hs
    exact e.young j ds a hj hs
/-- a new list becomes one's own -/
theorem EnvS.setO (e : EnvS K G0 H0 ρ G σ H) (g : Grow G H G' H') {a : Addr} {xs : List V} {ds : List D} (h1 : H' a = some (.lst xs)) (h2 : G' a = none) (h3 : H a = none) (h4 : DpAll K G' xs ds) (i : Nat) :
    EnvS K G0 H0 (ρ.set i (.own ds)) G' (σ.set i (some (.ref a))) H' := by
  have e' := e.grow g
  have key : ∀ {j : Nat} {x : Sl}, (ρ.set i (.own ds))[j]? = some x → (j = i ∧ x = .own ds ∧ i < ρ.length) ∨ (j ≠ i ∧ ρ[j]? = some x) := fun {j x} hj => by
    by_cases q : i = j
    · subst q
      by_cases hi : i < ρ.length
      · rw [List.getElem?_set_self hi] at hj; cases hj; exact .inl ⟨rfl, rfl, hi⟩
      · rw [List.getElem?_eq_none (by simpa using hi)] at hj; cases hj
    · rw [List.getElem?_set_ne q] at hj; exact .inr ⟨Ne.symm q, hj⟩
  have nA : ∀ (j : Nat) (es : List D), ρ[j]? = some (Sl.own es) → σ[j]? = some (some (.ref a)) → False := fun j es hj hs => by
    obtain ⟨b, ys, q1, q2, _⟩ := e.env.own j es hj
    rw [hs] at q1
    cases q1
    rw [h3] at q2
    cases q2
  refine ⟨⟨by rw [List.length_set, List.length_set]; exact e.env.len, e'.env.sub, fun j d hj => ?_, fun j es hj => ?_, fun j k b es fs hjk hj0 hk h5 h6 => ?_⟩, e'.g, fun j es b hj hs => ?_⟩
  · rcases key hj with ⟨_, q, _⟩ | ⟨q, hj⟩
    · cases q
    · obtain ⟨w, q1, q2⟩ := e'.env.val j d hj
      exact ⟨w, by rw [List.getElem?_set_ne (Ne.symm q)]; exact q1, q2⟩
  · rcases key hj with ⟨rfl, q, hi⟩ | ⟨q, hj⟩
    · cases q
      exact ⟨a, xs, List.getElem?_set_self (by rw [e.env.len]; exact hi), h1, h2, h4⟩
    · obtain ⟨w, ys, q1, q2⟩ := e'.env.own j es hj
      exact ⟨w, ys, by rw [List.getElem?_set_ne (Ne.symm q)]; exact q1, q2⟩
  · rcases key hj0 with ⟨rfl, q, hi⟩ | ⟨q, hj⟩
    · rcases key hk with ⟨rfl, _, _⟩ | ⟨q2, hk⟩
      · exact hjk rfl
      · rw [List.getElem?_set_self (by rw [e.env.len]; exact hi)] at h5
        rw [List.getElem?_set_ne (Ne.symm q2)] at h6
        cases h5
        exact nA k fs hk h6
    · clear hj0
      rw [List.getElem?_set_ne (Ne.symm q)] at h5
      rcases key hk with ⟨rfl, q2, hi⟩ | ⟨q2, hk⟩
      · rw [List.getElem?_set_self (by rw [e.env.len]; exact hi)] at h6
        cases h6
        exact nA j es hj h5
      · rw [List.getElem?_set_ne (Ne.symm q2)] at h6
        exact e.env.sep j k b es fs hjk hj hk h5 h6
  · rcases key hj with ⟨rfl, q, hi⟩ | ⟨q, hj⟩
    · rw [List.getElem?_set_self (by rw [e.env.len]; exact hi)] at hs
      cases hs
      exact e.g.h.free h3
    · rw [List.getElem?_set_ne (Ne.symm q)] at hs
      exact e.young j es b hj hs
theorem EnvS.put (e : EnvS K G0 H0 ρ G σ H) (g : Grow G H G' H') {own : Bool} {i : Nat} {k : List Sl → Prop} {r : R} {v : V} (hp : putW own i ρ k r) (rr : RRep K H G' H' r v) : ∃ ρ' G2, k ρ' ∧ EnvS K G0 H0 ρ' G2 (σ.set i (some v)) H' := by
  cases r with
  | args _ => exact hp.elim
  | val d =>
    cases own with
    | true => exact hp.elim
    | false => exact ⟨_, G', hp, (e.grow g).set rr i⟩
  | new ds =>
    cases own with
    | true =>
      obtain ⟨a, xs, rfl, h1, h2, h3, h4⟩ := rr
      exact ⟨_, G', hp, e.setO g h1 h2 h3 h4 i⟩
    | false =>
      obtain ⟨G2, g2, _, hd⟩ := RRep.frz g rr
      exact ⟨_, G2, hp, (e.grow g2).set hd i⟩
/-- one's own list is given away -/
theorem EnvS.frz (e : EnvS K G0 H0 ρ G σ H) {i : Nat} {ds : List D} (h : ρ[i]? = some (.own ds)) : ∃ G2, EnvS K G0 H0 (ρ.set i (.val (.list ds))) G2 σ H := by
  obtain ⟨p, xs, h1, h2, h3, h4⟩ := e.env.own i ds h
  have hi : i < ρ.length := (List.getElem?_eq_some_iff.mp h).1
  have sG : Same G (upd G p (.lst xs)) := same_up h3
  refine ⟨upd G p (.lst xs), ⟨by rw [List.length_set]; exact e.env.len, same_into e.env.sub h2, fun j d hj => ?_, fun j es hj => ?_, fun j k q ds1 ds2 hjk hj hk h5 h6 => ?_⟩, ⟨e.g.h, e.g.g.trans sG, same_into e.env.sub h2, fun b o q n => ?_⟩, fun j es a hj hs => ?_⟩
  · by_cases q : i = j
    · subst q
      rw [List.getElem?_set_self hi] at hj
      cases hj
      exact ⟨_, h1, .lst (.of upd_same) (dpa_mono sG _ h4)⟩
    · rw [List.getElem?_set_ne q] at hj
      obtain ⟨v, q1, q2⟩ := e.env.val j d hj
      exact ⟨v, q1, dp_mono sG d q2⟩
  · by_cases q : i = j
    · subst q
      rw [List.getElem?_set_self hi] at hj
      cases hj
    · rw [List.getElem?_set_ne q] at hj
      obtain ⟨b, ys, q1, q2, q3, q4⟩ := e.env.own j es hj
      have ne : b ≠ p := fun z => e.env.sep i j p ds es q h hj h1 (by rw [q1, z])
      exact ⟨b, ys, q1, q2, by rw [upd_ne ne]; exact q3, dpa_mono sG _ q4⟩
  · have n1 : j ≠ i := fun z => by subst z; rw [List.getElem?_set_self hi] at hj; cases hj
    have n2 : k ≠ i := fun z => by subst z; rw [List.getElem?_set_self hi] at hk; cases hk
    rw [List.getElem?_set_ne (Ne.symm n1)] at hj
    rw [List.getElem?_set_ne (Ne.symm n2)] at hk
    exact e.env.sep j k q ds1 ds2 hjk hj hk h5 h6
  · by_cases z : b = p
    · rw [z]; exact e.young i ds p h h1
    · rw [upd_ne z] at q; exact e.g.new b o q n
  · by_cases q : i = j
    · subst q
      rw [List.getElem?_set_self hi] at hj
      cases hj
    · rw [List.getElem?_set_ne q] at hj
      exact e.young j es a hj hs
end
end PF

namespace PF
open PySem L2
section
variable {K : Fg} {G0 H0 G H G' H' : Hp} {ρ ρ' : List Sl} {σ : L2.St}
theorem grow_low (a : Grow G0 H0 G' H') (b : Grow G' H0 G H) : Grow G0 H0 G H := ⟨b.h, a.g.trans b.g, b.sub, fun x o h n => by
  cases e : G' x with
  | some u => exact a.new x u e n
  | none => exact b.new x o h e⟩
theorem EnvS.low (e : EnvS K G' H0 ρ G σ H) (a : Grow G0 H0 G' H') : EnvS K G0 H0 ρ G σ H := ⟨e.env, grow_low a e.g, e.young⟩
theorem EnvS.base (e : EnvS K G0 H0 ρ G σ H) : EnvS K G H0 ρ G σ H := ⟨e.env, ⟨e.g.h, Same.refl G, e.env.sub, fun b o q n => by rw [n] at q; cases q⟩, e.young⟩
theorem run_manyS {Q : L2.St → Hp → Prop} : ∀ {is : List Nat} {ρ ρ' : List Sl} {σ : L2.St} {vs : List V} {ds : List D}, EnvS K G0 H0 ρ G σ H → DpAll K G vs ds → setMany ρ is ds = some ρ' →
    (∀ σ', EnvS K G0 H0 ρ' G σ' H → Q σ' H) → gMany is vs σ H Q
  | [], ρ, ρ', σ, vs, ds, e, hv, hs, q => by
    cases ds with
    | cons _ _ => cases hs
    | nil => cases hs; cases hv; exact ⟨rfl, q σ e⟩
  | i :: is, ρ, ρ', σ, vs, ds, e, hv, hs, q => by
    cases ds with
    | nil => cases hs
    | cons d ds =>
      cases hv with
      | cons h1 h2 => exact ⟨_, _, rfl, run_manyS (e.set h1 i) h2 hs q⟩
theorem run_tgS {tg : Tg} {v : V} {d : D} {Q : L2.St → Hp → Prop} (e : EnvS K G0 H0 ρ G σ H) (hv : Dp K G v d) (hs : bindT tg ρ d = some ρ') (q : ∀ σ', EnvS K G0 H0 ρ' G σ' H → Q σ' H) : gT K tg v σ H Q := by
  cases tg with
  | one i =>
    cases hs
    exact q _ (e.set hv i)
  | many is =>
    cases hv with
    | tup h1 h2 =>
      have hl := setMany_len (show setMany ρ is _ = some ρ' from hs)
      exact ⟨_, _, rfl, sqt_mono e.env.sub h1, by rw [dpa_len h2, hl], run_manyS e h2 hs q⟩
    | _ => cases hs
/-- one's own list has grown -/
theorem EnvS.app (e : EnvS K G0 H0 ρ G σ H) (g : Grow G H G' H') {i : Nat} {ds : List D} {l : Addr} {xs : List V} {y : V} {d : D} (h : ρ[i]? = some (.own ds)) (hs : σ[i]? = some (some (.ref l))) (hl : H l = some (.lst xs)) (hG : G l = none) (hx : DpAll K G xs ds) (hy : Dp K G' y d) :
    EnvS K G0 H0 (ρ.set i (.own (ds ++ [d]))) G' σ (upd H' l (.lst (xs ++ [y]))) := by
  have hi : i < ρ.length := (List.getElem?_eq_some_iff.mp h).1
  have e' := e.grow g
  have n' : G' l = none := g.hid hG hl
  have y0 : H0 l = none := e.young i ds l h hs
  have key : ∀ {j : Nat} {x : Sl}, (ρ.set i (.own (ds ++ [d])))[j]? = some x → (j = i ∧ x = .own (ds ++ [d])) ∨ (j ≠ i ∧ ρ[j]? = some x) := fun {j x} hj => by
    by_cases q : i = j
    · subst q
      rw [List.getElem?_set_self hi] at hj; cases hj; exact .inl ⟨rfl, rfl⟩
    · rw [List.getElem?_set_ne q] at hj; exact .inr ⟨Ne.symm q, hj⟩
  have back : ∀ {j : Nat} {fs : List D}, (ρ.set i (.own (ds ++ [d])))[j]? = some (.own fs) → ∃ fs', ρ[j]? = some (.own fs') := fun {j fs} hj => by
    rcases key hj with ⟨rfl, _⟩ | ⟨_, q⟩
    · exact ⟨ds, h⟩
    · exact ⟨fs, q⟩
  refine ⟨⟨by rw [List.length_set]; exact e.env.len, fun b o q => by rw [upd_ne (ne_of_none q n')]; exact e'.env.sub b o q, fun j d' hj => ?_, fun j es hj => ?_, fun j k b es fs hjk hj hk h5 h6 => ?_⟩, ⟨fun b o q => by rw [upd_ne (ne_of_none q y0)]; exact e'.g.h b o q, e'.g.g, fun b o q => by rw [upd_ne (ne_of_none q n')]; exact e'.env.sub b o q, e'.g.new⟩, fun j es b hj q => ?_⟩
  · rcases key hj with ⟨_, q⟩ | ⟨_, hj⟩
    · cases q
    · exact e'.env.val j d' hj
  · rcases key hj with ⟨rfl, q⟩ | ⟨ne, hj⟩
    · cases q
      exact ⟨l, _, hs, upd_same, n', dpa_app (dpa_mono g.g _ hx) (.cons hy .nil)⟩
    · obtain ⟨b, ys, q1, q2, q3, q4⟩ := e'.env.own j es hj
      have nb : b ≠ l := fun z => e.env.sep j i l es ds ne hj h (by rw [q1, z]) hs
      exact ⟨b, ys, q1, by rw [upd_ne nb]; exact q2, q3, q4⟩
  · obtain ⟨es', hj⟩ := back hj
    obtain ⟨fs', hk⟩ := back hk
    exact e.env.sep j k b es' fs' hjk hj hk h5 h6
  · obtain ⟨es', hj⟩ := back hj
    exact e.young j es' b hj q
end
theorem rrep_young {K : Fg} {H0 H G' H' : Hp} {r : R} {v : V} (s : Same H0 H) (h : RRep K H G' H' r v) : RRep K H0 G' H' r v := by
  cases r with
  | val d => exact h
  | args _ => exact h
  | new ds =>
    obtain ⟨a, xs, e, h1, h2, h3, h4⟩ := h
    exact ⟨a, xs, e, h1, h2, s.free h3, h4⟩

structure SndS (Θ : Tb) (X : Cx) (s : S) (sts : List Stmt) : Prop where
  bl : isB s = true → PSs X sts (tS Θ X.K s)
  st : isB s = false → ∀ st, sts = [st] → PS X st (tS Θ X.K s)
section
variable {Θ : Tb} {sc : Scope} {X : Cx} {st : Stmt} {s : S} {sts : List Stmt}
theorem SndS.one (hb : isB s = false) (h : PS X st (tS Θ X.K s)) : SndS Θ X s [st] := ⟨fun q => (by rw [hb] at q; cases q), fun _ x q => by cases q; exact h⟩
theorem SndS.blk (hb : isB s = true) (h : PSs X sts (tS Θ X.K s)) : SndS Θ X s sts := ⟨fun _ => h, fun q => (by rw [hb] at q; cases q)⟩
theorem sw_false {v : Expr} {t : Option Expr} {l : Nat} {env : Env} (h : notComp v = true) : swapsWith v t l env = pure false := by
  cases v <;> first | (cases t <;> rfl) | cases h
theorem sw_cell {v : Expr} {x : Str} {p : Pos} {l : Nat} {env : Env} (h : cellLc env.scope x v = true) : swapsWith v (some (.Name x p)) l env = pure false := by
  cases v with
  | ListComp el gs scope q =>
    have k : env.kindOf x = some .cell := of_decide_eq_true h
    unfold swapsWith
    simp only [k]
    cases env.blockKind <;> rfl
  | _ => cases h
theorem sw_sole {v : Expr} {ts : List Expr} {k : Nat} {p : Pos} {l : Nat} {env : Env} : swapsWithSole [.Tuple ts k p] v l env = pure false := by
  cases v <;> rfl
theorem sw_none {v : Expr} {ts : List Expr} {k : Nat} {p : Pos} {env : Env} (h : notTup v = true) : swappedStores [.Tuple ts k p] v env = pure none := by
  cases v <;> first | rfl | cases h
theorem boolW_bl {A B : Prop} {r : R} (h : boolW A B r) : ∃ b, r = .val (.bool b) := by
  unfold boolW at h
  split at h
  · exact ⟨_, rfl⟩
  · exact ⟨_, rfl⟩
  · exact h.elim
theorem soundS : ∀ (s : S) (sts : List Stmt) (X : Cx), OkF Θ sc X → mS Θ.st sc s sts = true → SndS Θ X s sts := by
  intro s
  induction s with
  | nil =>
    intro sts X ok h
    unfold mS at h
    cases sts with
    | cons _ _ => cases h
    | nil => exact .blk rfl (pss_imp pss_nil fun D σ H ⟨G0, H0, ρ, G, P, env, wp, out⟩ => out.nx ρ G σ H wp env)
  | seq a b iha ihb =>
    intro sts X ok h
    unfold mS at h
    split at h
    · rename_i hg
      simp only [Bool.and_eq_true] at h
      have s2 := (ihb sts X ok h.2)
      cases a <;> first | (cases hg; done) | skip
      rename_i i
      refine .blk rfl (pss_imp (s2.bl h.1) fun D σ H ⟨G0, H0, ρ, G, P, env, wp, out⟩ => ?_)
      have wp : (match ρ[i]? with | some (.own ds) => wpS Θ b (ρ.set i (.val (.list ds))) P | _ => False) := wp
      split at wp
      · rename_i ds e
        obtain ⟨G2, env2⟩ := env.frz e
        exact ⟨G0, H0, _, G2, P, env2, wp, out⟩
      · exact wp.elim
    · split at h
      · rename_i st rest
        simp only [Bool.and_eq_true, Bool.not_eq_true'] at h
        have s1 := (iha [st] X ok h.1.1.2).st h.1.1.1 st rfl
        have s2 := (ihb rest X ok h.2).bl h.1.2
        refine .blk rfl (pss_imp (pss_cons s1 s2) fun D σ H ⟨G0, H0, ρ, G, P, env, wp, out⟩ => ?_)
        exact ⟨G0, H0, ρ, G, _, env, wp, ⟨fun ρ' G' σ' H' hn he => ⟨G0, H0, ρ', G', P, he, hn, out⟩, out.bk, out.ct, out.rt⟩⟩
      · cases h
  | set i own e =>
    intro sts X ok h
    unfold mS at h
    split at h
    · rename_i x px v p
      simp only [Bool.and_eq_true, Bool.or_eq_true, Bool.not_eq_true'] at h
      obtain ⟨⟨⟨⟨⟨h1, h2⟩, h3⟩, h4⟩, h5⟩, h6⟩ := h
      have he := (sound e sc [v] X ok.toOkX h5 h6).pe h3 h4 v rfl
      unfold mName at h1
      simp only [Bool.and_eq_true, Bool.or_eq_true, decide_eq_true_eq] at h1
      have hl : Loc X.env.scope x := by
        rw [ok.sc]
        rcases h1.2 with q | q
        · exact .inl q
        · exact .inr q.2
      have hsw : swapsWith v (some (.Name x px)) p.line X.env = pure false := by
        rcases h2 with q | q
        · exact sw_false q
        · exact sw_cell (by rw [ok.sc]; exact q)
      refine .one rfl (ps_imp (ps_set (i := i) ok.nd (by rw [ok.N]; exact h1.1) hl he hsw (.inl (ok.fn x))) fun D σ H ⟨G0, H0, ρ, G, P, env, wp, out⟩ => ?_)
      refine ⟨ρ, G, _, env.env, wp, fun r v G1 H1 hr g1 rr => ?_⟩
      obtain ⟨ρ', G2, hk, env2⟩ := env.put g1 hr rr
      exact out.nx _ _ _ _ hk env2
    · cases h
  | setLc i own e =>
    intro sts X ok h
    unfold mS at h
    split at h
    · rename_i x px el t iter ifs scope p sp
      simp only [Bool.and_eq_true, decide_eq_true_eq, Bool.not_eq_true'] at h
      obtain ⟨⟨⟨⟨⟨⟨⟨h1, h2⟩, h3⟩, hk⟩, h4⟩, h5⟩, h6⟩, h7⟩ := h
      cases e <;> first | (cases h5; done) | skip
      rename_i own' tg it c elt
      simp only [okS, Bool.and_eq_true, Bool.not_eq_true', Bool.or_eq_true] at h6
      obtain ⟨⟨⟨⟨⟨i1, i2⟩, c1⟩, e1⟩, e2⟩, e3⟩ := h6
      simp only [mE, Bool.and_eq_true] at h7
      obtain ⟨⟨⟨⟨⟨⟨⟨m1, m2⟩, m3⟩, m4⟩, men⟩, m5⟩, m6⟩, m7⟩ := h7
      have men : isEn it = true → isTup t = true := fun z => by rw [z] at men; simpa using men
      have ht : ∀ X', OkX Θ (relS scope sc) X' → PTs X' ifs (tCd Θ X'.K c) := fun X' ok' => by
        split at m6
        · cases c <;> first | (cases m6; done) | exact pts_nil
        · rename_i x
          have c2 : isTs c = true ∧ okS c = true := by
            rcases c1 with c1 | c1
            · cases c <;> first | (cases c1; done) | (cases m6; done)
            · exact c1
          have s := (sound c _ _ X' ok' c2.2 m6).pt c2.1 _ rfl
          have e : tCd Θ X'.K c = tTs Θ X'.K c := by cases c <;> first | rfl | (cases m6; done)
          rw [e]
          exact pts_one s
        · cases m6
      refine .one rfl (ps_imp (ps_setLc (i := i) (tt := tCd Θ X.K c) (te := tD Θ X.K elt) (g := gT X.K tg) ok.calm ok.nd (by rw [ok.N]; exact h1) (by rw [ok.sc]; exact h2) (sw_true (by rw [ok.sc]; exact hk) (by rw [ok.sc]; exact h2) h3 h4)
        ((sound it sc [iter] X ok.toOkX i2 m5).pi i1 iter t men rfl) (by rw [ok.N, ok.sc]; exact blk_ok m1)
        (fun s H C cl fp => s_tg (X := X.blk s H scope (compEnvC scope cl C X.env) fp) (ok.toOkX.blk s H C cl fp) (fun z => by cases z) m2)
        (fun s H C cl fp => ht (X.blk s H scope (compEnvC scope cl C X.env) fp) (ok.toOkX.blk s H C cl fp))
        (fun s H C cl fp => (sound elt _ _ (X.blk s H scope (compEnvC scope cl C X.env) fp) (ok.toOkX.blk s H C cl fp) e3 m7).pe e1 e2 _ rfl) (fun _ => fold_set m4)) fun D σ H ⟨G0, H0, ρ, G, P, env, wp, out⟩ => ?_)
      refine s_lc (fun j hj => of_decide_eq_true (List.all_eq_true.mp m3 j hj)) ⟨ρ, G, _, env.env, wp, fun r v G1 H1 hr g1 rr => ?_⟩
      obtain ⟨ρ', G2, hk, env2⟩ := env.put g1 hr rr
      exact out.nx _ _ _ _ hk env2
    · cases h
  | unpack is e =>
    intro sts X ok h
    unfold mS at h
    split at h
    · rename_i ts k p v q
      simp only [Bool.and_eq_true, Bool.not_eq_true'] at h
      obtain ⟨⟨⟨⟨⟨h1, h2⟩, h3⟩, h4⟩, h5⟩, h6⟩ := h
      have he := (sound e sc [v] X ok.toOkX h5 h6).pe h3 h4 v rfl
      have hg : PG X (.Tuple ts k p) (gT X.K (.many is)) := s_tg ok.toOkX (cell := true) (fun _ => ok.fn) (show mTg Θ.st.N sc true (.many is) (.Tuple ts k p) = true from h1)
      refine .one rfl (ps_imp (ps_asg he hg sw_sole (sw_none h2)) fun D σ H ⟨G0, H0, ρ, G, P, env, wp, out⟩ => ?_)
      refine ⟨ρ, G, _, env.env, wp, fun r v G1 H1 hr g1 rr => ?_⟩
      split at hr
      · obtain ⟨ρ', hs, hk⟩ := hr
        exact run_tgS (tg := .many is) (env.grow g1) rr hs fun σ' e' => out.nx _ _ _ _ hk e'
      · exact hr.elim
    · cases h
  | ret e =>
    intro sts X ok h
    unfold mS at h
    split at h
    · simp only [Bool.and_eq_true, Bool.not_eq_true'] at h
      obtain ⟨⟨⟨h3, h4⟩, h5⟩, h6⟩ := h
      have he := (sound e sc _ X ok.toOkX h5 h6).pe h3 h4 _ rfl
      refine .one rfl (ps_imp (ps_ret he) fun D σ H ⟨G0, H0, ρ, G, P, env, wp, out⟩ => ?_)
      exact ⟨ρ, G, _, env.env, wp, fun r v G1 H1 hr g1 rr => out.rt r v G1 H1 hr (env.g.trans g1) (rrep_young env.g.h rr)⟩
    · cases h
  | retO i =>
    intro sts X ok h
    unfold mS at h
    split at h
    · rename_i x px q
      simp only [Bool.and_eq_true, decide_eq_true_eq] at h
      have he : PE X (.Name x px) (tVar i) := pe_var (by rw [ok.N]; exact h.1.1) (by rw [ok.sc]; exact vis_of h.1.2) (okN_d h.2) (okN_c h.2)
      refine .one rfl (ps_imp (ps_ret he) fun D σ H ⟨G0, H0, ρ, G, P, env, wp, out⟩ => ?_)
      have wp : (match ρ[i]? with | some (.own ds) => P.rt (.new ds) | _ => False) := wp
      split at wp
      · rename_i ds e
        obtain ⟨a, xs, h1, h2, h3, h4⟩ := env.env.own i ds e
        exact ⟨_, h1, out.rt _ _ G H wp env.g ⟨a, xs, rfl, h2, h3, env.young i ds a e h1, h4⟩⟩
      · exact wp.elim
    · cases h
  | retN =>
    intro sts X ok h
    unfold mS at h
    split at h
    · exact .one rfl (ps_imp ps_retN fun D σ H ⟨G0, H0, ρ, G, P, env, wp, out⟩ => out.rt _ _ G H wp env.g .non)
    · cases h
  | ife c a b iha ihb =>
    intro sts X ok h
    unfold mS at h
    split at h
    · simp only [Bool.and_eq_true] at h
      obtain ⟨⟨⟨⟨⟨⟨h1, h2⟩, h3⟩, h4⟩, h5⟩, h6⟩, h7⟩ := h
      have hc := (sound c sc _ X ok.toOkX h2 h3).pt h1 _ rfl
      refine .one rfl (ps_imp (ps_if hc ((iha _ X ok h6).bl h4) ((ihb _ X ok h7).bl h5)) fun D σ H ⟨G0, H0, ρ, G, P, env, wp, out⟩ => ?_)
      refine ⟨ρ, G, _, env.env, wp, fun r hr => boolW_bl hr, fun k G1 H1 hk g1 => ?_⟩
      cases k with
      | true => rw [if_pos rfl]; exact ⟨G0, H0, ρ, G1, P, env.grow g1, hk, out⟩
      | false => rw [if_neg Bool.false_ne_true]; exact ⟨G0, H0, ρ, G1, P, env.grow g1, hk, out⟩
    · cases h
  | for_ tg it b ihb =>
    intro sts X ok h
    unfold mS at h
    split at h
    · rename_i t iter body p
      simp only [Bool.and_eq_true, Bool.not_eq_true'] at h
      obtain ⟨⟨⟨⟨⟨⟨⟨h1, h2⟩, hen⟩, h3⟩, h4⟩, h5⟩, h6⟩, h7⟩ := h
      have hen : isEn it = true → isTup t = true := fun z => by rw [z] at hen; simpa using hen
      have hi := (sound it sc [iter] X ok.toOkX h4 h5).pi h3 iter t hen rfl
      have hg := s_tg ok.toOkX (cell := true) (fun _ => ok.fn) h1
      refine .one rfl (ps_imp (ps_for ok.own ok.calm hi hg ((ihb body X ok h7).bl h6) (fun _ => fold_set h2)) fun D σ H ⟨G0, H0, ρ, G, P, env, wp, out⟩ => ?_)
      refine ⟨ρ, G, _, env.env, wp, fun r hr => let ⟨xs, q, _⟩ := hr; ⟨xs, q⟩, fun r xs G1 H1 J hr hx g1 w => ?_⟩
      obtain ⟨xs', hx', hr⟩ := hr
      rw [hx] at hx'
      cases hx'
      have env1 := env.grow g1
      refine for_it w (fun i σ H => ∃ ρ G, EnvS X.K G1 H0 ρ G σ H ∧ loopW (bindT tg) (fun ρ' k => wpS Θ b ρ' { nx := k, ct := k, bk := P.nx, rt := P.rt }) (xs.drop i) ρ P.nx) ⟨ρ, G1, env1.base, hr⟩ ?_ ?_ ?_
      · rintro i σ H _ ⟨ρ, G, e, _⟩
        exact e.g.g.trans e.g.sub
      · rintro i x σ H Hx hi ⟨ρ, G, e, hw⟩ hy
        obtain ⟨d, G2, hd, g2, hv⟩ := hy G e.g.g e.g.sub
        have hi' : i < xs.length := hi
        have ed : xs[i] = d := by rw [List.getElem?_eq_getElem hi'] at hd; exact Option.some.inj hd
        rw [List.drop_eq_getElem_cons hi', ed] at hw
        obtain ⟨ρ', hb, hw⟩ := hw
        refine run_tgS (e.grow g2) hv hb fun σ2 e2 => ?_
        exact ⟨G1, H0, ρ', G2, _, e2, hw, ⟨fun ρ3 G3 σ3 H3 hn he => ⟨ρ3, G3, he, hn⟩, fun ρ3 G3 σ3 H3 hn he => out.nx _ _ _ _ hn (he.low env1.g), fun ρ3 G3 σ3 H3 hn he => ⟨ρ3, G3, he, hn⟩, fun r v G3 H3 hr g3 rr => out.rt r v G3 H3 hr (grow_low env1.g g3) rr⟩⟩
      · rintro σ H ⟨ρ, G, e, hw⟩
        rw [List.drop_length] at hw
        exact out.nx _ _ _ _ hw (e.low env1.g)
    · cases h
  | while_ c b ihb =>
    intro sts X ok h
    unfold mS at h
    split at h
    · simp only [Bool.and_eq_true] at h
      obtain ⟨⟨⟨⟨h1, h2⟩, h3⟩, h4⟩, h5⟩ := h
      have hc := (sound c sc _ X ok.toOkX h2 h3).pt h1 _ rfl
      refine .one rfl (ps_imp (ps_while ok.own hc ((ihb _ X ok h5).bl h4)) fun D σ H ⟨G0, H0, ρ, G, P, env, wp, out⟩ => ?_)
      obtain ⟨n, wp⟩ := wp
      refine ⟨fun m σ H => ∃ ρ G, EnvS X.K G0 H0 ρ G σ H ∧ whileW (fun ρ' k => wpE Θ c ρ' k) (fun ρ' k => wpS Θ b ρ' { nx := k, ct := k, bk := P.nx, rt := P.rt }) P.nx m ρ, ⟨n, ρ, G, env, wp⟩, ?_⟩
      rintro m σ H ⟨ρ, G, e, hw⟩
      cases m with
      | zero => exact hw.elim
      | succ m =>
        refine ⟨ρ, G, _, e.env, hw, fun r hr => boolW_bl hr, fun k G1 H1 hk g1 => ?_⟩
        cases k with
        | true =>
          rw [if_pos rfl]
          refine ⟨fun σ H => ∃ ρ G, EnvS X.K G0 H0 ρ G σ H ∧ whileW (fun ρ' k => wpE Θ c ρ' k) (fun ρ' k => wpS Θ b ρ' { nx := k, ct := k, bk := P.nx, rt := P.rt }) P.nx m ρ, fun σ' H' q => ⟨m, Nat.lt_succ_self m, q⟩, ?_⟩
          exact ⟨G0, H0, ρ, G1, _, e.grow g1, hk, ⟨fun ρ3 G3 σ3 H3 hn he => ⟨ρ3, G3, he, hn⟩, fun ρ3 G3 σ3 H3 hn he => out.nx _ _ _ _ hn he, fun ρ3 G3 σ3 H3 hn he => ⟨ρ3, G3, he, hn⟩, out.rt⟩⟩
        | false => rw [if_neg Bool.false_ne_true]; exact out.nx _ _ _ _ hk (e.grow g1)
    · cases h
  | app i e =>
    intro sts X ok h
    unfold mS at h
    split at h
    · rename_i x px n ap y cp p
      simp only [Bool.and_eq_true, decide_eq_true_eq, Bool.not_eq_true'] at h
      obtain ⟨⟨⟨⟨⟨⟨⟨⟨⟨h1, h2⟩, h3⟩, rfl⟩, h4⟩, h5⟩, h6⟩, h7⟩, h8⟩, h9⟩ := h
      have hv : PE X (.Name x px) (tVar i) := pe_var (by rw [ok.N]; exact h1) (by rw [ok.sc]; exact vis_of h2) (okN_d h3) (okN_c h3)
      have he := (sound e sc [y] X ok.toOkX h8 h9).pe h6 h7 y rfl
      have hm := pe_bm (cpos := cp) PySem.F.plainAttrs_list PySem.F.slot_list_append PySem.F.type_list_append mt_append hv (pa_cons he pa_nil (star_cons h4)) (attr_base rfl) (by rw [star_cons h4]; rfl) h5 (star_cons h4)
      refine .one rfl (ps_imp (ps_expr hm) fun D σ H ⟨G0, H0, ρ, G, P, env, wp, out⟩ => ?_)
      have wp : (match ρ[i]? with | some (.own ds) => wpE Θ e ρ fun r => ds.length < sizeLine ∧ P.nx (ρ.set i (.own (ds ++ [r.d]))) | _ => False) := wp
      split at wp
      · rename_i ds e1
        obtain ⟨l, xs, q1, q2, q3, q4⟩ := env.env.own i ds e1
        refine ⟨_, q1, .inl ⟨rfl, _, .of q2⟩, ρ, G, _, env.env, wp, fun r v G1 H1 hr g1 rr => ?_⟩
        obtain ⟨G2, g2, _, hd⟩ := RRep.frz g1 rr
        exact ⟨l, xs, v, rfl, rfl, g1.h _ _ q2, by rw [dpa_len q4]; exact hr.1, out.nx _ _ _ _ hr.2 (env.app g2 e1 q1 q2 q3 q4 hd)⟩
      · exact wp.elim
    · cases h
  | expr e =>
    intro sts X ok h
    unfold mS at h
    split at h
    · simp only [Bool.and_eq_true, Bool.not_eq_true'] at h
      obtain ⟨⟨⟨⟨h1, h3⟩, h4⟩, h5⟩, h6⟩ := h
      have he := (sound e sc _ X ok.toOkX h5 h6).pe h3 h4 _ rfl
      refine .one rfl (ps_imp (ps_expr he (sw_false h1)) fun D σ H ⟨G0, H0, ρ, G, P, env, wp, out⟩ => ?_)
      exact ⟨ρ, G, _, env.env, wp, fun r v G1 H1 hr g1 rr => out.nx _ _ _ _ hr (env.grow g1)⟩
    · cases h
  | frz i =>
    intro sts X ok h
    cases h
  | pass =>
    intro sts X ok h
    unfold mS at h
    split at h
    · exact .one rfl (ps_imp ps_pass fun D σ H ⟨G0, H0, ρ, G, P, env, wp, out⟩ => out.nx _ _ _ _ wp env)
    · cases h
  | brk =>
    intro sts X ok h
    unfold mS at h
    split at h
    · exact .one rfl (ps_imp ps_break fun D σ H ⟨G0, H0, ρ, G, P, env, wp, out⟩ => out.bk _ _ _ _ wp env)
    · cases h
  | cont =>
    intro sts X ok h
    unfold mS at h
    split at h
    · exact .one rfl (ps_imp ps_continue fun D σ H ⟨G0, H0, ρ, G, P, env, wp, out⟩ => out.ct _ _ _ _ wp env)
    · cases h
end
end PF

namespace PF
open PySem L2
/-- a def of the module that keeps its promise, with at most k calls one within another -/
def FnIn (P : Program) (w : World) (K : Fg) (mg : Str → Option Value) (base : Heap) (k : Nat) (fe : FEntry) : Prop :=
  ∃ f fd, mg fe.name = some (.ref f) ∧ PySem.W.keepIn K (.ref f) = true ∧ Binds K fd fe.ps [] ∧ FnOk P w K mg base CX0 k f fd fe.ps (spD K fe.sp)
structure TabOk (Θ : Tb) (P : Program) (w : World) (K : Fg) (mg : Str → Option Value) (base : Heap) : Prop where
  fns : ∀ (j : Nat) (fe : FEntry), Θ.φ[j]? = some fe → FnIn P w K mg base Θ.k fe
  cons : ∀ (j : Nat) (p : Str × D), Θ.κ[j]? = some p → ∃ u v, mg p.1 = some u ∧ RelV v u ∧ ∀ G, Dp K G v p.2
  blt : ∀ x ∈ Θ.bn, mg x = none
def rho0 (N : List Str) (ds : List D) : List Sl := ds.map .val ++ List.replicate (N.length - ds.length) .un
def postOf (Φ : R → Prop) : Post := { nx := fun _ => Φ (.val .none), rt := Φ, bk := fun _ => False, ct := fun _ => False }
theorem dpa_at {K : Fg} {G : Hp} {vs : List V} {ds : List D} (h : DpAll K G vs ds) (n : Nat) {i : Nat} {d : D} (e : (ds.map Sl.val ++ List.replicate n Sl.un)[i]? = some (Sl.val d)) (m : Nat) :
    ∃ v, (vs.map some ++ List.replicate m none)[i]? = some (some v) ∧ Dp K G v d := by
  have hl := dpa_len h
  by_cases hi : i < ds.length
  · rw [List.getElem?_append_left (by simpa using hi), List.getElem?_map] at e
    cases q : ds[i]? with
    | none => rw [q] at e; cases e
    | some d' =>
      rw [q] at e
      cases e
      obtain ⟨v, h1, h2⟩ := dpa_get h q
      refine ⟨v, ?_, h2⟩
      rw [List.getElem?_append_left (by simpa [hl] using hi), List.getElem?_map, h1]
      rfl
  · rw [List.getElem?_append_right (by simpa using hi), List.getElem?_replicate] at e
    split at e <;> cases e
section
variable {P : Program} {w : World} {K : Fg} {mg : Str → Option Value} {base : Heap}
theorem FnIn.mono {j k : Nat} {fe : FEntry} (h : FnIn P w K mg base j fe) (l : j ≤ k) : FnIn P w K mg base k fe :=
  let ⟨f, fd, h1, h2, h3, h4⟩ := h
  ⟨f, fd, h1, h2, h3, h4.mono l⟩
/-- THE RULE for a def -/
theorem def_fn {Θ : Tb} {x : Str} {st : Stmt} {f : Addr} {fd : FuncData} {ps : List Str} {sp : List D → (R → Prop) → Prop} {body : S} (T : TabOk Θ P w K mg base) (F : Fun K x x st f fd) 
    (Sc : FnScope Θ.N ps (defScope st)) (hbl : isB body = true) (hc : mS Θ.st (defScope st) body (defBody st) = true) (hlen : ∀ ds Φ, sp ds Φ → ds.length = ps.length)
    (hwp : ∀ ds Φ, sp ds Φ → wpS Θ body (rho0 Θ.N ds) (postOf Φ)) : FnOk P w K mg base CX0 (Θ.k + 1) f fd ps (spD K sp) := by
  refine F.ok Sc (fun vs H Q E h => ?_) fun cdv A outer s H vs Q E hr h => ?_
  · obtain ⟨ds, G, Φ, _, h1, h2, _⟩ := h
    rw [dpa_len h1]
    exact hlen ds Φ h2
  · obtain ⟨ds, G, Φ, sG, h1, h2, out⟩ := h
    have ok : OkF Θ (defScope st) (cxOf CX0 P w K mg base Θ.N x (defScope st) f cdv A outer s H E).nox :=
      { N := rfl, nd := Sc.nd, sc := rfl, calm := rfl, room := hr, fns := T.fns, cons := T.cons, blt := T.blt, fn := fun _ => rfl, own := PassesOwn.never }
    refine ⟨tS Θ K body, (soundS body _ _ ok hc).bl hbl, ?_⟩
    have hl := hlen ds Φ h2
    have hN : ps.length ≤ Θ.N.length := by have := congrArg List.length Sc.pre; rw [List.length_take] at this; omega
    have hv := dpa_len h1
    refine ⟨G, H, rho0 Θ.N ds, G, postOf Φ, ⟨⟨?_, sG, fun i d hd => dpa_at h1 _ hd _, fun i es hd => ?_, fun i j a es fs _ hd _ _ _ => ?_⟩, .refl sG, fun i es a hd _ => ?_⟩, hwp ds Φ h2, ⟨fun ρ G' σ H' hn he => ?_, fun _ _ _ _ z => z.elim, fun _ _ _ _ z => z.elim, fun r v G' H' hr' g rr => out r v G' H' hr' g rr⟩⟩
    · unfold L2.start rho0
      simp only [List.length_append, List.length_map, List.length_replicate]
      omega
    all_goals first
      | exact out _ _ G' H' hn he.g .non
      | (exfalso
         unfold rho0 at hd
         by_cases hi : i < ds.length
         · rw [List.getElem?_append_left (by simpa using hi), List.getElem?_map] at hd
           cases q : ds[i]? with
           | none => rw [q] at hd; cases hd
           | some d' => rw [q] at hd; cases hd
         · rw [List.getElem?_append_right (by simpa using hi), List.getElem?_replicate] at hd
           split at hd <;> cases hd)
/-- the same, as an entry of a table -/
theorem def_ok {Θ : Tb} {x : Str} {st : Stmt} {f : Addr} {fd : FuncData} {ps : List Str} {sp : List D → (R → Prop) → Prop} {body : S} (T : TabOk Θ P w K mg base) (F : Fun K x x st f fd) (hm : mg x = some (.ref f)) (hb : Binds K fd ps [])
    (Sc : FnScope Θ.N ps (defScope st)) (hbl : isB body = true) (hc : mS Θ.st (defScope st) body (defBody st) = true) (hlen : ∀ ds Φ, sp ds Φ → ds.length = ps.length)
    (hwp : ∀ ds Φ, sp ds Φ → wpS Θ body (rho0 Θ.N ds) (postOf Φ)) : FnIn P w K mg base (Θ.k + 1) ⟨x, ps, sp⟩ :=
  ⟨f, fd, hm, F.kp, hb, def_fn T F Sc hbl hc hlen hwp⟩
/-- nothing is promised where nothing is asked -/
theorem none_ok {x : Str} {st : Stmt} {f : Addr} {fd : FuncData} {ps : List Str} {k : Nat} {sp : List D → (R → Prop) → Prop} (F : Fun K x x st f fd) (hm : mg x = some (.ref f)) (hb : Binds K fd ps []) (h : ∀ ds Φ, ¬ sp ds Φ) : FnIn P w K mg base k ⟨x, ps, sp⟩ := by
  have no : ∀ vs H Q E, ¬ spD K sp vs H Q E := fun vs H Q E q => by
    obtain ⟨ds, G, Φ, _, _, h2, _⟩ := q
    exact h ds Φ h2
  exact ⟨f, fd, hm, F.kp, hb, ⟨fun vs H Q E q => absurd q (no vs H Q E), fun A outer s H args us vs Q E _ _ _ _ q => absurd q (no vs H Q E)⟩⟩
end
/-- where a def stands behind the top -/
def DefAt (K : Fg) (x : Str) (st : Stmt) : Prop := ∃ (f : Addr) (oc : Value) (od an : Option Addr) (sl : Array (Option Value)) (kV dc pm cd ct : Value),
  PySem.W.nsIn K mainGlobals x = some (some (.ref f)) ∧ K.lookup f = some ⟨oc, od, .func (PySem.W.fnOf x x (defArgs st) (defBody st) (defScope st) .none kV dc pm an cd ct), sl⟩ ∧ PySem.W.codeIn K cd x = true ∧ PySem.W.keepIn K (.ref f) = true
theorem DefAt.mk {K : Fg} {x : Str} {st : Stmt} {f : Addr} {oc : Value} {od an : Option Addr} {sl : Array (Option Value)} {kV dc pm cd ct : Value} (h1 : PySem.W.nsIn K mainGlobals x = some (some (.ref f)))
    (h2 : K.lookup f = some ⟨oc, od, .func (PySem.W.fnOf x x (defArgs st) (defBody st) (defScope st) .none kV dc pm an cd ct), sl⟩) (h3 : PySem.W.codeIn K cd x = true) (h4 : PySem.W.keepIn K (.ref f) = true) : DefAt K x st := ⟨f, oc, od, an, sl, kV, dc, pm, cd, ct, h1, h2, h3, h4⟩
def IntAt (K : Fg) (x : Str) (i : Int) : Prop := ∃ t, PySem.W.nsIn K mainGlobals x = some (some (.int i t))
theorem IntAt.mk {K : Fg} {x : Str} {i : Int} {t : Tok} (h : PySem.W.nsIn K mainGlobals x = some (some (.int i t))) : IntAt K x i := ⟨t, h⟩
/-- .. and how its arguments come -/
def ArgsOk (st : Stmt) (x : Str) (ps : List Str) : Prop := ∀ (kV doc pm : Value) (an : Option Addr) (cdv ct : Value) (us : List Value), us.length = ps.length → bindArgs (PySem.W.fnOf x x (defArgs st) (defBody st) (defScope st) .none kV doc pm an cdv ct) ⟨us, []⟩ = pure (ps.zip us)
theorem DefAt.fun {K : Fg} {x : Str} {st : Stmt} {h : Heap} {mg : Str → Option Value} (X : K.In h) (G : h.Ns mainGlobals mg) (d : DefAt K x st) {ps : List Str} (ha : ArgsOk st x ps) : ∃ f fd, Fun K x x st f fd ∧ mg x = some (.ref f) ∧ Binds K fd ps [] ∧ (∀ (s : Shared) (us : List Value), us.length = ps.length → BindsTo s fd ⟨us, []⟩ (ps.zip us)) := by
  obtain ⟨f, oc, od, an, sl, kV, dc, pm, cd, ct, h1, h2, h3, h4⟩ := d
  have F := fun_mk (st := st) h2 h3 h4
  exact ⟨f, _, F, PySem.W.mg_of X G h1, F.binds ha, fun s us hl => .of_eq (ha _ _ _ _ _ _ us hl)⟩
/-- an int of the module -/
theorem con_int {K : Fg} {x : Str} {i : Int} {h : Heap} {mg : Str → Option Value} (X : K.In h) (G : h.Ns mainGlobals mg) (e : IntAt K x i) : ∃ u v, mg x = some u ∧ RelV v u ∧ ∀ G, Dp K G v (.int i) :=
  let ⟨t, e⟩ := e
  ⟨_, .int i, PySem.W.mg_of X G e, ⟨t, rfl⟩, fun _ => .int i⟩
/-- what law(script) promises -/
def lawSp : List D → (R → Prop) → Prop := fun ds Φ => ∃ ns : List Int, ds = [.list (ns.map .int)] ∧ ns.length ≤ 63 ∧ Φ (.val (.bool true))
theorem walk {l : PySem.W.OpenLaw} {q : Program} {loose : List Str} {XP : (Str → Option Value) → Heap → Prop} {YP : World → Heap → Prop} {d : DefRec} {K : Params → PySem.W.Frag} {k : Nat} (hn : l.most = some 63) (hdf : d.params.defaults = []) (hk : Room k callerA)
    (hY : ∀ (w : World) (h : Heap), YP w h → (K w.params).In h)
    (F : ∀ (w : World) (mg : Str → Option Value) (h : Heap), (K w.params).In h → h.Ns mainGlobals mg → ∃ f fd, mg d.name = some (.ref f) ∧ (∀ (s : Shared) (us : List Value), us.length = 1 → BindsTo s fd ⟨us, []⟩ ((["script"] : List Str).zip us)) ∧
      ∀ base : Heap, (K w.params).In base → base.Ns mainGlobals mg → FnOk l.prog w (K w.params) mg base CX0 k f fd ["script"] (spD (K w.params) lawSp)) :
    PySem.W.WalkO q loose XP YP l.row.toRowW d [] (fun f vs => PySem.call f vs) :=
  L2.walk_of (n := 63) (k := k) (x := "script") (CX := fun _ => CX0) (sp := fun w => spD (K w.params) lawSp) hn (by decide) hdf hk hY
    (fun w mg fa h X G hfa => by
      obtain ⟨f, fd, h1, h2, h3⟩ := F w mg h X G
      rw [h1] at hfa
      cases hfa
      exact ⟨fd, fun s u => h2 s [u] rfl, h3⟩)
    (fun w H a ns hl _ hS => ⟨[.list (ns.map .int)], H, fun r => r = .val (.bool true), Same.refl H, .cons (.lst hS (ints_dpa ns)) .nil, ⟨ns, rfl, hl, rfl⟩, fun r v G' H' hr _ rr => by
      subst hr
      cases (show Dp _ G' v (.bool true) from rr)
      rfl⟩) fun _ _ _ _ _ z => z
end PF

namespace PF
open PySem L2
open PySem.PyData (strOk)
/-! ### running the small language in a proof -/
theorem boolW_t {a b : Prop} : boolW a b (.val (.bool true)) = a := rfl
theorem boolW_f {a b : Prop} : boolW a b (.val (.bool false)) = b := rfl
theorem onB_b {Φ : R → Prop} {b : Bool} : onB Φ (.val (.bool b)) = Φ (.val (.bool b)) := rfl
theorem notW_b {Φ : R → Prop} {b : Bool} : notW Φ (.val (.bool b)) = Φ (.val (.bool (!b))) := rfl
theorem boolW_mk {a b : Prop} {c : Bool} (h1 : c = true → a) (h2 : c = false → b) : boolW a b (.val (.bool c)) := by
  cases c with
  | true => exact h1 rfl
  | false => exact h2 rfl
theorem boolW_dec {a b p : Prop} [Decidable p] (h1 : p → a) (h2 : ¬ p → b) : boolW a b (.val (.bool (decide p))) := boolW_mk (fun h => h1 (of_decide_eq_true h)) fun h => h2 (of_decide_eq_false h)
section
variable {P : Program} {w : World} {K : Fg} {mg : Str → Option Value} {base : Heap} {k : Nat}
theorem fns_nil : ∀ (j : Nat) (fe : FEntry), ([] : List FEntry)[j]? = some fe → FnIn P w K mg base k fe := fun j fe h => by simp at h
theorem fns_cons {fe : FEntry} {l : List FEntry} (h : FnIn P w K mg base k fe) (t : ∀ (j : Nat) (fe : FEntry), l[j]? = some fe → FnIn P w K mg base k fe) : ∀ (j : Nat) (fe' : FEntry), (fe :: l)[j]? = some fe' → FnIn P w K mg base k fe'
  | 0, fe', e => by simp at e; subst e; exact h
  | j + 1, fe', e => t j fe' (by simpa using e)
def ConIn (K : Fg) (mg : Str → Option Value) (p : Str × D) : Prop := ∃ u v, mg p.1 = some u ∧ RelV v u ∧ ∀ G, Dp K G v p.2
theorem cons_nil : ∀ (j : Nat) (p : Str × D), ([] : List (Str × D))[j]? = some p → ConIn K mg p := fun j fe h => by simp at h
theorem cons_cons {p : Str × D} {l : List (Str × D)} (h : ConIn K mg p) (t : ∀ (j : Nat) (p : Str × D), l[j]? = some p → ConIn K mg p) : ∀ (j : Nat) (q : Str × D), (p :: l)[j]? = some q → ConIn K mg q
  | 0, fe', e => by simp at e; subst e; exact h
  | j + 1, fe', e => t j fe' (by simpa using e)
end
/-- a place to stop: what stands behind it is opened when it is come to -/
def blk (s : S) : S := s
def eblk (e : E) : E := e
theorem wpS_blk {Θ : Tb} {s : S} {ρ : List Sl} {P : Post} : wpS Θ (blk s) ρ P = wpS Θ s ρ P := rfl
theorem wpE_blk {Θ : Tb} {e : E} {ρ : List Sl} {Φ : R → Prop} : wpE Θ (eblk e) ρ Φ = wpE Θ e ρ Φ := rfl
/-! ### loops and comprehensions -/
theorem loopW_inv {t : List Sl → D → Option (List Sl)} {b : List Sl → (List Sl → Prop) → Prop} {k : List Sl → Prop} (I : List D → List Sl → Prop) (hs : ∀ x r ρ, I (x :: r) ρ → ∀ K : List Sl → Prop, (∀ ρ', I r ρ' → K ρ') → ∃ ρ', t ρ x = some ρ' ∧ b ρ' K) (hd : ∀ ρ, I [] ρ → k ρ) :
    ∀ (xs : List D) (ρ : List Sl), I xs ρ → loopW t b xs ρ k
  | [], ρ, h => hd ρ h
  | x :: r, ρ, h => hs x r ρ h (fun ρ' => loopW t b r ρ' k) fun ρ' h' => loopW_inv I hs hd r ρ' h'
/-- what a comprehension may give: each item kept as some y with T x y, or left out where C x -/
inductive Sel (T : D → D → Prop) (C : D → Prop) : List D → List D → Prop
  | nil : Sel T C [] []
  | keep {x y : D} {xs ys : List D} : T x y → Sel T C xs ys → Sel T C (x :: xs) (y :: ys)
  | drop {x : D} {xs ys : List D} : C x → Sel T C xs ys → Sel T C (x :: xs) ys
theorem Sel.len {T : D → D → Prop} {C : D → Prop} {xs ys : List D} (h : Sel T C xs ys) : ys.length ≤ xs.length := by
  induction h with
  | nil => exact Nat.le_refl _
  | keep _ _ ih => exact Nat.succ_le_succ ih
  | drop _ _ ih => exact Nat.le_succ_of_le ih
theorem Sel.fm {g : D → Option D} {xs ys : List D} (h : Sel (fun x y => g x = some y) (fun x => g x = none) xs ys) : ys = xs.filterMap g := by
  induction h with
  | nil => rfl
  | keep e _ ih => rw [List.filterMap_cons, e, ih]
  | drop e _ ih => rw [List.filterMap_cons, e, ih]
theorem compW_sel {b : D → (List Sl → Prop) → Prop} {c f : List Sl → (R → Prop) → Prop} {Φ : R → Prop} (T : D → D → Prop) (C : D → Prop) : ∀ (xs acc : List D), acc.length + xs.length ≤ sizeLine →
    (∀ x ∈ xs, ∀ (A : R → Prop) (B : Prop), (∀ r, T x r.d → A r) → (C x → B) → b x fun ρ => c ρ (boolW (f ρ A) B)) →
    (∀ ys, Sel T C xs ys → Φ (.new (acc ++ ys))) → compW b c f xs acc Φ
  | [], acc, _, _, h => by
    have := h [] .nil
    rw [List.append_nil] at this
    exact this
  | x :: xs, acc, hl, hs, h => by
    rw [List.length_cons] at hl
    refine hs x List.mem_cons_self _ _ (fun r hr => ⟨by omega, ?_⟩) fun hc => ?_
    · refine compW_sel T C xs (acc ++ [r.d]) (by rw [List.length_append, List.length_singleton]; omega) (fun z hz => hs z (List.mem_cons_of_mem _ hz)) fun ys hy => ?_
      rw [List.append_assoc]
      exact h _ (.keep hr hy)
    · exact compW_sel T C xs acc (by omega) (fun z hz => hs z (List.mem_cons_of_mem _ hz)) fun ys hy => h _ (.drop hc hy)
/-- .. where each item gives just one thing -/
theorem compW_fm {b : D → (List Sl → Prop) → Prop} {c f : List Sl → (R → Prop) → Prop} {Φ : R → Prop} (g : D → Option D) (xs : List D) (hl : xs.length ≤ sizeLine)
    (hs : ∀ x ∈ xs, ∀ (A : R → Prop) (B : Prop), (∀ r, g x = some r.d → A r) → (g x = none → B) → b x fun ρ => c ρ (boolW (f ρ A) B)) (h : Φ (.new (xs.filterMap g))) : compW b c f xs [] Φ :=
  compW_sel (fun x y => g x = some y) (fun x => g x = none) xs [] (by simpa using hl) hs fun ys hy => by
    rw [List.nil_append, hy.fm]
    exact h
/-- .. without a test -/
theorem compW_map {b : D → (List Sl → Prop) → Prop} {c f : List Sl → (R → Prop) → Prop} {Φ : R → Prop} (g : D → D) (xs : List D) (hl : xs.length ≤ sizeLine)
    (hs : ∀ x ∈ xs, ∀ (A : R → Prop) (B : Prop), (∀ r, r.d = g x → A r) → b x fun ρ => c ρ (boolW (f ρ A) B)) (h : Φ (.new (xs.map g))) : compW b c f xs [] Φ :=
  compW_fm (fun x => some (g x)) xs hl (fun x hx A B ha _ => hs x hx A B fun r e => ha r (by rw [e])) (by rw [List.filterMap_eq_map']; exact h)

/-! ### data that is plain: its shape, and when it is equal -/
theorem shaped_int (i : Int) : SeqAt.shaped (.int i) = true := rfl
theorem shaped_bool (b : Bool) : SeqAt.shaped (.bool b) = true := rfl
theorem shaped_none : SeqAt.shaped .none = true := rfl
theorem shaped_str {x : Str} (h : strOk x = true) : SeqAt.shaped (.str x) = true := by
  show (PyData.canLay0 (.str x) && decide (PyData.depth (.str x) ≤ 64)) = true
  simp [PyData.canLay0, PyData.depth, h]
/-- nothing but what can be laid, at most n deep -/
def Lay (n : Nat) (d : D) : Prop := d.canLay0 = true ∧ d.depth ≤ n
theorem Lay.shaped {n : Nat} {d : D} (h : Lay n d) (hn : n ≤ 64) : SeqAt.shaped d = true := by
  show (PyData.canLay0 d && decide (PyData.depth d ≤ 64)) = true
  rw [h.1]
  exact decide_eq_true (Nat.le_trans h.2 hn)
theorem Lay.mono {m n : Nat} {d : D} (h : Lay m d) (l : m ≤ n) : Lay n d := ⟨h.1, Nat.le_trans h.2 l⟩
theorem lay_int (i : Int) : Lay 0 (.int i) := ⟨rfl, Nat.le_refl _⟩
theorem lay_bool (b : Bool) : Lay 0 (.bool b) := ⟨rfl, Nat.le_refl _⟩
theorem lay_none : Lay 0 .none := ⟨rfl, Nat.le_refl _⟩
theorem lay_str {x : Str} (h : strOk x = true) : Lay 0 (.str x) := ⟨h, Nat.le_refl _⟩
theorem layAll {n : Nat} : ∀ {ds : List D}, (∀ d ∈ ds, Lay n d) → PyData.canLayAll0 ds = true ∧ PyData.depthAll ds ≤ n
  | [], _ => ⟨rfl, Nat.zero_le _⟩
  | d :: ds, h => by
    have h1 := h d List.mem_cons_self
    have h2 := layAll (ds := ds) fun e he => h e (List.mem_cons_of_mem _ he)
    refine ⟨?_, ?_⟩
    · simp only [PyData.canLayAll0, h1.1, h2.1, Bool.and_self]
    · simp only [PyData.depthAll]
      exact Nat.max_le.mpr ⟨h1.2, h2.2⟩
theorem lay_list {n : Nat} {ds : List D} (h : ∀ d ∈ ds, Lay n d) : Lay (n + 1) (.list ds) := by
  have q := layAll h
  exact ⟨by simp only [PyData.canLay0]; exact q.1, by simp only [PyData.depth]; omega⟩
theorem lay_tuple {n : Nat} {ds : List D} (h : ∀ d ∈ ds, Lay n d) : Lay (n + 1) (.tuple ds) := by
  have q := layAll h
  exact ⟨by simp only [PyData.canLay0]; exact q.1, by simp only [PyData.depth]; omega⟩
theorem eqv_same {n : Nat} {d : D} (h : Lay n d) : PyData.eqv d d = true := SeqAt.eqv_refl d h.1
theorem eqv_int (i j : Int) : PyData.eqv (.int i) (.int j) = decide (i = j) := by simp [PyData.eqv, Bool.beq_eq_decide_eq]
theorem eqv_bool (a b : Bool) : PyData.eqv (.bool a) (.bool b) = decide (a = b) := by simp [PyData.eqv, Bool.beq_eq_decide_eq]
theorem eqv_str (a b : Str) : PyData.eqv (.str a) (.str b) = decide (a = b) := by simp [PyData.eqv, Bool.beq_eq_decide_eq]
theorem eqv_list_nil (ds : List D) : PyData.eqv (.list ds) (.list []) = ds.isEmpty := by cases ds <;> simp [PyData.eqv, PyData.eqvAll]
theorem any_str (x : Str) : ∀ fs : List Str, (fs.map PyData.str).any (fun z => PyData.eqv z (.str x)) = decide (x ∈ fs)
  | [] => by simp
  | f :: fs => by
    rw [List.map_cons, List.any_cons, any_str x fs, eqv_str]
    by_cases h : f = x
    · subst h; simp
    · have h' : ¬ x = f := fun e => h e.symm
      simp [h, h']
/-- facts.index(name) -/
theorem mix_strs {fs : List Str} {x : Str} {Φ : R → Prop} (hs : ∀ f ∈ fs, strOk f = true) (h : x ∈ fs) (k : Φ (.val (.int ((fs.idxOf x : Nat) : Int)))) : mixW (.list (fs.map .str)) (.str x) Φ := by
  have hi : fs.idxOf x < fs.length := List.idxOf_lt_length_of_mem h
  refine ⟨(lay_list (n := 0) fun d hd => ?_).shaped (by decide), shaped_str (hs x h), fs.idxOf x, .str x, ?_, ?_, fun m z hm hz => ?_, k⟩
  · obtain ⟨f, hf, rfl⟩ := List.mem_map.mp hd
    exact lay_str (hs f hf)
  · rw [List.getElem?_map, List.getElem?_eq_getElem hi, List.getElem_idxOf hi]
    rfl
  · rw [eqv_str]; exact decide_eq_true rfl
  · have hm' : m < fs.length := by omega
    rw [List.getElem?_map, List.getElem?_eq_getElem hm'] at hz
    cases hz
    rw [eqv_str]
    refine decide_eq_false fun e => ?_
    have q := List.not_of_lt_findIdx (p := fun y => y == x) hm
    rw [beq_eq_false_iff_ne] at q
    exact q e
theorem atI_map {α β : Type} (g : α → β) (xs : List α) (i : Int) : atI (xs.map g) i = (atI xs i).map g := by
  unfold atI
  rw [List.length_map]
  cases ixN xs.length i with
  | none => rfl
  | some j => simp [List.getElem?_map]
theorem atI_mod {α : Type} {xs : List α} (h : xs ≠ []) (i : Int) : ∃ x ∈ xs, atI xs (i % (xs.length : Int)) = some x := by
  have hl : 0 < xs.length := List.length_pos_iff.mpr h
  have h0 : 0 ≤ i % (xs.length : Int) := Int.emod_nonneg _ (by omega)
  have h1 : i % (xs.length : Int) < xs.length := Int.emod_lt_of_pos _ (by omega)
  generalize i % (xs.length : Int) = z at h0 h1
  obtain ⟨k, rfl⟩ := Int.eq_ofNat_of_zero_le h0
  have hk : k < xs.length := by omega
  exact ⟨xs[k], List.getElem_mem hk, atI_nat (List.getElem?_eq_getElem hk)⟩
theorem atI_nat' {α : Type} {xs : List α} {j : Nat} {x : α} (h : xs[j]? = some x) : atI xs (j : Int) = some x := atI_nat h
theorem atI_lt {α : Type} {xs : List α} {i : Int} (h0 : 0 ≤ i) (h1 : i < xs.length) : ∃ x ∈ xs, atI xs i = some x := by
  obtain ⟨k, rfl⟩ := Int.eq_ofNat_of_zero_le h0
  have hk : k < xs.length := by omega
  exact ⟨xs[k], List.getElem_mem hk, atI_nat (List.getElem?_eq_getElem hk)⟩
theorem and_two_pow (n k : Nat) : n &&& 2 ^ k = (n.testBit k).toNat * 2 ^ k := by
  apply Nat.eq_of_testBit_eq
  intro i
  rw [Nat.testBit_and, Nat.testBit_two_pow]
  by_cases h : k = i
  · subst h
    cases e : n.testBit k <;> simp [Nat.testBit_two_pow]
  · cases e : n.testBit k <;> simp [Nat.testBit_two_pow, h]
/-- w & 1 << k -/
theorem band_bit (w k : Nat) : Builtin.bitAnd (w : Int) ((2 ^ k : Nat) : Int) = (((w.testBit k).toNat * 2 ^ k : Nat) : Int) := by
  rw [PySem.W.os_band, and_two_pow]
end PF

namespace PF
open PySem L2
open PySem.PyData (strOk)
/-! ### conditions -/
inductive Cd where
  | yes | fact (n : Str) | not_ (c : Cd) | both (c d : Cd) | either (c d : Cd)
def Cd.py : Cd → D
  | .yes => .tuple [.str "yes"]
  | .fact n => .tuple [.str "fact", .str n]
  | .not_ c => .tuple [.str "not", c.py]
  | .both c d => .tuple [.str "both", c.py, d.py]
  | .either c d => .tuple [.str "either", c.py, d.py]
def Cd.dep : Cd → Nat
  | .yes | .fact _ => 0
  | .not_ c => c.dep + 1
  | .both c d | .either c d => max c.dep d.dep + 1
/-- it names these facts alone -/
def Cd.over (fs : List Str) : Cd → Prop
  | .yes => True
  | .fact n => n ∈ fs
  | .not_ c => c.over fs
  | .both c d | .either c d => c.over fs ∧ d.over fs
/-- does it hold in the world w -/
def Cd.ev (fs : List Str) (w : Nat) : Cd → Bool
  | .yes => true
  | .fact n => w.testBit (fs.idxOf n)
  | .not_ c => !c.ev fs w
  | .both c d => c.ev fs w && d.ev fs w
  | .either c d => c.ev fs w || d.ev fs w
/-- names that can be laid -/
def Names (fs : List Str) : Prop := ∀ f ∈ fs, strOk f = true
theorem lay_names {fs : List Str} (h : Names fs) : Lay 1 (.list (fs.map .str)) := lay_list (n := 0) fun d hd => by
  obtain ⟨f, hf, rfl⟩ := List.mem_map.mp hd
  exact lay_str (h f hf)
theorem Cd.lay {fs : List Str} (h : Names fs) : ∀ c : Cd, c.over fs → Lay (c.dep + 1) c.py
  | .yes, _ => lay_tuple (n := 0) fun d hd => by rw [List.mem_singleton.mp hd]; exact lay_str (by decide +kernel)
  | .fact n, o => lay_tuple (n := 0) fun d hd => by
    rcases List.mem_cons.mp hd with rfl | hd
    · exact lay_str (by decide +kernel)
    · rw [List.mem_singleton.mp hd]; exact lay_str (h n o)
  | .not_ c, o => lay_tuple (n := c.dep + 1) fun d hd => by
    rcases List.mem_cons.mp hd with rfl | hd
    · exact (lay_str (by decide +kernel)).mono (Nat.zero_le _)
    · rw [List.mem_singleton.mp hd]; exact Cd.lay h c o
  | .both c e, o => lay_tuple (n := max c.dep e.dep + 1) fun d hd => by
    rcases List.mem_cons.mp hd with rfl | hd
    · exact (lay_str (by decide +kernel)).mono (Nat.zero_le _)
    rcases List.mem_cons.mp hd with rfl | hd
    · exact (Cd.lay h c o.1).mono (by omega)
    · rw [List.mem_singleton.mp hd]; exact (Cd.lay h e o.2).mono (by omega)
  | .either c e, o => lay_tuple (n := max c.dep e.dep + 1) fun d hd => by
    rcases List.mem_cons.mp hd with rfl | hd
    · exact (lay_str (by decide +kernel)).mono (Nat.zero_le _)
    rcases List.mem_cons.mp hd with rfl | hd
    · exact (Cd.lay h c o.1).mono (by omega)
    · rw [List.mem_singleton.mp hd]; exact (Cd.lay h e o.2).mono (by omega)
theorem str_ne {a b : String} (h : (PySem.Str.ofString a = PySem.Str.ofString b) = False) : PyData.eqv (.str (PySem.Str.ofString a)) (.str (PySem.Str.ofString b)) = false := by
  rw [eqv_str]
  exact decide_eq_false (by rw [h]; exact fun z => z)
theorem str_same (a : Str) : PyData.eqv (.str a) (.str a) = true := by rw [eqv_str]; exact decide_eq_true rfl
theorem atI0 {α : Type} (x : α) (xs : List α) : atI (x :: xs) 0 = some x := atI_nat (j := 0) rfl
theorem atI1 {α : Type} (x y : α) (xs : List α) : atI (x :: y :: xs) 1 = some y := atI_nat (j := 1) rfl
theorem atI2 {α : Type} (x y z : α) (xs : List α) : atI (x :: y :: z :: xs) 2 = some z := atI_nat (j := 2) rfl
theorem ofs_inj {a b : String} : (Str.ofString a = Str.ofString b) = (a = b) := by
  apply propext
  constructor
  · intro h
    rw [Str.ofString_eq_toList, Str.ofString_eq_toList] at h
    injection h with h
    have h : a.toList.map Char.toNat = b.toList.map Char.toNat := by simpa using h
    have inj : ∀ l m : List Char, l.map Char.toNat = m.map Char.toNat → l = m := by
      intro l
      induction l with
      | nil => intro m h; cases m <;> simp_all
      | cons c l ih =>
        intro m h
        cases m with
        | nil => simp at h
        | cons d m =>
          simp only [List.map_cons, List.cons.injEq] at h
          have hc : c = d := by
            have := h.1
            exact Char.toNat_inj.mp this
          rw [hc, ih m h.2]
    exact String.toList_inj.mp (inj _ _ h)
  · rintro rfl; rfl
theorem strOk_lit (s : String) : strOk (Str.ofString s) = true := by
  rw [Str.ofString_eq_toList]
  show ((s.toList.map Char.toNat).toArray.all fun c => decide (c < 0x110000)) = true
  rw [List.all_toArray, List.all_eq_true]
  intro n hn
  obtain ⟨c, _, rfl⟩ := List.mem_map.mp hn
  have h := c.valid
  simp only [UInt32.isValidChar, Nat.isValidChar] at h
  refine decide_eq_true ?_
  show c.val.toNat < 0x110000
  omega
theorem shaped_lit (s : String) : SeqAt.shaped (.str (Str.ofString s)) = true := shaped_str (strOk_lit s)
theorem nodup_le {α : Type} [DecidableEq α] : ∀ {l m : List α}, l.Nodup → (∀ x ∈ l, x ∈ m) → l.length ≤ m.length
  | [], _, _, _ => Nat.zero_le _
  | x :: l, m, hn, hs => by
    have hx : x ∈ m := hs x List.mem_cons_self
    have h1 := List.nodup_cons.mp hn
    have h2 := nodup_le (l := l) (m := m.erase x) h1.2 fun y hy => by
      have ne : y ≠ x := fun e => h1.1 (e ▸ hy)
      exact (List.mem_erase_of_ne ne).mpr (hs y (List.mem_cons_of_mem _ hy))
    rw [List.length_erase_of_mem hx] at h2
    have h3 : 0 < m.length := List.length_pos_of_mem hx
    rw [List.length_cons]
    omega
theorem strOk_iff {x : Str} : strOk x = true ↔ ∀ c ∈ x.cps, c < 0x110000 := by
  unfold PyData.strOk
  rw [Array.all_eq_true_iff_forall_mem]
  simp
theorem mem_foldl {g : Array Nat} {P : Nat → Prop} (hg : ∀ c ∈ g, P c) : ∀ (ps : List Str) (a : Array Nat), (∀ c ∈ a, P c) → (∀ p ∈ ps, ∀ c ∈ p.cps, P c) → ∀ c ∈ ps.foldl (fun acc p => acc ++ g ++ p.cps) a, P c
  | [], a, ha, _ => ha
  | p :: ps, a, ha, hp => mem_foldl hg ps _ (fun c hc => by
      rcases Array.mem_append.mp hc with hc | hc
      · rcases Array.mem_append.mp hc with hc | hc
        · exact ha c hc
        · exact hg c hc
      · exact hp p List.mem_cons_self c hc) fun q hq => hp q (List.mem_cons_of_mem _ hq)
theorem mem_join {P : Nat → Prop} {sep : Str} (hg : ∀ c ∈ sep.cps, P c) {ps : List Str} (hp : ∀ p ∈ ps, ∀ c ∈ p.cps, P c) : ∀ c ∈ (Txt.join sep ps).cps, P c := by
  show ∀ c ∈ (ps.drop 1).foldl (fun acc p => acc ++ sep.cps ++ p.cps) (ps.headD Str.empty).cps, P c
  refine mem_foldl hg _ _ (fun c hc => ?_) fun p h => hp p (List.mem_of_mem_drop h)
  cases ps with
  | nil =>
    have hc : c ∈ (#[] : Array Nat) := hc
    simp at hc
  | cons p ps => exact hp p List.mem_cons_self c hc
theorem Sel.mem {T : D → D → Prop} {C : D → Prop} {xs ys : List D} (h : Sel T C xs ys) : ∀ y ∈ ys, ∃ x ∈ xs, T x y := by
  induction h with
  | nil => intro y hy; cases hy
  | keep t _ ih =>
    intro y hy
    rcases List.mem_cons.mp hy with rfl | hy
    · exact ⟨_, List.mem_cons_self, t⟩
    · obtain ⟨x, hx, q⟩ := ih y hy
      exact ⟨x, List.mem_cons_of_mem _ hx, q⟩
  | drop _ _ ih =>
    intro y hy
    obtain ⟨x, hx, q⟩ := ih y hy
    exact ⟨x, List.mem_cons_of_mem _ hx, q⟩
theorem strs_of {ys : List D} {P : Str → Prop} (h : ∀ y ∈ ys, ∃ s, y = .str s ∧ P s) : ∃ zs : List Str, ys = zs.map .str ∧ strsOf ys = some zs ∧ ∀ z ∈ zs, P z := by
  induction ys with
  | nil => exact ⟨[], rfl, rfl, fun _ h => by cases h⟩
  | cons y ys ih =>
    obtain ⟨zs, h1, h2, h3⟩ := ih fun y hy => h y (List.mem_cons_of_mem _ hy)
    obtain ⟨s, rfl, hs⟩ := h y List.mem_cons_self
    refine ⟨s :: zs, by rw [h1]; rfl, by simp only [strsOf, h2, Option.map_some], fun z hz => ?_⟩
    rcases List.mem_cons.mp hz with rfl | hz
    · exact hs
    · exact h3 z hz
theorem mem_rng {lo : Int} {n : Nat} {x : D} (h : x ∈ rngL lo n) : ∃ i : Nat, i < n ∧ x = .int (lo + i) := by
  unfold rngL at h
  obtain ⟨i, hi, rfl⟩ := List.mem_map.mp h
  exact ⟨i, List.mem_range.mp hi, rfl⟩
theorem rng_len (lo : Int) (n : Nat) : (rngL lo n).length = n := by unfold rngL; rw [List.length_map, List.length_range]
theorem sz_le {n : Nat} (h : n ≤ 1000) : (n ≤ sizeLine) = True := eq_true (Nat.le_trans h (by decide))
theorem sz_lt {n : Nat} (h : n ≤ 1000) : (n < sizeLine) = True := eq_true (Nat.lt_of_le_of_lt h (by decide))
/-- worlds' bits by division -/
theorem bit_div (w k : Nat) : (w / 2 ^ k % 2 = 1) = (w.testBit k = true) := by
  rw [Nat.testBit_eq_decide_div_mod_eq]
  simp
end PF

namespace PF
open PySem L2
open PySem.PyData (strOk)
/-! ### lists of the worlds in which something holds -/
def wN (M : Nat) (p : Nat → Bool) : List D := ((List.range M).filter p).map fun (w : Nat) => PyData.int w
theorem wN_congr {M : Nat} {p q : Nat → Bool} (h : ∀ w, p w = q w) : wN M p = wN M q := by
  have : p = q := funext h
  rw [this]
theorem wN_int {M : Nat} {p : Nat → Bool} : ∀ d ∈ wN M p, ∃ i : Nat, i < M ∧ p i = true ∧ d = .int i := fun d hd => by
  obtain ⟨w, hw, rfl⟩ := List.mem_map.mp hd
  have := List.mem_filter.mp hw
  exact ⟨w, List.mem_range.mp this.1, this.2, rfl⟩
theorem wN_len (M : Nat) (p : Nat → Bool) : (wN M p).length ≤ M := by
  unfold wN
  rw [List.length_map]
  refine Nat.le_trans (List.length_filter_le _ _) ?_
  rw [List.length_range]
  exact Nat.le_refl _
theorem wN_lay (M : Nat) (p : Nat → Bool) : Lay 1 (.list (wN M p)) := lay_list (n := 0) fun d hd => by
  obtain ⟨i, _, _, rfl⟩ := wN_int d hd
  exact lay_int _
theorem any_ints (l : List Nat) (i : Nat) : (l.map fun (w : Nat) => PyData.int w).any (fun z => PyData.eqv z (.int (i : Nat))) = decide (i ∈ l) := by
  induction l with
  | nil => simp
  | cons x l ih =>
    rw [List.map_cons, List.any_cons, ih, eqv_int]
    by_cases h : x = i
    · subst h; simp
    · have h1 : ¬ i = x := fun e => h e.symm
      have h2 : ¬ ((x : Int) = (i : Int)) := by omega
      simp [h1, h2]
theorem any_wN (M : Nat) (p : Nat → Bool) (i : Nat) (hi : i < M) : (wN M p).any (fun z => PyData.eqv z (.int (i : Nat))) = p i := by
  unfold wN
  rw [any_ints]
  cases e : p i with
  | true => exact decide_eq_true (List.mem_filter.mpr ⟨List.mem_range.mpr hi, e⟩)
  | false => exact decide_eq_false fun h => by have := (List.mem_filter.mp h).2; rw [e] at this; cases this
/-- a test on whole numbers as a map that may leave out -/
def pickN (p : Nat → Bool) : D → Option D
  | .int i => if p i.toNat = true then some (.int i) else none
  | _ => none
theorem pickN_nat (p : Nat → Bool) (i : Nat) : pickN p (.int (i : Nat)) = if p i = true then some (.int (i : Nat)) else none := by
  show (if p (i : Int).toNat = true then _ else _) = _
  rw [Int.toNat_natCast]
theorem pickN_map (p : Nat → Bool) : ∀ l : List Nat, (l.map fun (w : Nat) => PyData.int w).filterMap (pickN p) = (l.filter p).map fun (w : Nat) => PyData.int w
  | [] => rfl
  | x :: l => by
    rw [List.map_cons, List.filterMap_cons, pickN_nat, List.filter_cons]
    cases e : p x with
    | true => rw [if_pos rfl, if_pos rfl, List.map_cons, pickN_map p l]
    | false => rw [if_neg Bool.false_ne_true, if_neg Bool.false_ne_true]; exact pickN_map p l
theorem rng_nat (M : Nat) : rngL 0 M = (List.range M).map fun (w : Nat) => PyData.int w := by
  unfold rngL
  refine List.map_congr_left fun i _ => ?_
  rw [Int.zero_add]
theorem wN_rng (M : Nat) (p : Nat → Bool) : (rngL 0 M).filterMap (pickN p) = wN M p := by rw [rng_nat, pickN_map]; rfl
theorem wN_all (M : Nat) : rngL 0 M = wN M fun _ => true := by
  rw [rng_nat]
  unfold wN
  rw [List.filter_eq_self.mpr fun _ _ => rfl]
theorem wN_none (M : Nat) : [] = wN M fun _ => false := by
  unfold wN
  rw [List.filter_eq_nil_iff.mpr fun _ _ => Bool.false_ne_true]
  rfl
theorem wN_and (M : Nat) (p q : Nat → Bool) : (wN M p).filterMap (pickN q) = wN M fun w => p w && q w := by
  unfold wN
  rw [pickN_map, List.filter_filter]
  congr 2
  funext w
  exact Bool.and_comm ..
/-- two rising lists of the same numbers -/
theorem rising_ext : ∀ {l m : List Int}, l.Pairwise (· < ·) → m.Pairwise (· < ·) → (∀ k, k ∈ l ↔ k ∈ m) → l = m
  | [], [], _, _, _ => rfl
  | [], y :: m, _, _, h => absurd ((h y).mpr List.mem_cons_self) (by simp)
  | x :: l, [], _, _, h => absurd ((h x).mp List.mem_cons_self) (by simp)
  | x :: l, y :: m, hl, hm, h => by
    have hl' := List.pairwise_cons.mp hl
    have hm' := List.pairwise_cons.mp hm
    have e : x = y := by
      rcases List.mem_cons.mp ((h x).mp List.mem_cons_self) with e | a
      · exact e
      rcases List.mem_cons.mp ((h y).mpr List.mem_cons_self) with e | b
      · exact e.symm
      have := hm'.1 x a
      have := hl'.1 y b
      omega
    subst e
    rw [rising_ext hl'.2 hm'.2 fun k => ?_]
    constructor
    · intro hk
      rcases List.mem_cons.mp ((h k).mp (List.mem_cons_of_mem _ hk)) with e | a
      · have := hl'.1 k hk; omega
      · exact a
    · intro hk
      rcases List.mem_cons.mp ((h k).mpr (List.mem_cons_of_mem _ hk)) with e | a
      · have := hm'.1 k hk; omega
      · exact a
theorem ints_of_nats (l : List Nat) : intsOf (l.map fun (w : Nat) => PyData.int w) = some (l.map fun (w : Nat) => (w : Int)) := by
  induction l with
  | nil => rfl
  | cons x l ih => rw [List.map_cons]; simp only [intsOf, ih]; rfl
theorem wN_rise (M : Nat) (p : Nat → Bool) : (((List.range M).filter p).map fun (w : Nat) => (w : Int)).Pairwise (· < ·) := by
  rw [List.pairwise_map]
  refine List.Pairwise.imp ?_ (List.Pairwise.filter p List.pairwise_lt_range)
  intro a b h
  omega
/-- sorted(set(first + second)) -/
theorem sset_wN {M : Nat} {p q : Nat → Bool} {Φ : R → Prop} (hM : M ≤ 2000) (h : Φ (.new (wN M fun w => p w || q w))) : ssetW (.list (wN M p ++ wN M q)) Φ := by
  have e : intsOf (wN M p ++ wN M q) = some (((List.range M).filter p).map (fun (w : Nat) => (w : Int)) ++ ((List.range M).filter q).map fun (w : Nat) => (w : Int)) := by
    unfold wN
    rw [← List.map_append, ints_of_nats, List.map_append]
  refine ⟨_, e, ?_, fun zs hz hk => ?_⟩
  · rw [List.length_append, List.length_map, List.length_map]
    have h1 := List.length_filter_le p (List.range M)
    have h2 := List.length_filter_le q (List.range M)
    rw [List.length_range] at h1 h2
    omega
  · have : zs = ((List.range M).filter fun w => p w || q w).map fun (w : Nat) => (w : Int) := by
      refine rising_ext hz (wN_rise M _) fun k => ?_
      rw [hk, List.mem_append]
      simp only [List.mem_map, List.mem_filter, List.mem_range, Bool.or_eq_true]
      constructor
      · rintro (⟨w, ⟨h1, h2⟩, rfl⟩ | ⟨w, ⟨h1, h2⟩, rfl⟩)
        · exact ⟨w, ⟨h1, .inl h2⟩, rfl⟩
        · exact ⟨w, ⟨h1, .inr h2⟩, rfl⟩
      · rintro ⟨w, ⟨h1, h2 | h2⟩, rfl⟩
        · exact .inl ⟨w, ⟨h1, h2⟩, rfl⟩
        · exact .inr ⟨w, ⟨h1, h2⟩, rfl⟩
    rw [this, List.map_map]
    exact h
end PF

open PySem L2 PF
local macro_rules | `(tactic| walk_at "wp") => `(tactic| (repeat (first
  | dsimp only [wpS, wpE, rho0, postOf, binW, cmpW, ixW, slW, partW, bltW, lenW, listW, tupleW, intW, absW, min2W, max2W, isTy, rng1W, rng2W, lrg1W, lrg2W, enmW, putW, boolW_t, boolW_f, onB_b, notW_b, scalar, R.d, bindT, bindW, setMany, wipeR, itemsW, itemsOf, List.map, List.length, List.replicate, List.append, List.set,
      List.getElem?_cons_zero, List.getElem?_cons_succ, List.getElem?_nil, List.cons_append, List.nil_append, List.set_cons_zero, List.set_cons_succ, List.map_cons, List.map_nil, List.length_cons, List.length_nil, List.replicate_succ, List.replicate_zero, Nat.reduceAdd, Nat.reduceSub]
  | simp only [eqv_str, eqv_int, eqv_bool, ofs_inj, String.reduceEq, decide_true, decide_false, shaped_lit, shaped_int, shaped_bool, shaped_none, true_and, and_true, atI0, atI1, atI2, Option.some.injEq, exists_eq_left', Bool.false_eq_true, if_false, if_true, sz_le, sz_lt, Nat.reduceLeDiff, eq_self, Bool.not_true, Bool.not_false]
  | rw [wpS_blk]
  | rw [wpE_blk])))
namespace K04
open PySem L2 PF
def top (i : Nat) : Stmt := PySem.Challenge.pw_sureplans_k04_whole_conditions_by_condit.main.body.getD i (.Pass ⟨0, 0, 0, 0⟩)
/-! the defs, as terms of the small language -/
abbrev st_holds_in : Stmt := top 2
def N_holds_in : List Str := ["house", "condition", "world", "kind"]
-- callees ['is_so', 'holds_in'] constants [] built-in [] parameters ['house', 'condition', 'world']
def ts_holds_in : Ts := ⟨N_holds_in, ["is_so", "holds_in"], [], []⟩
def b_holds_in : S :=
  (.seq (.set 3 false (.ix (.var 1) (.int 0)))
    (blk (.seq (.ife (.cmp .eq (.var 3) (.str "yes"))
    (.seq (.ret (.bl true))
    .nil)
    .nil)
    (blk (.seq (.ife (.cmp .eq (.var 3) (.str "fact"))
    (.seq (.ret (.call 0 (.econs (.var 0) (.econs (.ix (.var 1) (.int 1)) (.econs (.var 2) .enil)))))
    .nil)
    .nil)
    (blk (.seq (.ife (.cmp .eq (.var 3) (.str "not"))
    (.seq (.ret (.not_ (.call 1 (.econs (.var 0) (.econs (.ix (.var 1) (.int 1)) (.econs (.var 2) .enil))))))
    .nil)
    .nil)
    (blk (.seq (.ife (.cmp .eq (.var 3) (.str "both"))
    (.seq (.ret (.and_ (.call 1 (.econs (.var 0) (.econs (.ix (.var 1) (.int 1)) (.econs (.var 2) .enil)))) (.one (.call 1 (.econs (.var 0) (.econs (.ix (.var 1) (.int 2)) (.econs (.var 2) .enil)))))))
    .nil)
    .nil)
    (blk (.seq (.ret (.or_ (.call 1 (.econs (.var 0) (.econs (.ix (.var 1) (.int 1)) (.econs (.var 2) .enil)))) (.one (.call 1 (.econs (.var 0) (.econs (.ix (.var 1) (.int 2)) (.econs (.var 2) .enil)))))))
    .nil)))))))))))
theorem m_holds_in : mS ts_holds_in (defScope st_holds_in) b_holds_in (defBody st_holds_in) = true := by decide +kernel
theorem sc_holds_in : FnScope N_holds_in ["house", "condition", "world"] (defScope st_holds_in) := ⟨rfl, rfl, rfl, by decide +kernel, rfl, by decide +kernel, by decide +kernel⟩
theorem a_holds_in : ArgsOk st_holds_in "holds_in" ["house", "condition", "world"] := fun _ _ _ _ _ _ us hl => match us, hl with | [_, _, _], _ => rfl

abbrev st_worlds_where : Stmt := top 3
def N_worlds_where : List Str := ["house", "condition", "world"]
-- callees ['worlds_in_all', 'holds_in'] constants [] built-in ['range'] parameters ['house', 'condition']
def ts_worlds_where : Ts := ⟨N_worlds_where, ["worlds_in_all", "holds_in"], [], ["range"]⟩
def b_worlds_where : S :=
  (.seq (.ret (.comp [("world", 2)] (.one 2) (.rng1 (.call 0 (.econs (.var 0) .enil))) (eblk (.call 1 (.econs (.var 0) (.econs (.var 1) (.econs (.var 2) .enil))))) (eblk (.var 2))))
    .nil)
theorem m_worlds_where : mS ts_worlds_where (defScope st_worlds_where) b_worlds_where (defBody st_worlds_where) = true := by decide +kernel
theorem sc_worlds_where : FnScope N_worlds_where ["house", "condition"] (defScope st_worlds_where) := ⟨rfl, rfl, rfl, by decide +kernel, rfl, by decide +kernel, by decide +kernel⟩
theorem a_worlds_where : ArgsOk st_worlds_where "worlds_where" ["house", "condition"] := fun _ _ _ _ _ _ us hl => match us, hl with | [_, _], _ => rfl

abbrev st_is_so : Stmt := top 4
def N_is_so : List Str := ["house", "fact", "world"]
-- callees ['fact_bit'] constants [] built-in [] parameters ['house', 'fact', 'world']
def ts_is_so : Ts := ⟨N_is_so, ["fact_bit"], [], []⟩
def b_is_so : S :=
  (.seq (.ret (.cmp .gt (.bin .band (.var 2) (.call 0 (.econs (.var 0) (.econs (.var 1) .enil)))) (.int 0)))
    .nil)
theorem m_is_so : mS ts_is_so (defScope st_is_so) b_is_so (defBody st_is_so) = true := by decide +kernel
theorem sc_is_so : FnScope N_is_so ["house", "fact", "world"] (defScope st_is_so) := ⟨rfl, rfl, rfl, by decide +kernel, rfl, by decide +kernel, by decide +kernel⟩
theorem a_is_so : ArgsOk st_is_so "is_so" ["house", "fact", "world"] := fun _ _ _ _ _ _ us hl => match us, hl with | [_, _, _], _ => rfl

abbrev st_fact_bit : Stmt := top 5
def N_fact_bit : List Str := ["house", "fact"]
-- callees [] constants ['FACTS'] built-in [] parameters ['house', 'fact']
def ts_fact_bit : Ts := ⟨N_fact_bit, [], ["FACTS"], []⟩
def b_fact_bit : S :=
  (.seq (.ret (.bin .shl (.int 1) (.mix (.ix (.var 0) (.con 0)) (.var 1))))
    .nil)
theorem m_fact_bit : mS ts_fact_bit (defScope st_fact_bit) b_fact_bit (defBody st_fact_bit) = true := by decide +kernel
theorem sc_fact_bit : FnScope N_fact_bit ["house", "fact"] (defScope st_fact_bit) := ⟨rfl, rfl, rfl, by decide +kernel, rfl, by decide +kernel, by decide +kernel⟩
theorem a_fact_bit : ArgsOk st_fact_bit "fact_bit" ["house", "fact"] := fun _ _ _ _ _ _ us hl => match us, hl with | [_, _], _ => rfl

abbrev st_worlds_in_all : Stmt := top 6
def N_worlds_in_all : List Str := ["house"]
-- callees [] constants ['FACTS'] built-in ['len'] parameters ['house']
def ts_worlds_in_all : Ts := ⟨N_worlds_in_all, [], ["FACTS"], ["len"]⟩
def b_worlds_in_all : S :=
  (.seq (.ret (.bin .shl (.int 1) (.blt .len (.econs (.ix (.var 0) (.con 0)) .enil))))
    .nil)
theorem m_worlds_in_all : mS ts_worlds_in_all (defScope st_worlds_in_all) b_worlds_in_all (defBody st_worlds_in_all) = true := by decide +kernel
theorem sc_worlds_in_all : FnScope N_worlds_in_all ["house"] (defScope st_worlds_in_all) := ⟨rfl, rfl, rfl, by decide +kernel, rfl, by decide +kernel, by decide +kernel⟩
theorem a_worlds_in_all : ArgsOk st_worlds_in_all "worlds_in_all" ["house"] := fun _ _ _ _ _ _ us hl => match us, hl with | [_], _ => rfl

abbrev st_law_cell_at : Stmt := top 8
def N_law_cell_at : List Str := ["script", "k"]
-- callees [] constants [] built-in ['len'] parameters ['script', 'k']
def ts_law_cell_at : Ts := ⟨N_law_cell_at, [], [], ["len"]⟩
def b_law_cell_at : S :=
  (.seq (.ife (.cmp .lt (.var 1) (.blt .len (.econs (.var 0) .enil)))
    (.seq (.ret (.ix (.var 0) (.var 1)))
    .nil)
    .nil)
    (blk (.seq (.ret (.int 0))
    .nil)))
theorem m_law_cell_at : mS ts_law_cell_at (defScope st_law_cell_at) b_law_cell_at (defBody st_law_cell_at) = true := by decide +kernel
theorem sc_law_cell_at : FnScope N_law_cell_at ["script", "k"] (defScope st_law_cell_at) := ⟨rfl, rfl, rfl, by decide +kernel, rfl, by decide +kernel, by decide +kernel⟩
theorem a_law_cell_at : ArgsOk st_law_cell_at "_law_cell_at" ["script", "k"] := fun _ _ _ _ _ _ us hl => match us, hl with | [_, _], _ => rfl

abbrev st_law_stir : Stmt := top 9
def N_law_stir : List Str := ["cell", "k", "number"]
-- callees [] constants [] built-in [] parameters ['cell', 'k']
def ts_law_stir : Ts := ⟨N_law_stir, [], [], []⟩
def b_law_stir : S :=
  (.seq (.ife (.cmp .ge (.var 0) (.bin .pow (.int 10) (.int 18)))
    (.seq (.ret (.bin .mod (.bin .shr (.bin .sub (.var 0) (.bin .pow (.int 10) (.int 18))) (.bin .mul (.int 28) (.var 1))) (.bin .pow (.int 2) (.int 28))))
    .nil)
    .nil)
    (blk (.seq (.set 2 false (.bin .mod (.bin .mul (.bin .add (.bin .add (.var 0) (.bin .mul (.int 1013) (.var 1))) (.int 1)) (.int 16807)) (.int 2147483647)))
    (blk (.seq (.set 2 false (.bin .mod (.bin .mul (.var 2) (.var 2)) (.int 2147483629)))
    (blk (.seq (.ret (.bin .fdiv (.bin .mod (.bin .mul (.var 2) (.int 39373)) (.int 2147483587)) (.int 8)))
    .nil)))))))
theorem m_law_stir : mS ts_law_stir (defScope st_law_stir) b_law_stir (defBody st_law_stir) = true := by decide +kernel
theorem sc_law_stir : FnScope N_law_stir ["cell", "k"] (defScope st_law_stir) := ⟨rfl, rfl, rfl, by decide +kernel, rfl, by decide +kernel, by decide +kernel⟩
theorem a_law_stir : ArgsOk st_law_stir "_law_stir" ["cell", "k"] := fun _ _ _ _ _ _ us hl => match us, hl with | [_, _], _ => rfl

abbrev st_law_names : Stmt := top 10
def N_law_names : List Str := ["head", "base", "many", "some", "letters", "found", "k", "number", "left", "name", "word", "j"]
-- callees ['_law_stir'] constants [] built-in ['range', 'len'] parameters ['head', 'base', 'many']
def ts_law_names : Ts := ⟨N_law_names, ["_law_stir"], [], ["range", "len"]⟩
def b_law_names : S :=
  (.seq (.set 3 false (.lst (.econs (.str "a") (.econs (.str "yes") (.econs (.str "not") (.econs (.str "both") (.econs (.str "abcdefgh") (.econs (.str "either") (.econs (.str "ye") (.econs (.str "fact") (.econs (.str "x") (.econs (.str "no") (.econs (.str "abcdefg") (.econs (.str "yess") .enil))))))))))))))
    (blk (.seq (.set 3 false (.bin .add (.var 3) (.lst (.econs (.str "deed") (.econs (.str "look") (.econs (.str "ab") (.econs (.str "abc") (.econs (.str "facts") (.econs (.str "need") (.econs (.str "way") (.econs (.str "end") .enil)))))))))))
    (blk (.seq (.set 4 false (.str "abcdefghijklmnopqrstuvwxyz"))
    (blk (.seq (.set 5 true (.lst .enil))
    (blk (.seq (.for_ (.one 6) (.rng1 (.var 2))
    (blk (.seq (.set 7 false (.call 0 (.econs (.var 0) (.econs (.bin .add (.var 1) (.var 6)) .enil))))
    (blk (.seq (.setLc 8 false (.comp [("name", 9)] (.one 9) (.var 3) (eblk (.lend 5 (.cmp .notin (.var 9) (.var 5)))) (eblk (.var 9))))
    (blk (.seq (.set 9 false (.ix (.var 8) (.bin .mod (.var 7) (.blt .len (.econs (.var 8) .enil)))))
    (blk (.seq (.set 10 false (.join (.str "") (.comp [("j", 11)] (.one 11) (.rng1 (.bin .add (.int 1) (.bin .mod (.bin .fdiv (.var 7) (.int 32)) (.int 8)))) .yes (eblk (.ix (.var 4) (.bin .mod (.call 0 (.econs (.var 0) (.econs (.bin .add (.bin .add (.bin .add (.var 1) (.int 40)) (.bin .mul (.int 8) (.var 6))) (.var 11)) .enil))) (.int 26)))))))
    (blk (.seq (.ife (.and_ (.cmp .eq (.bin .mod (.bin .fdiv (.var 7) (.int 1024)) (.int 2)) (.int 0)) (.one (.lend 5 (.cmp .notin (.var 10) (.var 5)))))
    (.seq (.set 9 false (.var 10))
    .nil)
    .nil)
    (blk (.seq (.app 5 (.var 9))
    .nil)))))))))))))
    (blk (.seq (.retO 5)
    .nil)))))))))))
theorem m_law_names : mS ts_law_names (defScope st_law_names) b_law_names (defBody st_law_names) = true := by decide +kernel
theorem sc_law_names : FnScope N_law_names ["head", "base", "many"] (defScope st_law_names) := ⟨rfl, rfl, rfl, by decide +kernel, rfl, by decide +kernel, by decide +kernel⟩
theorem a_law_names : ArgsOk st_law_names "_law_names" ["head", "base", "many"] := fun _ _ _ _ _ _ us hl => match us, hl with | [_, _, _], _ => rfl

abbrev st_law_condition : Stmt := top 11
def N_law_condition : List Str := ["cell", "base", "node", "facts", "deep", "number", "kind", "one"]
-- callees ['_law_stir', '_law_condition'] constants [] built-in ['len'] parameters ['cell', 'base', 'node', 'facts', 'deep']
def ts_law_condition : Ts := ⟨N_law_condition, ["_law_stir", "_law_condition"], [], ["len"]⟩
def b_law_condition : S :=
  (.seq (.set 5 false (.call 0 (.econs (.var 0) (.econs (.bin .add (.var 1) (.var 2)) .enil))))
    (blk (.seq (.set 6 false (.bin .mod (.var 5) (.int 10)))
    (blk (.seq (.ife (.cmp .eq (.var 6) (.int 0))
    (.seq (.ret (.tup (.econs (.str "yes") .enil)))
    .nil)
    .nil)
    (blk (.seq (.ife (.or_ (.cmp .lt (.var 6) (.int 4)) (.one (.cmp .eq (.var 4) (.int 0))))
    (.seq (.ret (.tup (.econs (.str "fact") (.econs (.ix (.var 3) (.bin .mod (.bin .fdiv (.var 5) (.int 16)) (.blt .len (.econs (.var 3) .enil)))) .enil))))
    .nil)
    .nil)
    (blk (.seq (.set 7 false (.call 1 (.econs (.var 0) (.econs (.var 1) (.econs (.bin .mul (.int 2) (.var 2)) (.econs (.var 3) (.econs (.bin .sub (.var 4) (.int 1)) .enil)))))))
    (blk (.seq (.ife (.cmp .lt (.var 6) (.int 6))
    (.seq (.ret (.tup (.econs (.str "not") (.econs (.var 7) .enil))))
    .nil)
    .nil)
    (blk (.seq (.ret (.tup (.econs (.ix (.lst (.econs (.str "both") (.econs (.str "either") .enil))) (.bin .mod (.var 6) (.int 2))) (.econs (.var 7) (.econs (.call 1 (.econs (.var 0) (.econs (.var 1) (.econs (.bin .add (.bin .mul (.int 2) (.var 2)) (.int 1)) (.econs (.var 3) (.econs (.bin .sub (.var 4) (.int 1)) .enil)))))) .enil)))))
    .nil)))))))))))))
theorem m_law_condition : mS ts_law_condition (defScope st_law_condition) b_law_condition (defBody st_law_condition) = true := by decide +kernel
theorem sc_law_condition : FnScope N_law_condition ["cell", "base", "node", "facts", "deep"] (defScope st_law_condition) := ⟨rfl, rfl, rfl, by decide +kernel, rfl, by decide +kernel, by decide +kernel⟩
theorem a_law_condition : ArgsOk st_law_condition "_law_condition" ["cell", "base", "node", "facts", "deep"] := fun _ _ _ _ _ _ us hl => match us, hl with | [_, _, _, _, _], _ => rfl

abbrev st_law_both_right : Stmt := top 12
def N_law_both_right : List Str := ["house", "one", "other", "worlds", "first", "second", "rows", "condition", "due", "world"]
-- callees ['worlds_where', 'holds_in'] constants [] built-in ['range', 'sorted', 'set', 'list'] parameters ['house', 'one', 'other', 'worlds']
def ts_law_both_right : Ts := ⟨N_law_both_right, ["worlds_where", "holds_in"], [], ["range", "sorted", "set", "list"]⟩
def b_law_both_right : S :=
  (.seq (.set 4 false (.call 0 (.econs (.var 0) (.econs (.var 1) .enil))))
    (blk (.seq (.set 5 false (.call 0 (.econs (.var 0) (.econs (.var 2) .enil))))
    (blk (.seq (.set 6 true (.lst (.econs (.tup (.econs (.tup (.econs (.str "not") (.econs (.var 1) .enil))) (.econs (.comp [("world", 9)] (.one 9) (.rng1 (.var 3)) (eblk (.cmp .notin (.var 9) (.var 4))) (eblk (.var 9))) .enil))) .enil)))
    (blk (.seq (.app 6 (.tup (.econs (.tup (.econs (.str "both") (.econs (.var 1) (.econs (.var 2) .enil)))) (.econs (.comp [("world", 9)] (.one 9) (.var 4) (eblk (.cmp .isin (.var 9) (.var 5))) (eblk (.var 9))) .enil))))
    (blk (.seq (.app 6 (.tup (.econs (.tup (.econs (.str "either") (.econs (.var 1) (.econs (.var 2) .enil)))) (.econs (.sset (.bin .add (.var 4) (.var 5))) .enil))))
    (blk (.seq (.app 6 (.tup (.econs (.tup (.econs (.str "either") (.econs (.var 2) (.econs (.var 1) .enil)))) (.econs (.sset (.bin .add (.var 4) (.var 5))) .enil))))
    (blk (.seq (.frz 6)
    (blk (.seq (.set 6 true (.bin .add (.var 6) (.lst (.econs (.tup (.econs (.tup (.econs (.str "not") (.econs (.tup (.econs (.str "not") (.econs (.var 1) .enil))) .enil))) (.econs (.var 4) .enil))) (.econs (.tup (.econs (.tup (.econs (.str "both") (.econs (.var 1) (.econs (.var 1) .enil)))) (.econs (.var 4) .enil))) (.econs (.tup (.econs (.tup (.econs (.str "either") (.econs (.var 1) (.econs (.var 1) .enil)))) (.econs (.var 4) .enil))) .enil))))))
    (blk (.seq (.app 6 (.tup (.econs (.tup (.econs (.str "not") (.econs (.tup (.econs (.str "both") (.econs (.tup (.econs (.str "not") (.econs (.var 1) .enil))) (.econs (.tup (.econs (.str "not") (.econs (.var 2) .enil))) .enil)))) .enil))) (.econs (.sset (.bin .add (.var 4) (.var 5))) .enil))))
    (blk (.seq (.app 6 (.tup (.econs (.tup (.econs (.str "either") (.econs (.var 1) (.econs (.tup (.econs (.str "not") (.econs (.var 1) .enil))) .enil)))) (.econs (.lrg1 (.var 3)) .enil))))
    (blk (.seq (.app 6 (.tup (.econs (.tup (.econs (.str "both") (.econs (.var 2) (.econs (.tup (.econs (.str "not") (.econs (.var 2) .enil))) .enil)))) (.econs (.lst .enil) .enil))))
    (blk (.seq (.frz 6)
    (blk (.seq (.for_ (.many [7, 8]) (.var 6)
    (blk (.seq (.ife (.cmp .ne (.call 0 (.econs (.var 0) (.econs (.var 7) .enil))) (.var 8))
    (.seq (.ret (.bl false))
    .nil)
    .nil)
    .nil)))
    (blk (.seq (.ret (.cmp .eq (.var 4) (.comp [("world", 9)] (.one 9) (.rng1 (.var 3)) (eblk (.call 1 (.econs (.var 0) (.econs (.var 1) (.econs (.var 9) .enil))))) (eblk (.var 9)))))
    .nil)))))))))))))))))))))))))))
theorem m_law_both_right : mS ts_law_both_right (defScope st_law_both_right) b_law_both_right (defBody st_law_both_right) = true := by decide +kernel
theorem sc_law_both_right : FnScope N_law_both_right ["house", "one", "other", "worlds"] (defScope st_law_both_right) := ⟨rfl, rfl, rfl, by decide +kernel, rfl, by decide +kernel, by decide +kernel⟩
theorem a_law_both_right : ArgsOk st_law_both_right "_law_both_right" ["house", "one", "other", "worlds"] := fun _ _ _ _ _ _ us hl => match us, hl with | [_, _, _, _], _ => rfl

abbrev st_law : Stmt := top 13
def N_law : List Str := ["script", "head", "facts", "house", "worlds", "place", "name", "cells", "cell", "found", "one", "other", "third", "parted", "world"]
-- callees ['_law_cell_at', '_law_names', '_law_stir', 'worlds_where', '_law_condition', '_law_both_right'] constants [] built-in ['len', 'list', 'range', 'enumerate'] parameters ['script']
def ts_law : Ts := ⟨N_law, ["_law_cell_at", "_law_names", "_law_stir", "worlds_where", "_law_condition", "_law_both_right"], [], ["len", "list", "range", "enumerate"]⟩
def b_law : S :=
  (.seq (.set 1 false (.call 0 (.econs (.var 0) (.econs (.int 0) .enil))))
    (blk (.seq (.set 2 false (.call 1 (.econs (.var 1) (.econs (.int 300) (.econs (.bin .add (.int 1) (.bin .mod (.call 2 (.econs (.var 1) (.econs (.int 0) .enil))) (.int 6))) .enil)))))
    (blk (.seq (.set 3 false (.tup (.econs (.var 2) (.econs (.lst .enil) (.econs (.lst .enil) (.econs (.lst (.econs (.int 0) .enil)) (.econs (.tup (.econs (.str "yes") .enil)) .enil)))))))
    (blk (.seq (.set 4 false (.bin .shl (.int 1) (.blt .len (.econs (.var 2) .enil))))
    (blk (.seq (.ife (.or_ (.cmp .ne (.call 3 (.econs (.var 3) (.econs (.tup (.econs (.str "yes") .enil)) .enil))) (.lrg1 (.var 4))) (.one (.cmp .ne (.call 3 (.econs (.var 3) (.econs (.tup (.econs (.str "not") (.econs (.tup (.econs (.str "yes") .enil)) .enil))) .enil))) (.lst .enil))))
    (.seq (.ret (.bl false))
    .nil)
    .nil)
    (blk (.seq (.for_ (.many [5, 6]) (.enm (.var 2))
    (blk (.seq (.set 9 false (.call 3 (.econs (.var 3) (.econs (.tup (.econs (.str "fact") (.econs (.var 6) .enil))) .enil))))
    (blk (.seq (.ife (.or_ (.cmp .ne (.blt .len (.econs (.var 9) .enil)) (.bin .fdiv (.var 4) (.int 2))) (.one (.cmp .ne (.comp [("world", 14)] (.one 14) (.var 9) (eblk (.cmp .eq (.bin .band (.bin .shr (.var 14) (.var 5)) (.int 1)) (.int 0))) (eblk (.var 14))) (.lst .enil))))
    (.seq (.ret (.bl false))
    .nil)
    .nil)
    .nil)))))
    (blk (.seq (.set 7 false (.sl (.var 0) (.int 1) (.int 5)))
    (blk (.seq (.ife (.cmp .eq (.var 7) (.lst .enil))
    (.seq (.set 7 false (.lst (.econs (.int 0) .enil)))
    .nil)
    .nil)
    (blk (.seq (.for_ (.one 8) (.var 7)
    (blk (.seq (.set 10 false (.call 4 (.econs (.var 8) (.econs (.int 100) (.econs (.int 1) (.econs (.var 2) (.econs (.bin .add (.int 1) (.bin .mod (.call 2 (.econs (.var 8) (.econs (.int 1) .enil))) (.int 3))) .enil)))))))
    (blk (.seq (.set 11 false (.call 4 (.econs (.var 8) (.econs (.int 150) (.econs (.int 1) (.econs (.var 2) (.econs (.bin .mod (.call 2 (.econs (.var 8) (.econs (.int 2) .enil))) (.int 4)) .enil)))))))
    (blk (.seq (.set 12 false (.tup (.econs (.str "fact") (.econs (.ix (.var 2) (.bin .mod (.call 2 (.econs (.var 8) (.econs (.int 3) .enil))) (.blt .len (.econs (.var 2) .enil)))) .enil))))
    (blk (.seq (.ife (.not_ (.call 5 (.econs (.var 3) (.econs (.var 10) (.econs (.var 11) (.econs (.var 4) .enil))))))
    (.seq (.ret (.bl false))
    .nil)
    .nil)
    (blk (.seq (.set 13 false (.tup (.econs (.str "either") (.econs (.tup (.econs (.str "both") (.econs (.var 10) (.econs (.var 12) .enil)))) (.econs (.tup (.econs (.str "both") (.econs (.var 11) (.econs (.var 12) .enil)))) .enil)))))
    (blk (.seq (.ife (.cmp .ne (.call 3 (.econs (.var 3) (.econs (.tup (.econs (.str "both") (.econs (.tup (.econs (.str "either") (.econs (.var 10) (.econs (.var 11) .enil)))) (.econs (.var 12) .enil)))) .enil))) (.call 3 (.econs (.var 3) (.econs (.var 13) .enil))))
    (.seq (.ret (.bl false))
    .nil)
    .nil)
    .nil)))))))))))))
    (blk (.seq (.ret (.bl true))
    .nil)))))))))))))))))))
theorem m_law : mS ts_law (defScope st_law) b_law (defBody st_law) = true := by decide +kernel
theorem sc_law : FnScope N_law ["script"] (defScope st_law) := ⟨rfl, rfl, rfl, by decide +kernel, rfl, by decide +kernel, by decide +kernel⟩
theorem a_law : ArgsOk st_law "law" ["script"] := fun _ _ _ _ _ _ us hl => match us, hl with | [_], _ => rfl
end K04

open PySem L2 PF
namespace K04
open PySem L2 PF
open PySem.PyData (strOk)
/-! ### what the defs promise -/
theorem cpow (i j : Int) (h : 0 ≤ j ∧ j ≤ 1000000 ∧ i.natAbs < 2 ^ 64 := by decide) : CPow i j := h
theorem mod_b (z m : Int) (h : 0 < m) : 0 ≤ z % m ∧ z % m < m := ⟨Int.emod_nonneg _ (by omega), Int.emod_lt_of_pos _ h⟩
def spStir : List D → (R → Prop) → Prop := fun ds Φ => ∃ c k : Int, ds = [.int c, .int k] ∧ 0 ≤ k ∧ k ≤ 100000 ∧ ∀ r : Int, 0 ≤ r → r < 268435456 → Φ (.val (.int r))
def feStir : FEntry := ⟨"_law_stir", ["cell", "k"], spStir⟩
theorem v_stir : ∀ ds Φ, spStir ds Φ → wpS ⟨N_law_stir, [], [], [], 0⟩ b_law_stir (rho0 N_law_stir ds) (postOf Φ) := by
  rintro ds Φ ⟨c, k, rfl, h1, h2, h⟩
  unfold b_law_stir N_law_stir
  walk_at "wp"
  refine ⟨cpow 10 18, boolW_dec (fun hc => ?_) fun hc => ?_⟩
  · refine ⟨cpow 10 18, .inl (by decide), by omega, cpow 2 28, by decide, h _ (Int.emod_nonneg _ (by decide)) (Int.emod_lt_of_pos _ (by decide))⟩
  · have m1 := mod_b ((c + 1013 * k + 1) * 16807) 2147483647 (by decide)
    generalize (c + 1013 * k + 1) * 16807 % 2147483647 = y at m1 ⊢
    have m2 := mod_b (y * y) 2147483629 (by decide)
    generalize y * y % 2147483629 = z at m2 ⊢
    have m3 := mod_b (z * 39373) 2147483587 (by decide)
    generalize z * 39373 % 2147483587 = u at m3 ⊢
    exact ⟨.inl (by decide), .inr (by decide), by decide, .inl ⟨by omega, by omega⟩, by decide, .inr (by decide), by decide, ⟨by decide, by decide⟩, h _ (by omega) (by omega)⟩
def spCell : List D → (R → Prop) → Prop := fun ds Φ => ∃ (ns : List Int) (k : Int), ds = [.list (ns.map .int), .int k] ∧ 0 ≤ k ∧ ∀ r : Int, Φ (.val (.int r))
def feCell : FEntry := ⟨"_law_cell_at", ["script", "k"], spCell⟩
theorem v_cell : ∀ ds Φ, spCell ds Φ → wpS ⟨N_law_cell_at, [], [], ["len"], 0⟩ b_law_cell_at (rho0 N_law_cell_at ds) (postOf Φ) := by
  rintro ds Φ ⟨ns, k, rfl, h1, h⟩
  unfold b_law_cell_at N_law_cell_at
  walk_at "wp"
  refine boolW_dec (fun hc => ?_) fun hc => h 0
  obtain ⟨x, hx, e⟩ := atI_lt (xs := ns) h1 (by simpa using hc)
  exact ⟨.int x, by rw [atI_map, e]; rfl, h x⟩
/-! the program -/
def spFB : List D → (R → Prop) → Prop := fun ds Φ => ∃ (fs : List Str) (r : List D) (n : Str), ds = [.tuple (.list (fs.map .str) :: r), .str n] ∧ Names fs ∧ n ∈ fs ∧ fs.length ≤ 64 ∧ Φ (.val (.int ((2 ^ fs.idxOf n : Nat) : Int)))
def feFB : FEntry := ⟨"fact_bit", ["house", "fact"], spFB⟩
theorem v_fb : ∀ ds Φ, spFB ds Φ → wpS ⟨N_fact_bit, [], [("FACTS", .int 0)], [], 0⟩ b_fact_bit (rho0 N_fact_bit ds) (postOf Φ) := by
  rintro ds Φ ⟨fs, r, n, rfl, hn, hm, hl, h⟩
  unfold b_fact_bit N_fact_bit
  walk_at "wp"
  have hi := List.idxOf_lt_length_of_mem hm
  have e : (1 : Int) * 2 ^ ((fs.idxOf n : Nat) : Int).toNat = ((2 ^ fs.idxOf n : Nat) : Int) := by simp
  exact mix_strs hn hm ⟨⟨by omega, by omega, by decide⟩, by rw [e]; exact h⟩
def spSo : List D → (R → Prop) → Prop := fun ds Φ => ∃ (fs : List Str) (r : List D) (n : Str) (w : Nat), ds = [.tuple (.list (fs.map .str) :: r), .str n, .int w] ∧ Names fs ∧ n ∈ fs ∧ fs.length ≤ 64 ∧ Φ (.val (.bool (w.testBit (fs.idxOf n))))
def feSo : FEntry := ⟨"is_so", ["house", "fact", "world"], spSo⟩
theorem v_so : ∀ ds Φ, spSo ds Φ → wpS ⟨N_is_so, [feFB], [], [], 1⟩ b_is_so (rho0 N_is_so ds) (postOf Φ) := by
  rintro ds Φ ⟨fs, r, n, w, rfl, hn, hm, hl, h⟩
  unfold b_is_so N_is_so
  walk_at "wp"
  refine ⟨fs, r, n, rfl, hn, hm, hl, ?_⟩
  walk_at "wp"
  rw [band_bit]
  have e : decide ((0 : Int) < (((w.testBit (fs.idxOf n)).toNat * 2 ^ fs.idxOf n : Nat) : Int)) = w.testBit (fs.idxOf n) := by
    have p : 0 < 2 ^ fs.idxOf n := Nat.two_pow_pos _
    cases w.testBit (fs.idxOf n) with
    | true => exact decide_eq_true (by simp only [Bool.toNat_true, Nat.one_mul]; omega)
    | false => exact decide_eq_false (by simp)
  rw [e]
  exact h
def spWA : List D → (R → Prop) → Prop := fun ds Φ => ∃ (fs : List Str) (r : List D), ds = [.tuple (.list (fs.map .str) :: r)] ∧ fs.length ≤ 64 ∧ Φ (.val (.int ((2 ^ fs.length : Nat) : Int)))
def feWA : FEntry := ⟨"worlds_in_all", ["house"], spWA⟩
theorem v_wa : ∀ ds Φ, spWA ds Φ → wpS ⟨N_worlds_in_all, [], [("FACTS", .int 0)], ["len"], 0⟩ b_worlds_in_all (rho0 N_worlds_in_all ds) (postOf Φ) := by
  rintro ds Φ ⟨fs, r, rfl, hl, h⟩
  unfold b_worlds_in_all N_worlds_in_all
  walk_at "wp"
  rw [List.length_map]
  have e : (1 : Int) * 2 ^ ((fs.length : Nat) : Int).toNat = ((2 ^ fs.length : Nat) : Int) := by simp
  exact ⟨⟨by omega, by omega, by decide⟩, by rw [e]; exact h⟩
/-- holds_in(house, c, w), fewer than n deep -/
def spHI (n : Nat) : List D → (R → Prop) → Prop := fun ds Φ => ∃ (fs : List Str) (r : List D) (c : Cd) (w : Nat), ds = [.tuple (.list (fs.map .str) :: r), c.py, .int w] ∧ Names fs ∧ c.over fs ∧ fs.length ≤ 64 ∧ c.dep < n ∧ Φ (.val (.bool (c.ev fs w)))
def feHI (n : Nat) : FEntry := ⟨"holds_in", ["house", "condition", "world"], spHI n⟩
theorem v_hi (n : Nat) (k : Nat) : ∀ ds Φ, spHI (n + 1) ds Φ → wpS ⟨N_holds_in, [feSo, feHI n], [], [], k⟩ b_holds_in (rho0 N_holds_in ds) (postOf Φ) := by
  rintro ds Φ ⟨fs, r, c, w, rfl, hn, ho, hl, hd, h⟩
  unfold b_holds_in N_holds_in
  cases c with
  | yes =>
    dsimp only [Cd.py]
    walk_at "wp"
    exact h
  | fact f =>
    dsimp only [Cd.py]
    walk_at "wp"
    exact ⟨fs, r, f, w, rfl, hn, ho, hl, h⟩
  | not_ c =>
    dsimp only [Cd.py]
    walk_at "wp"
    exact ⟨fs, r, c, w, rfl, hn, ho, hl, by simp only [Cd.dep] at hd; omega, h⟩
  | both c d =>
    dsimp only [Cd.py]
    walk_at "wp"
    simp only [Cd.dep] at hd
    refine ⟨fs, r, c, w, rfl, hn, ho.1, hl, by omega, boolW_mk (fun e => ?_) fun e => ?_⟩
    · refine ⟨fs, r, d, w, rfl, hn, ho.2, hl, by omega, ?_⟩
      have q : Cd.ev fs w (.both c d) = Cd.ev fs w d := by simp only [Cd.ev, e, Bool.true_and]
      rw [q] at h
      exact h
    · have q : Cd.ev fs w (.both c d) = false := by simp only [Cd.ev, e, Bool.false_and]
      rw [q] at h
      exact h
  | either c d =>
    dsimp only [Cd.py]
    walk_at "wp"
    simp only [Cd.dep] at hd
    refine ⟨fs, r, c, w, rfl, hn, ho.1, hl, by omega, boolW_mk (fun e => ?_) fun e => ?_⟩
    · have q : Cd.ev fs w (.either c d) = true := by simp only [Cd.ev, e, Bool.true_or]
      rw [q] at h
      exact h
    · refine ⟨fs, r, d, w, rfl, hn, ho.2, hl, by omega, ?_⟩
      have q : Cd.ev fs w (.either c d) = Cd.ev fs w d := by simp only [Cd.ev, e, Bool.false_or]
      rw [q] at h
      exact h
end K04

open PySem L2 PF
namespace K04
open PySem L2 PF
open PySem.PyData (strOk)
/-! worlds_where -/
def wheres (fs : List Str) (c : Cd) : List D := ((List.range (2 ^ fs.length)).filter fun w => c.ev fs w).map fun (w : Nat) => PyData.int w
def spWW : List D → (R → Prop) → Prop := fun ds Φ => ∃ (fs : List Str) (r : List D) (c : Cd), ds = [.tuple (.list (fs.map .str) :: r), c.py] ∧ Names fs ∧ c.over fs ∧ fs.length ≤ 12 ∧ c.dep < 40 ∧ Φ (.new (wheres fs c))
def feWW : FEntry := ⟨"worlds_where", ["house", "condition"], spWW⟩
def pick (fs : List Str) (c : Cd) : D → Option D
  | .int i => if c.ev fs i.toNat = true then some (.int i) else none
  | _ => none
theorem wheres_eq (fs : List Str) (c : Cd) : (rngL 0 (2 ^ fs.length)).filterMap (pick fs c) = wheres fs c := by
  unfold wheres rngL
  rw [List.filterMap_map]
  generalize List.range (2 ^ fs.length) = l
  induction l with
  | nil => rfl
  | cons i l ih =>
    rw [List.filterMap_cons, List.filter_cons]
    have e : (pick fs c ∘ fun (i : Nat) => PyData.int (0 + (i : Int))) i = if c.ev fs i = true then some (.int (i : Int)) else none := by
      show (if c.ev fs ((0 : Int) + (i : Int)).toNat = true then some (PyData.int (0 + (i : Int))) else none) = _
      have q : ((0 : Int) + (i : Int)).toNat = i := by omega
      rw [q]
      simp
    rw [e]
    cases c.ev fs i with
    | true => simp only [if_true, List.map_cons, ih]
    | false => simp only [Bool.false_eq_true, if_false, ih]
theorem pow12 {n : Nat} (h : n ≤ 12) : 2 ^ n ≤ 4096 := Nat.pow_le_pow_right (n := 2) (by decide) h
theorem v_ww (k : Nat) : ∀ ds Φ, spWW ds Φ → wpS ⟨N_worlds_where, [feWA, feHI 40], [], ["range"], k⟩ b_worlds_where (rho0 N_worlds_where ds) (postOf Φ) := by
  rintro ds Φ ⟨fs, r, c, rfl, hn, ho, hl, hd, h⟩
  unfold b_worlds_where N_worlds_where
  walk_at "wp"
  have hp := pow12 hl
  refine ⟨fs, r, rfl, by omega, ?_⟩
  walk_at "wp"
  have we := wheres_eq fs c
  generalize 2 ^ fs.length = M at hp we ⊢
  refine ⟨⟨by omega, by omega⟩, ?_⟩
  rw [Int.toNat_natCast]
  refine compW_fm (pick fs c) _ (by rw [rng_len]; exact Nat.le_trans hp (by decide)) (fun x hx A B ha hb => ?_) (by rw [we]; exact h)
  obtain ⟨i, hi, rfl⟩ := mem_rng hx
  walk_at "wp"
  have q : (0 : Int) + (i : Int) = ((i : Nat) : Int) := by omega
  rw [q] at ha hb ⊢
  refine ⟨fs, r, c, i, rfl, hn, ho, by omega, hd, boolW_mk (fun e => ?_) fun e => ?_⟩
  · refine ha _ ?_
    show (if c.ev fs (i : Int).toNat = true then some (PyData.int i) else none) = _
    rw [Int.toNat_natCast, if_pos e]
    rfl
  · refine hb ?_
    show (if c.ev fs (i : Int).toNat = true then some (PyData.int i) else none) = _
    rw [Int.toNat_natCast, if_neg (by rw [e]; decide)]
/-! the law's own look -/
end K04

open PySem L2 PF
namespace K04
open PySem L2 PF
open PySem.PyData (strOk)
/-! ### what the law draws -/
/-! a condition -/
def spC (n : Nat) : List D → (R → Prop) → Prop := fun ds Φ => ∃ (cell base node deep : Int) (fs : List Str), ds = [.int cell, .int base, .int node, .list (fs.map .str), .int deep] ∧ 0 ≤ base ∧ base ≤ 10000 ∧ 0 ≤ node ∧
  0 ≤ deep ∧ deep < n ∧ (node + 1) * 2 ^ deep.toNat ≤ 10000 ∧ fs ≠ [] ∧ ∀ c : Cd, c.over fs → (c.dep : Int) ≤ deep → Φ (.val c.py)
def feC (n : Nat) : FEntry := ⟨"_law_condition", ["cell", "base", "node", "facts", "deep"], spC n⟩
theorem node_le {node : Int} {k : Nat} (h0 : 0 ≤ node) (h : (node + 1) * 2 ^ k ≤ 10000) : node ≤ 10000 := by
  have p : (1 : Int) ≤ 2 ^ k := by
    have := Nat.one_le_two_pow (n := k)
    exact_mod_cast this
  have q : (node + 1) * 1 ≤ (node + 1) * 2 ^ k := Int.mul_le_mul_of_nonneg_left p (by omega)
  omega
theorem node_two {node deep : Int} (h0 : 0 ≤ node) (hd : 0 < deep) (h : (node + 1) * 2 ^ deep.toNat ≤ 10000) : (2 * node + 1) * 2 ^ (deep - 1).toNat ≤ 10000 ∧ (2 * node + 1 + 1) * 2 ^ (deep - 1).toNat ≤ 10000 := by
  have e : deep.toNat = (deep - 1).toNat + 1 := by omega
  rw [e, Int.pow_succ] at h
  generalize (deep - 1).toNat = m at h ⊢
  have p : (1 : Int) ≤ 2 ^ m := by
    have := Nat.one_le_two_pow (n := m)
    exact_mod_cast this
  generalize (2 : Int) ^ m = z at p h ⊢
  have e1 : (node + 1) * (z * 2) = (2 * node + 1 + 1) * z := by
    rw [Int.mul_comm z 2, ← Int.mul_assoc]
    congr 1
    omega
  rw [e1] at h
  refine ⟨?_, h⟩
  have : (2 * node + 1) * z ≤ (2 * node + 1 + 1) * z := Int.mul_le_mul_of_nonneg_right (by omega) (by omega)
  omega
theorem v_c (n : Nat) (k : Nat) : ∀ ds Φ, spC (n + 1) ds Φ → wpS ⟨N_law_condition, [feStir, feC n], [], ["len"], k⟩ b_law_condition (rho0 N_law_condition ds) (postOf Φ) := by
  rintro ds Φ ⟨cell, base, node, deep, fs, rfl, hb0, hb1, hn0, hd0, hd1, hnd, hf, h⟩
  unfold b_law_condition N_law_condition
  have hn1 := node_le hn0 hnd
  walk_at "wp"
  refine ⟨cell, base + node, rfl, by omega, by omega, fun r h1 h2 => ?_⟩
  walk_at "wp"
  refine ⟨by decide, ?_⟩
  have m := mod_b r 10 (by decide)
  refine boolW_dec (fun hc => ?_) fun hc => ?_
  · exact h .yes True.intro (by simp only [Cd.dep]; omega)
  walk_at "wp"
  have fact : ∀ ρ : Prop, True := fun _ => True.intro
  have leaf : CDiv r 16 ∧ 0 < ((List.map PyData.str fs).length : Int) ∧ ∃ d, atI (List.map PyData.str fs) (r / 16 % ((List.map PyData.str fs).length : Int)) = some d ∧ Φ (.val (.tuple [.str "fact", d])) := by
    obtain ⟨x, hx, e⟩ := atI_mod hf (r / 16)
    have hl := List.length_pos_iff.mpr hf
    refine ⟨⟨by decide, by decide⟩, by rw [List.length_map]; omega, .str x, ?_, h (.fact x) hx (by simp only [Cd.dep]; omega)⟩
    rw [List.length_map, atI_map, e]
    rfl
  refine boolW_dec (fun hc1 => leaf) fun hc1 => ?_
  refine boolW_dec (fun hc2 => leaf) fun hc2 => ?_
  have nt := node_two hn0 (by omega) hnd
  refine ⟨.inl (by decide), cell, base, 2 * node, deep - 1, fs, rfl, hb0, hb1, by omega, by omega, by omega, nt.1, hf, fun c o hc3 => ?_⟩
  walk_at "wp"
  refine boolW_dec (fun hc4 => ?_) fun hc4 => ?_
  · exact h (.not_ c) o (by simp only [Cd.dep]; omega)
  refine ⟨by decide, ?_⟩
  obtain ⟨x, hx, e⟩ := atI_mod (xs := [PyData.str (Str.ofString "both"), PyData.str (Str.ofString "either")]) (by simp) (r % 10)
  refine ⟨x, e, .inl (by decide), cell, base, 2 * node + 1, deep - 1, fs, rfl, hb0, hb1, by omega, by omega, by omega, nt.2, hf, fun d o2 hd2 => ?_⟩
  walk_at "wp"
  rcases List.mem_cons.mp hx with rfl | hx
  · exact h (.both c d) ⟨o, o2⟩ (by simp only [Cd.dep]; omega)
  · rw [List.mem_singleton.mp hx]
    exact h (.either c d) ⟨o, o2⟩ (by simp only [Cd.dep]; omega)
/-! a condition grown -/
end K04

open PySem L2 PF
namespace K04
open PySem L2 PF
open PySem.PyData (strOk)
/-! unlike names -/
def someL : List Str := ["a", "yes", "not", "both", "abcdefgh", "either", "ye", "fact", "x", "no", "abcdefg", "yess", "deed", "look", "ab", "abc", "facts", "need", "way", "end"]
theorem someL_nd : someL.Nodup := by decide +kernel
theorem someL_ok : Names someL := by
  intro f hf
  have : someL.all strOk = true := by decide +kernel
  exact List.all_eq_true.mp this f hf
def lettersS : Str := "abcdefghijklmnopqrstuvwxyz"
theorem letters_len : lettersS.cps.toList.length = 26 := by decide +kernel
theorem letters_ok : ∀ c ∈ lettersS.cps, c < 0x110000 := strOk_iff.mp (strOk_lit _)
def spN : List D → (R → Prop) → Prop := fun ds Φ => ∃ head base many : Int, ds = [.int head, .int base, .int many] ∧ 0 ≤ base ∧ base ≤ 10000 ∧ 0 ≤ many ∧ many ≤ 12 ∧
  ∀ fs : List Str, (fs.length : Int) = many → Names fs → fs.Nodup → Φ (.new (fs.map .str))
def feN : FEntry := ⟨"_law_names", ["head", "base", "many"], spN⟩
theorem notin_eq (fs : List Str) (x : Str) : (!((fs.map PyData.str).any fun z => PyData.eqv z (.str x))) = decide (x ∉ fs) := by
  rw [any_str]
  by_cases h : x ∈ fs <;> simp [h]
theorem lay_l {fs : List Str} (h : Names fs) : SeqAt.shaped (.list (fs.map .str)) = true := (lay_names h).shaped (by decide)
theorem left_ne {fs : List Str} (hl : fs.length < 20) : (someL.filter fun x => decide (x ∉ fs)) ≠ [] := by
  intro e
  have h : ∀ x ∈ someL, x ∈ fs := fun x hx => by
    by_cases q : x ∈ fs
    · exact q
    · have : x ∈ someL.filter fun x => decide (x ∉ fs) := List.mem_filter.mpr ⟨hx, decide_eq_true q⟩
      rw [e] at this
      cases this
  have := nodup_le someL_nd h
  have e20 : someL.length = 20 := rfl
  omega
def leftG (fs : List Str) : D → Option D
  | .str z => if z ∉ fs then some (.str z) else none
  | _ => none
theorem leftG_eq (fs l : List Str) : (l.map PyData.str).filterMap (leftG fs) = (l.filter fun z => decide (z ∉ fs)).map PyData.str := by
  induction l with
  | nil => rfl
  | cons z l ih =>
    rw [List.map_cons, List.filterMap_cons, List.filter_cons]
    by_cases q : z ∈ fs
    · simp only [leftG, q, not_true, if_false, decide_false, Bool.false_eq_true]
      exact ih
    · simp only [leftG, q, not_false_eq_true, if_true, decide_true, List.map_cons]
      rw [ih]
theorem v_n (k : Nat) : ∀ ds Φ, spN ds Φ → wpS ⟨N_law_names, [feStir], [], ["range", "len"], k⟩ b_law_names (rho0 N_law_names ds) (postOf Φ) := by
  rintro ds Φ ⟨head, base, many, rfl, hb0, hb1, hm0, hm1, h⟩
  unfold b_law_names N_law_names
  walk_at "wp"
  refine ⟨⟨by omega, by omega⟩, ?_⟩
  refine loopW_inv (fun xs ρ => ∃ (fs : List Str) (s6 s7 s8 s9 s10 s11 : Sl), ρ = [.val (.int head), .val (.int base), .val (.int many), .val (.list (someL.map .str)), .val (.str lettersS), .own (fs.map .str), s6, s7, s8, s9, s10, s11] ∧
    (fs.length : Int) + xs.length = many ∧ Names fs ∧ fs.Nodup ∧ ∀ x ∈ xs, ∃ i : Nat, i < 12 ∧ x = .int (0 + i)) ?_ ?_ _ _ ⟨[], _, _, _, _, _, _, rfl, ?_, fun _ h => (by cases h), List.nodup_nil, fun x hx => ?_⟩
  · rintro x xs ρ ⟨fs, s6, s7, s8, s9, s10, s11, rfl, hl, hn, hd, hx⟩ K hK
    obtain ⟨i, hi, rfl⟩ := hx x List.mem_cons_self
    rw [List.length_cons] at hl
    walk_at "wp"
    refine ⟨head, base + (0 + (i : Int)), rfl, by omega, by omega, fun r h1 h2 => ?_⟩
    walk_at "wp"
    -- left
    refine compW_fm (leftG fs) _ (by rw [List.length_map]; decide) (fun x hx A B ha hb => ?_) ?_
    · obtain ⟨z, hz, rfl⟩ := List.mem_map.mp hx
      walk_at "wp"
      refine ⟨shaped_str (someL_ok z hz), lay_l hn, ?_⟩
      rw [notin_eq]
      refine boolW_dec (fun q => ?_) fun q => ?_
      · exact ha _ (by simp only [leftG, if_pos q, R.d])
      · exact hb (by simp only [leftG, if_neg q])
    rw [leftG_eq]
    have hne := left_ne (fs := fs) (by omega)
    have hmem : ∀ z ∈ someL.filter (fun z => decide (z ∉ fs)), z ∈ someL ∧ z ∉ fs := fun z hz => ⟨(List.mem_filter.mp hz).1, of_decide_eq_true (List.mem_filter.mp hz).2⟩
    generalize (someL.filter fun z => decide (z ∉ fs)) = L at hne hmem ⊢
    obtain ⟨z, hz, ez⟩ := atI_mod hne r
    have hLl := List.length_pos_iff.mpr hne
    walk_at "wp"
    refine ⟨by rw [List.length_map]; omega, .str z, by rw [List.length_map, atI_map, ez]; rfl, ?_⟩
    have m8 := mod_b (r / 32) 8 (by decide)
    walk_at "wp"
    refine ⟨⟨by decide, by decide⟩, by decide, ⟨by omega, by omega⟩, ?_⟩
    refine compW_sel (fun _ y => ∃ s : Str, y = .str s ∧ (s.length = 1 ∧ strOk s = true)) (fun _ => False) _ _ (by rw [rng_len]; exact Nat.le_trans (show 0 + (1 + r / 32 % 8).toNat ≤ 8 by omega) (by decide)) (fun x hx A B ha _ => ?_) fun ys hy => ?_
    · obtain ⟨j, hj, rfl⟩ := mem_rng hx
      walk_at "wp"
      refine ⟨.inl (by decide), head, base + 40 + 8 * (0 + (i : Int)) + (0 + (j : Int)), rfl, by omega, by omega, fun r3 h3 h4 => ?_⟩
      have m26 := mod_b r3 26 (by decide)
      walk_at "wp"
      obtain ⟨c, hc, ec⟩ := atI_lt (xs := lettersS.cps.toList) m26.1 (by rw [letters_len]; exact m26.2)
      refine ⟨by decide, (by decide +kernel : lettersS.length ≤ sizeLine), c, ec, ha _ ⟨_, rfl, rfl, strOk_iff.mpr fun d hd' => ?_⟩⟩
      have hd' : d ∈ (#[c] : Array Nat) := hd'
      rw [Array.mem_singleton.mp hd']
      exact letters_ok c (by simpa using hc)
    rw [List.nil_append]
    obtain ⟨zs, rfl, e2, h3⟩ := strs_of (P := fun s => s.length = 1 ∧ strOk s = true) (ys := ys) fun y hy' => by
      obtain ⟨x, _, s, q⟩ := hy.mem y hy'
      exact ⟨s, q⟩
    have hlen : zs.length ≤ 8 := by
      have := hy.len
      rw [List.length_map, rng_len] at this
      omega
    have hsum : (zs.map (·.length)).sum ≤ 8 := by
      have : (zs.map (·.length)).sum = zs.length := by
        clear hy e2 hlen
        induction zs with
        | nil => rfl
        | cons z zs ih => rw [List.map_cons, List.sum_cons, ih fun z hz => h3 z (List.mem_cons_of_mem _ hz), (h3 z List.mem_cons_self).1, List.length_cons]; omega
      omega
    refine ⟨zs, e2, by show (zs.map (·.length)).sum + zs.length * (Str.ofString "").length ≤ 16777216; rw [show (Str.ofString "").length = 0 from rfl]; omega, ?_⟩
    have hw : strOk (Txt.join (Str.ofString "") zs) = true := strOk_iff.mpr (mem_join (P := fun c => c < 0x110000) (strOk_iff.mp (strOk_lit "")) fun p hp => strOk_iff.mp (h3 p hp).2)
    generalize Txt.join (Str.ofString "") zs = wd at hw ⊢
    have next : ∀ (y : Str) (a b c d e f : Sl), strOk y = true → y ∉ fs → K [.val (.int head), .val (.int base), .val (.int many), .val (.list (someL.map .str)), .val (.str lettersS), .own (fs.map .str ++ [.str y]), a, b, c, d, e, f] := fun y a b c d e f hy' hyn =>
      hK _ ⟨fs ++ [y], a, b, c, d, e, f, by rw [List.map_append]; rfl, by rw [List.length_append, List.length_singleton]; omega, fun g hg => by
        rcases List.mem_append.mp hg with hg | hg
        · exact hn g hg
        · rw [List.mem_singleton.mp hg]; exact hy', List.nodup_append.mpr ⟨hd, List.nodup_cons.mpr ⟨by simp, List.nodup_nil⟩, fun g hg q hq e => hyn (by rw [List.mem_singleton] at hq; subst hq; subst e; exact hg)⟩, fun x hx' => hx x (List.mem_cons_of_mem _ hx')⟩
    have hfl : (fs.map PyData.str).length < sizeLine := by rw [List.length_map]; exact Nat.lt_of_le_of_lt (show fs.length ≤ 12 by omega) (by decide)
    walk_at "wp"
    refine ⟨⟨by decide, by decide⟩, by decide, boolW_dec (fun _ => ⟨shaped_str hw, lay_l hn, ?_⟩) fun _ => ⟨hfl, next z _ _ _ _ _ _ (someL_ok z (hmem z hz).1) (hmem z hz).2⟩⟩
    rw [notin_eq]
    exact boolW_dec (fun q => ⟨hfl, next wd _ _ _ _ _ _ hw q⟩) fun _ => ⟨hfl, next z _ _ _ _ _ _ (someL_ok z (hmem z hz).1) (hmem z hz).2⟩
  · rintro ρ ⟨fs, s6, s7, s8, s9, s10, s11, rfl, hl, hn, hd, hx⟩
    walk_at "wp"
    exact h fs (by simpa using hl) hn hd
  · rw [rng_len]; simp; omega
  · obtain ⟨i, hi, rfl⟩ := mem_rng hx
    exact ⟨i, by omega, rfl⟩
end K04

open PySem L2 PF
namespace K04
open PySem L2 PF
open PySem.PyData (strOk)
def house (fs : List Str) : D := .tuple [.list (fs.map .str), .list [], .list [], .list [.int 0], .tuple [.str (Str.ofString "yes")]]
theorem wheres_wN (fs : List Str) (c : Cd) : wheres fs c = wN (2 ^ fs.length) (c.ev fs) := rfl
def spBR : List D → (R → Prop) → Prop := fun ds Φ => ∃ (fs : List Str) (r : List D) (one other : Cd), ds = [.tuple (.list (fs.map .str) :: r), one.py, other.py, .int ((2 ^ fs.length : Nat) : Int)] ∧ Names fs ∧ one.over fs ∧ other.over fs ∧ fs.length ≤ 10 ∧ one.dep < 37 ∧ other.dep < 37 ∧ Φ (.val (.bool true))
def feBR : FEntry := ⟨"_law_both_right", ["house", "one", "other", "worlds"], spBR⟩
theorem v_br (k : Nat) : ∀ ds Φ, spBR ds Φ → wpS ⟨N_law_both_right, [feWW, feHI 40], [], ["range", "sorted", "set", "list"], k⟩ b_law_both_right (rho0 N_law_both_right ds) (postOf Φ) := by
  rintro ds Φ ⟨fs, r, one, other, rfl, hn, ho1, ho2, hl, hd1, hd2, h⟩
  unfold b_law_both_right N_law_both_right
  have hl12 : fs.length ≤ 12 := by omega
  have p1 : 1 ≤ 2 ^ fs.length := Nat.one_le_two_pow
  have p2 : 2 ^ fs.length ≤ 2000 := Nat.le_trans (Nat.pow_le_pow_right (n := 2) (by decide) hl) (by decide)
  have ww : ∀ c : Cd, c.over fs → c.dep < 40 → ∀ Ψ : R → Prop, Ψ (.new (wN (2 ^ fs.length) (c.ev fs))) → spWW [.tuple (.list (fs.map .str) :: r), c.py] Ψ := fun c h1 h2 Ψ q => ⟨fs, r, c, rfl, hn, h1, hl12, h2, q⟩
  have hi : ∀ (c : Cd) (w : Nat), c.over fs → c.dep < 40 → ∀ Ψ : R → Prop, Ψ (.val (.bool (c.ev fs w))) → spHI 40 [.tuple (.list (fs.map .str) :: r), c.py, .int w] Ψ := fun c w h1 h2 Ψ q => ⟨fs, r, c, w, rfl, hn, h1, by omega, h2, q⟩
  generalize 2 ^ fs.length = M at p1 p2 ww ⊢
  walk_at "wp"
  refine ww one ho1 (by omega) _ ?_
  walk_at "wp"
  refine ww other ho2 (by omega) _ ?_
  walk_at "wp"
  generalize hp : (fun w => Cd.ev fs w one) = p at *
  generalize hq : (fun w => Cd.ev fs w other) = q at *
  have ep : ∀ w, Cd.ev fs w one = p w := fun w => congrFun hp w
  have eq : ∀ w, Cd.ev fs w other = q w := fun w => congrFun hq w
  have shp : ∀ q : Nat → Bool, SeqAt.shaped (.list (wN M q)) = true := fun q => (wN_lay M q).shaped (by decide)
  refine ⟨⟨by omega, by omega⟩, ?_⟩
  rw [Int.toNat_natCast]
  refine compW_fm (pickN fun w => !p w) _ (by rw [rng_len]; exact Nat.le_trans p2 (by decide)) (fun x hx A B ha hb => ?_) ?_
  · obtain ⟨i, hi', rfl⟩ := mem_rng hx
    rw [show (0 : Int) + (i : Int) = ((i : Nat) : Int) by omega] at ha hb ⊢
    rw [pickN_nat] at ha hb
    walk_at "wp"
    refine ⟨shp _, ?_⟩
    rw [any_wN M p i hi']
    exact boolW_mk (fun e => ha _ (by rw [if_pos e]; rfl)) fun e => hb (by rw [if_neg (by rw [e]; decide)])
  rw [wN_rng]
  walk_at "wp"
  refine compW_fm (pickN q) _ (Nat.le_trans (Nat.le_trans (wN_len _ _) p2) (by decide)) (fun x hx A B ha hb => ?_) ?_
  · obtain ⟨i, hi', _, rfl⟩ := wN_int x hx
    rw [pickN_nat] at ha hb
    walk_at "wp"
    refine ⟨shp _, ?_⟩
    rw [any_wN M q i hi']
    exact boolW_mk (fun e => ha _ (by rw [if_pos e]; rfl)) fun e => hb (by rw [if_neg (by rw [e]; decide)])
  rw [wN_and]
  walk_at "wp"
  have cat : (wN M p).length + (wN M q).length ≤ sizeLine := Nat.le_trans (Nat.add_le_add (wN_len _ _) (wN_len _ _)) (Nat.le_trans (Nat.add_le_add p2 p2) (by decide))
  refine ⟨cat, sset_wN p2 ?_⟩
  walk_at "wp"
  refine ⟨cat, sset_wN p2 ?_⟩
  walk_at "wp"
  refine ⟨cat, sset_wN p2 ?_⟩
  walk_at "wp"
  refine ⟨⟨by omega, by omega⟩, ?_⟩
  rw [Int.toNat_natCast]
  walk_at "wp"
  have row : ∀ (c : Cd) (u : Nat → Bool), c.over fs → c.dep < 40 → (∀ w, u w = Cd.ev fs w c) → ∃ c' : Cd, c'.over fs ∧ c'.dep < 40 ∧ PyData.tuple [c.py, .list (wN M u)] = .tuple [c'.py, .list (wN M fun w => Cd.ev fs w c')] := fun c u h1 h2 h3 => ⟨c, h1, h2, by rw [wN_congr h3]⟩
  refine loopW_inv (fun xs ρ => (∃ s6 s7 s8 s9 : Sl, ρ = [.val (.tuple (.list (fs.map .str) :: r)), .val one.py, .val other.py, .val (.int (M : Int)), .val (.list (wN M p)), .val (.list (wN M q)), s6, s7, s8, s9]) ∧ ∀ x ∈ xs, ∃ c : Cd, c.over fs ∧ c.dep < 40 ∧ x = .tuple [c.py, .list (wN M fun w => Cd.ev fs w c)]) ?_ ?_ _ _ ⟨⟨_, _, _, _, rfl⟩, ?_⟩
  · rintro x xs ρ ⟨⟨s6, s7, s8, s9, rfl⟩, hx⟩ K hK
    obtain ⟨c, h1, h2, rfl⟩ := hx x List.mem_cons_self
    walk_at "wp"
    have z : feWW.sp = spWW := rfl
    rw [z]
    refine ww c h1 h2 _ ?_
    generalize hu : (fun w => Cd.ev fs w c) = u
    walk_at "wp"
    refine ⟨shp _, shp _, ?_⟩
    rw [eqv_same (wN_lay M u)]
    walk_at "wp"
    exact hK _ ⟨⟨_, _, _, _, rfl⟩, fun y hy => hx y (List.mem_cons_of_mem _ hy)⟩
  · rintro ρ ⟨⟨s6, s7, s8, s9, rfl⟩, _⟩
    walk_at "wp"
    refine ⟨⟨by omega, by omega⟩, ?_⟩
    rw [Int.toNat_natCast]
    refine compW_fm (pickN p) _ (by rw [rng_len]; exact Nat.le_trans p2 (by decide)) (fun x hx A B ha hb => ?_) ?_
    · obtain ⟨i, hi', rfl⟩ := mem_rng hx
      rw [show (0 : Int) + (i : Int) = ((i : Nat) : Int) by omega] at ha hb ⊢
      rw [pickN_nat] at ha hb
      walk_at "wp"
      refine hi one i ho1 (by omega) _ ?_
      rw [ep]
      exact boolW_mk (fun e => ha _ (by rw [if_pos e]; rfl)) fun e => hb (by rw [if_neg (by rw [e]; decide)])
    rw [wN_rng]
    walk_at "wp"
    refine ⟨shp _, shp _, ?_⟩
    rw [eqv_same (wN_lay M p)]
    exact h
  · rw [wN_all M]
    have e0 : PyData.list [] = .list (wN M fun _ => false) := by rw [← wN_none]
    rw [e0]
    simp only [List.forall_mem_cons]
    refine ⟨row (.not_ one) _ ho1 ?_ ?_, row (.both one other) _ ⟨ho1, ho2⟩ ?_ ?_, row (.either one other) _ ⟨ho1, ho2⟩ ?_ ?_, row (.either other one) _ ⟨ho2, ho1⟩ ?_ ?_, row (.not_ (.not_ one)) _ ho1 ?_ ?_, row (.both one one) _ ⟨ho1, ho1⟩ ?_ ?_,
      row (.either one one) _ ⟨ho1, ho1⟩ ?_ ?_, row (.not_ (.both (.not_ one) (.not_ other))) _ ⟨ho1, ho2⟩ ?_ ?_, row (.either one (.not_ one)) _ ⟨ho1, ho1⟩ ?_ ?_, row (.both other (.not_ other)) _ ⟨ho2, ho2⟩ ?_ ?_, fun _ z => by cases z⟩
    all_goals first
      | (simp only [Cd.dep]; omega)
      | (intro w; simp only [Cd.ev, ep, eq]; done)
      | (intro w
         simp only [Cd.ev, ep, eq]
         cases p w <;> cases q w <;> rfl)
end K04

open PySem L2 PF
namespace K04
open PySem L2 PF
open PySem.PyData (strOk)
def φLaw : List FEntry := [feCell, feN, feStir, feWW, feC 40, feBR]
theorem half : ∀ n : Nat, n ≤ 6 → ∀ k : Nat, k < n → ((List.range (2 ^ n)).filter fun w => w.testBit k).length = 2 ^ n / 2 := by decide +kernel
theorem lay_ints {ds : List D} (h : ∀ d ∈ ds, ∃ i : Int, d = .int i) : Lay 1 (.list ds) := lay_list (n := 0) fun d hd => by
  obtain ⟨i, rfl⟩ := h d hd
  exact lay_int i
theorem fm_none (l : List D) : l.filterMap (fun _ => (none : Option D)) = [] := by
  induction l with
  | nil => rfl
  | cons x l ih => rw [List.filterMap_cons]; exact ih
theorem low_bit (w p : Nat) (h : w.testBit p = true) : Builtin.bitAnd ((w : Int) / 2 ^ p) 1 = 1 := by
  have e : ((w : Int) / 2 ^ p) = ((w / 2 ^ p : Nat) : Int) := by simp
  rw [e]
  show Builtin.bitAnd _ ((1 : Nat) : Int) = _
  rw [PySem.W.os_band, Nat.and_one_is_mod, (bit_div w p).mpr h]
  rfl
theorem v_law (k : Nat) : ∀ ds Φ, lawSp ds Φ → wpS ⟨N_law, φLaw, [], ["len", "list", "range", "enumerate"], k⟩ b_law (rho0 N_law ds) (postOf Φ) := by
  rintro ds Φ ⟨ns, rfl, hns, h⟩
  unfold b_law N_law φLaw
  walk_at "wp"
  refine ⟨ns, 0, rfl, by decide, fun head => ?_⟩
  walk_at "wp"
  refine ⟨head, 0, rfl, by decide, by decide, fun r1 h1 h2 => ?_⟩
  walk_at "wp"
  have m6 := mod_b r1 6 (by decide)
  refine ⟨by decide, head, 300, 1 + r1 % 6, rfl, by decide, by decide, by omega, by omega, fun fs hl hn hnd => ?_⟩
  have hl6 : fs.length ≤ 6 := by omega
  have hne : fs ≠ [] := fun e => by rw [e] at hl; simp at hl; omega
  walk_at "wp"
  have eM : (1 : Int) * 2 ^ (((fs.map PyData.str).length : Nat) : Int).toNat = ((2 ^ fs.length : Nat) : Int) := by rw [List.length_map]; simp
  rw [eM]
  have p1 : 1 ≤ 2 ^ fs.length := Nat.one_le_two_pow
  have p2 : 2 ^ fs.length ≤ 64 := Nat.le_trans (Nat.pow_le_pow_right (n := 2) (by decide) hl6) (by decide)
  have wwp : ∀ c : Cd, c.over fs → c.dep < 40 → ∀ Ψ : R → Prop, Ψ (.new (wN (2 ^ fs.length) fun w => Cd.ev fs w c)) → spWW [house fs, c.py] Ψ := fun c h1 h2 Ψ q => ⟨fs, _, c, rfl, hn, h1, by omega, h2, q⟩
  have brp : ∀ one other : Cd, one.over fs → other.over fs → one.dep < 37 → other.dep < 37 → ∀ Ψ : R → Prop, Ψ (.val (.bool true)) → spBR [house fs, one.py, other.py, .int ((2 ^ fs.length : Nat) : Int)] Ψ := fun c d h1 h2 h3 h4 Ψ q => ⟨fs, _, c, d, rfl, hn, h1, h2, by omega, h3, h4, q⟩
  have hf : ∀ k < fs.length, (wN (2 ^ fs.length) fun w => w.testBit k).length = 2 ^ fs.length / 2 := fun k hk => by unfold wN; rw [List.length_map]; exact half _ hl6 k hk
  have shp : ∀ q : Nat → Bool, SeqAt.shaped (.list (wN (2 ^ fs.length) q)) = true := fun q => (wN_lay _ q).shaped (by decide)
  generalize 2 ^ fs.length = M at *
  have sh0 : SeqAt.shaped (.list []) = true := (lay_list (n := 0) fun d hd => by cases hd).shaped (by decide)
  refine ⟨⟨by omega, by rw [List.length_map]; omega, by decide⟩, ?_⟩
  have z : feWW.sp = spWW := rfl
  rw [z]
  refine wwp .yes trivial (by decide) _ ?_
  walk_at "wp"
  refine ⟨⟨by omega, by omega⟩, shp _, ?_⟩
  rw [Int.toNat_natCast, show (wN M fun w => Cd.ev fs w Cd.yes) = wN M fun _ => true from rfl, wN_all M, eqv_same (wN_lay M _)]
  refine ⟨shp _, ?_⟩
  walk_at "wp"
  refine wwp (.not_ .yes) trivial (by decide) _ ?_
  rw [show (wN M fun w => Cd.ev fs w (.not_ .yes)) = wN M fun _ => false from rfl, ← wN_none]
  walk_at "wp"
  refine ⟨sh0, sh0, ?_⟩
  rw [eqv_same (lay_list (n := 0) fun d hd => by cases hd)]
  walk_at "wp"
  refine loopW_inv (fun xs ρ => (∃ s5 s6 s7 s8 s9 s10 s11 s12 s13 s14 : Sl, ρ = [.val (.list (ns.map .int)), .val (.int head), .val (.list (fs.map .str)), .val (house fs), .val (.int (M : Int)), s5, s6, s7, s8, s9, s10, s11, s12, s13, s14]) ∧
    ∀ x ∈ xs, ∃ (j : Nat) (f : Str), j < fs.length ∧ f ∈ fs ∧ fs.idxOf f = j ∧ x = .tuple [.int j, .str f]) ?_ ?_ _ _ ⟨⟨_, _, _, _, _, _, _, _, _, _, rfl⟩, ?_⟩
  · rintro x xs ρ ⟨⟨s5, s6, s7, s8, s9, s10, s11, s12, s13, s14, rfl⟩, hx⟩ K hK
    obtain ⟨j, f, hj, hfm, hfi, rfl⟩ := hx x List.mem_cons_self
    walk_at "wp"
    rw [z]
    refine wwp (.fact f) hfm (by simp only [Cd.dep]; decide) _ ?_
    rw [show (wN M fun w => Cd.ev fs w (.fact f)) = wN M fun w => w.testBit j by rw [← hfi]; rfl]
    walk_at "wp"
    rw [hf j hj]
    refine ⟨⟨by decide, by decide⟩, ?_⟩
    rw [show ((M : Int) / 2) = ((M / 2 : Nat) : Int) by omega]
    walk_at "wp"
    refine compW_fm (fun _ => none) _ (Nat.le_trans (Nat.le_trans (wN_len _ _) p2) (by decide)) (fun x hx A B ha hb => ?_) ?_
    · obtain ⟨i, hi', hb', rfl⟩ := wN_int x hx
      walk_at "wp"
      refine ⟨by omega, ?_⟩
      rw [Int.toNat_natCast, low_bit i j hb']
      exact hb rfl
    rw [fm_none]
    walk_at "wp"
    refine ⟨sh0, sh0, ?_⟩
    rw [eqv_same (lay_list (n := 0) fun d hd => by cases hd)]
    walk_at "wp"
    exact hK _ ⟨⟨_, _, _, _, _, _, _, _, _, _, rfl⟩, fun y hy => hx y (List.mem_cons_of_mem _ hy)⟩
  rotate_left
  · intro x hx
    unfold enmL at hx
    obtain ⟨j, hj, rfl⟩ := List.mem_map.mp hx
    have hj := List.mem_range.mp hj
    rw [List.length_map] at hj
    refine ⟨j, fs[j], hj, List.getElem_mem hj, ?_, ?_⟩
    · exact List.Nodup.idxOf_getElem hnd j hj
    · rw [List.getD_eq_getElem?_getD, List.getElem?_map, List.getElem?_eq_getElem hj]
      rfl
  rintro ρ ⟨⟨s5, s6, s7, s8, s9, s10, s11, s12, s13, s14, rfl⟩, _⟩
  walk_at "wp"
  have hint : ∀ lo hi, ∀ d ∈ cutD (ns.map PyData.int) lo hi, ∃ i : Int, d = .int i := fun lo hi d hd => by
    obtain ⟨i, _, rfl⟩ := List.mem_map.mp (List.mem_of_mem_drop (List.mem_of_mem_take hd))
    exact ⟨i, rfl⟩
  refine ⟨(lay_ints (hint _ _)).shaped (by decide), sh0, boolW_mk (fun _ => ?_) fun _ => ?_⟩
  all_goals
    refine loopW_inv (fun xs ρ => (∃ s5 s6 s7 s8 s9 s10 s11 s12 s13 s14 : Sl, ρ = [.val (.list (ns.map .int)), .val (.int head), .val (.list (fs.map .str)), .val (house fs), .val (.int (M : Int)), s5, s6, s7, s8, s9, s10, s11, s12, s13, s14]) ∧ ∀ x ∈ xs, ∃ i : Int, x = .int i) ?_ ?_ _ _ ⟨⟨_, _, _, _, _, _, _, _, _, _, rfl⟩, ?_⟩
  case refine_2.refine_3 => exact hint _ _
  case refine_1.refine_3 => exact fun x hx => ⟨0, List.mem_singleton.mp hx⟩
  case refine_1.refine_2 | refine_2.refine_2 =>
    rintro ρ ⟨⟨s5, s6, s7, s8, s9, s10, s11, s12, s13, s14, rfl⟩, _⟩
    walk_at "wp"
    exact h
  all_goals
    clear s5 s6 s7 s8 s9 s10 s11 s12 s13 s14
    rintro x xs ρ ⟨⟨s5, s6, s7, s8, s9, s10, s11, s12, s13, s14, rfl⟩, hx⟩ K hK
    obtain ⟨cell, rfl⟩ := hx x List.mem_cons_self
    have next : ∀ s5 s6 s7 s8 s9 s10 s11 s12 s13 s14 : Sl, K [.val (.list (ns.map .int)), .val (.int head), .val (.list (fs.map .str)), .val (house fs), .val (.int (M : Int)), s5, s6, s7, s8, s9, s10, s11, s12, s13, s14] :=
      fun s5 s6 s7 s8 s9 s10 s11 s12 s13 s14 => hK _ ⟨⟨_, _, _, _, _, _, _, _, _, _, rfl⟩, fun y hy => hx y (List.mem_cons_of_mem _ hy)⟩
    clear hK hx
    walk_at "wp"
    refine ⟨cell, 1, rfl, by decide, by decide, fun r3 h5 h6 => ?_⟩
    have m3 := mod_b r3 3 (by decide)
    walk_at "wp"
    refine ⟨by decide, cell, 100, 1, 1 + r3 % 3, fs, rfl, by decide, by decide, by decide, by omega, by omega, ?_, hne, fun one ho1 hd1 => ?_⟩
    · have : (1 + r3 % 3).toNat ≤ 3 := by omega
      have h8 : (2 : Int) ^ (1 + r3 % 3).toNat ≤ 8 := by
        have := Nat.pow_le_pow_right (n := 2) (by decide) this
        exact_mod_cast this
      omega
    walk_at "wp"
    refine ⟨cell, 2, rfl, by decide, by decide, fun r4 h7 h8 => ?_⟩
    have m4 := mod_b r4 4 (by decide)
    walk_at "wp"
    refine ⟨by decide, cell, 150, 1, r4 % 4, fs, rfl, by decide, by decide, by decide, by omega, by omega, ?_, hne, fun other ho2 hd2 => ?_⟩
    · have : (r4 % 4).toNat ≤ 3 := by omega
      have h8 : (2 : Int) ^ (r4 % 4).toNat ≤ 8 := by
        have := Nat.pow_le_pow_right (n := 2) (by decide) this
        exact_mod_cast this
      omega
    walk_at "wp"
    refine ⟨cell, 3, rfl, by decide, by decide, fun r5 h9 h10 => ?_⟩
    obtain ⟨d, hd, ed⟩ := atI_mod (xs := fs.map PyData.str) (by simpa using hne) r5
    obtain ⟨f, hfm, rfl⟩ := List.mem_map.mp hd
    have hlp : 0 < fs.length := List.length_pos_iff.mpr hne
    walk_at "wp"
    refine ⟨by rw [List.length_map]; omega, .str f, ed, ?_⟩
    walk_at "wp"
    have dd1 : one.dep < 10 := by omega
    have dd2 : other.dep < 10 := by omega
    clear hd1 hd2
    have zb : feBR.sp = spBR := rfl
    rw [zb]
    refine brp one other ho1 ho2 (by omega) (by omega) _ ?_
    walk_at "wp"
    rw [z]
    refine wwp (.both (.either one other) (.fact f)) ⟨⟨ho1, ho2⟩, hfm⟩ (by simp only [Cd.dep]; omega) _ ?_
    walk_at "wp"
    refine wwp (.either (.both one (.fact f)) (.both other (.fact f))) ⟨⟨ho1, hfm⟩, ho2, hfm⟩ (by simp only [Cd.dep]; omega) _ ?_
    rw [wN_congr (q := fun w => Cd.ev fs w (.either (.both one (.fact f)) (.both other (.fact f)))) fun w => by
      simp only [Cd.ev]
      cases Cd.ev fs w one <;> cases Cd.ev fs w other <;> cases w.testBit (fs.idxOf f) <;> rfl]
    generalize (fun w => Cd.ev fs w (.either (.both one (.fact f)) (.both other (.fact f)))) = u
    walk_at "wp"
    refine ⟨shp _, shp _, ?_⟩
    rw [eqv_same (wN_lay M u)]
    walk_at "wp"
    exact next _ _ _ _ _ _ _ _ _ _
end K04

open PySem PySem.W PyProof.Rows
namespace K04
open PySem L2 PF
structure Facts (K : Fg) : Prop where
  d1 : DefAt K "holds_in" st_holds_in
  d2 : DefAt K "worlds_where" st_worlds_where
  d3 : DefAt K "is_so" st_is_so
  d4 : DefAt K "fact_bit" st_fact_bit
  d5 : DefAt K "worlds_in_all" st_worlds_in_all
  d6 : DefAt K "_law_cell_at" st_law_cell_at
  d7 : DefAt K "_law_stir" st_law_stir
  d8 : DefAt K "_law_names" st_law_names
  d9 : DefAt K "_law_condition" st_law_condition
  d10 : DefAt K "_law_both_right" st_law_both_right
  d11 : DefAt K "law" st_law
  c_FACTS : IntAt K "FACTS" 0
  n1 : PySem.W.nsIn K mainGlobals "len" = some none
  n2 : PySem.W.nsIn K mainGlobals "range" = some none
  n3 : PySem.W.nsIn K mainGlobals "sorted" = some none
  n4 : PySem.W.nsIn K mainGlobals "set" = some none
  n5 : PySem.W.nsIn K mainGlobals "list" = some none
  n6 : PySem.W.nsIn K mainGlobals "enumerate" = some none
theorem main {P : Program} {w : World} {K : Fg} {mg : Str → Option Value} {h : Heap} (X : K.In h) (G : h.Ns mainGlobals mg) (f : Facts K) : ∃ f fd, mg "law" = some (.ref f) ∧ (∀ (s : Shared) (us : List Value), us.length = 1 → BindsTo s fd ⟨us, []⟩ ((["script"] : List Str).zip us)) ∧
      ∀ base : Heap, K.In base → base.Ns mainGlobals mg → FnOk P w K mg base CX0 45 f fd ["script"] (spD K lawSp) := by
  obtain ⟨_, _, F1, m1, b1, _⟩ := f.d1.fun X G a_holds_in
  obtain ⟨_, _, F2, m2, b2, _⟩ := f.d2.fun X G a_worlds_where
  obtain ⟨_, _, F3, m3, b3, _⟩ := f.d3.fun X G a_is_so
  obtain ⟨_, _, F4, m4, b4, _⟩ := f.d4.fun X G a_fact_bit
  obtain ⟨_, _, F5, m5, b5, _⟩ := f.d5.fun X G a_worlds_in_all
  obtain ⟨_, _, F6, m6, b6, _⟩ := f.d6.fun X G a_law_cell_at
  obtain ⟨_, _, F7, m7, b7, _⟩ := f.d7.fun X G a_law_stir
  obtain ⟨_, _, F8, m8, b8, _⟩ := f.d8.fun X G a_law_names
  obtain ⟨_, _, F9, m9, b9, _⟩ := f.d9.fun X G a_law_condition
  obtain ⟨_, _, F10, m10, b10, _⟩ := f.d10.fun X G a_law_both_right
  obtain ⟨fl, fdl, F11, m11, b11, bt⟩ := f.d11.fun X G a_law
  have cF : ConIn K mg ("FACTS", .int 0) := con_int X G f.c_FACTS
  have g1 : mg "len" = none := PySem.W.mg_none_of X G f.n1
  have g2 : mg "range" = none := PySem.W.mg_none_of X G f.n2
  have g3 : mg "sorted" = none := PySem.W.mg_none_of X G f.n3
  have g4 : mg "set" = none := PySem.W.mg_none_of X G f.n4
  have g5 : mg "list" = none := PySem.W.mg_none_of X G f.n5
  have g6 : mg "enumerate" = none := PySem.W.mg_none_of X G f.n6
  refine ⟨fl, fdl, m11, bt, fun base Xb Gb => ?_⟩
  have i7 : FnIn P w K mg base 1 feStir := def_ok (Θ := ⟨N_law_stir, [], [], [], 0⟩) ⟨fns_nil, cons_nil, by simp⟩ F7 m7 b7 sc_law_stir rfl m_law_stir (by rintro _ _ ⟨c, k, rfl, _⟩; rfl) v_stir
  have i6 : FnIn P w K mg base 1 feCell := def_ok (Θ := ⟨N_law_cell_at, [], [], ["len"], 0⟩) ⟨fns_nil, cons_nil, by simp [g1]⟩ F6 m6 b6 sc_law_cell_at rfl m_law_cell_at (by rintro _ _ ⟨c, k, rfl, _⟩; rfl) v_cell
  have i4 : FnIn P w K mg base 1 feFB := def_ok (Θ := ⟨N_fact_bit, [], [("FACTS", .int 0)], [], 0⟩) ⟨fns_nil, cons_cons cF cons_nil, by simp⟩ F4 m4 b4 sc_fact_bit rfl m_fact_bit (by rintro _ _ ⟨c, k, n, rfl, _⟩; rfl) v_fb
  have i3 : FnIn P w K mg base 2 feSo := def_ok (Θ := ⟨N_is_so, [feFB], [], [], 1⟩) ⟨fns_cons i4 fns_nil, cons_nil, by simp⟩ F3 m3 b3 sc_is_so rfl m_is_so (by rintro _ _ ⟨c, k, n, w, rfl, _⟩; rfl) v_so
  have i5 : FnIn P w K mg base 1 feWA := def_ok (Θ := ⟨N_worlds_in_all, [], [("FACTS", .int 0)], ["len"], 0⟩) ⟨fns_nil, cons_cons cF cons_nil, by simp [g1]⟩ F5 m5 b5 sc_worlds_in_all rfl m_worlds_in_all (by rintro _ _ ⟨c, k, rfl, _⟩; rfl) v_wa
  have i1 : ∀ n, FnIn P w K mg base (n + 2) (feHI n) := fun n => by
    induction n with
    | zero => exact none_ok F1 m1 b1 fun ds Φ q => by obtain ⟨_, _, _, _, _, _, _, _, q, _⟩ := q; exact Nat.not_lt_zero _ q
    | succ n ih => exact def_ok (Θ := ⟨N_holds_in, [feSo, feHI n], [], [], n + 2⟩) ⟨fns_cons (i3.mono (by show 2 ≤ n + 2; omega)) (fns_cons ih fns_nil), cons_nil, by simp⟩ F1 m1 b1 sc_holds_in rfl m_holds_in (by rintro _ _ ⟨_, _, _, _, rfl, _⟩; rfl) (v_hi n _)
  have i2 : FnIn P w K mg base 43 feWW := def_ok (Θ := ⟨N_worlds_where, [feWA, feHI 40], [], ["range"], 42⟩) ⟨fns_cons (i5.mono (by decide)) (fns_cons (i1 40) fns_nil), cons_nil, by simp [g2]⟩ F2 m2 b2 sc_worlds_where rfl m_worlds_where (by rintro _ _ ⟨_, _, _, rfl, _⟩; rfl) (v_ww _)
  have i9 : ∀ n, FnIn P w K mg base (n + 1) (feC n) := fun n => by
    induction n with
    | zero => exact none_ok F9 m9 b9 fun ds Φ q => by obtain ⟨_, _, _, _, _, _, _, _, _, h1, h2, _⟩ := q; omega
    | succ n ih => exact def_ok (Θ := ⟨N_law_condition, [feStir, feC n], [], ["len"], n + 1⟩) ⟨fns_cons (i7.mono (by show 1 ≤ n + 1; omega)) (fns_cons ih fns_nil), cons_nil, by simp [g1]⟩ F9 m9 b9 sc_law_condition rfl m_law_condition (by rintro _ _ ⟨_, _, _, _, _, rfl, _⟩; rfl) (v_c n _)
  have i8 : FnIn P w K mg base 2 feN := def_ok (Θ := ⟨N_law_names, [feStir], [], ["range", "len"], 1⟩) ⟨fns_cons i7 fns_nil, cons_nil, by simp [g1, g2]⟩ F8 m8 b8 sc_law_names rfl m_law_names (by rintro _ _ ⟨_, _, _, rfl, _⟩; rfl) (v_n _)
  have i10 : FnIn P w K mg base 44 feBR := def_ok (Θ := ⟨N_law_both_right, [feWW, feHI 40], [], ["range", "sorted", "set", "list"], 43⟩) ⟨fns_cons i2 (fns_cons ((i1 40).mono (by decide)) fns_nil), cons_nil, by simp [g2, g3, g4, g5]⟩ F10 m10 b10 sc_law_both_right rfl m_law_both_right (by rintro _ _ ⟨_, _, _, _, rfl, _⟩; rfl) (v_br _)
  exact def_fn (Θ := ⟨N_law, φLaw, [], ["len", "list", "range", "enumerate"], 44⟩)
    ⟨fns_cons (i6.mono (by decide)) (fns_cons (i8.mono (by decide)) (fns_cons (i7.mono (by decide)) (fns_cons (i2.mono (by decide)) (fns_cons ((i9 40).mono (by decide)) (fns_cons i10 fns_nil))))), cons_nil, by simp [g1, g2, g5, g6]⟩
    F11 sc_law rfl m_law (by rintro _ _ ⟨_, rfl, _⟩; rfl) (v_law _)
end K04
set_option maxRecDepth 100000 in
set_option maxHeartbeats 0 in
theorem PySem.Challenge.cw_sureplans_k04_whole_conditions_by_condit_holds : PySem.Challenge.rw_sureplans_k04_whole_conditions_by_condit.Holds := by
  w_on; o_law; k_head; (case hw => w_witness2)
  k_fill
  refine PF.walk (l := PySem.Challenge.rw_sureplans_k04_whole_conditions_by_condit) (k := 45) rfl rfl ⟨rfl, by decide, by decide⟩ (fun w h Y => PySem.W.kIn_of Y) ?F
  case F =>
    intro w mg h KX G
    refine K04.main KX G ⟨?_, ?_, ?_, ?_, ?_, ?_, ?_, ?_, ?_, ?_, ?_, ?_, ?_, ?_, ?_, ?_, ?_, ?_⟩
    iterate 11 (focus (refine' PF.DefAt.mk ?a ?l ?c ?k; (case a => k_is); (case l => k_is); (case c => k_is); (case k => k_is)))
    focus (refine' PF.IntAt.mk ?a; (case a => k_is))
    all_goals k_is

