import PyProof.Rows.All
import HandS.ForMost
import HandS.AnyAll
import HandS.GenList
import HandS.Zip
import HandS.Wide
import HandS.IsInst
import HandS.More
import PyProof.StrOps2
import HandS.Iter
import HandS.WordsExc
import HandS.ExcOwn
import HandS.HotCalls
import HandS.ExcIs
import HandS.EndOwn
import PySem.Challenge.RW_loopgauge_k02_ways_gone
import PySem.Challenge.RW_loopgauge_k02_ways_gone
set_option Elab.async false
set_option linter.all false
set_option maxRecDepth 100000
set_option maxHeartbeats 2000000
/-! all, any, sum of a generator expression over anything that PI serves; its element of any form, calls too. -/
namespace GX
open PySem PySem.Spec PyProof.Rows L2 GxR GenW

/-- the generator's frame running: the names own ++ captured by Ng -/
abbrev gX (X : Cx) (s : Shared) (H : Hp) (env : Env) (Ng : List Str) (fp : List Addr) (pn : List (Addr × Obj)) (A : Around) : Cx :=
  { X with A := A, N := Ng, s_0 := s, H_0 := H, env := env, outer := X.stack, stack := env :: X.stack, ex := fp, fn := fun _ => false, pn := pn, xe := fun _ _ => False }

/-- the scope of a generator expression within a def whose names are N, whose scope is sc: own its targets, caps what it captures with the slots in N -/
structure GScp (N : List Str) (sc scope : Scope) (own : List Str) (caps : List (Str × Nat)) : Prop where
  kind : scope.kind = .function
  co : scope.isCoroutine = false
  cell : ∀ y ∈ scope.names, y.2 ≠ .cell
  dot : scope.names.lookup (".0" : Str) = some NameKind.local
  free : ∀ y ∈ scope.names, y.2 = .free → sc.names.lookup y.1 = some .cell ∨ sc.names.lookup y.1 = some .free
  caps : ∀ p ∈ caps, scope.names.lookup p.1 = some .free ∧ N[p.2]? = some p.1

def capt (σ : L2.St) (n : Nat) (is : List Nat) : L2.St := List.replicate n none ++ is.map fun i => (σ[i]?).getD none
theorem capt_len (σ : L2.St) (n : Nat) (is : List Nat) : (capt σ n is).length = n + is.length := by simp [capt]
theorem capt_some {σ : L2.St} {n : Nat} {is : List Nat} {i : Nat} {v : V} (h : (capt σ n is)[i]? = some (some v)) : ∃ j k, i = n + j ∧ is[j]? = some k ∧ σ[k]? = some (some v) := by
  unfold capt at h
  by_cases hi : i < n
  · rw [List.getElem?_append_left (by simpa using hi), List.getElem?_replicate] at h
    rw [if_pos hi] at h
    cases h
  · rw [List.getElem?_append_right (by simpa using Nat.le_of_not_lt hi)] at h
    simp only [List.length_replicate, List.getElem?_map] at h
    cases e : is[i - n]? with
    | none => rw [e] at h; cases h
    | some k =>
      rw [e] at h
      simp only [Option.map_some, Option.some.injEq] at h
      refine ⟨i - n, k, by omega, e, ?_⟩
      cases q : σ[k]? with
      | none => rw [q] at h; cases h
      | some o => rw [q] at h; exact congrArg some h

theorem inv_gens {X : Cx} {pins : List (Addr × Obj)} {σ : L2.St} {H : Hp} {s : Shared} {g' : Array GenState} (I : Inv X pins σ H s) (hg : AllBare g') : Inv X pins σ H { s with gens := g' } :=
  ⟨I.ok, I.os, hg, I.base, I.loc, I.cell, I.free, I.freeC, I.pin, I.hok, I.len⟩

section
variable {X : Cx} {pins : List (Addr × Obj)} {σ : L2.St} {H : Hp} {s : Shared}
/-- the generator's frame begins -/
theorem gen_start {scope : Scope} {own : List Str} {caps : List (Str × Nat)} {fp : List Addr} {code : Value} {A : Around} {k : Nat} {it : Value} {h' : Heap} {go : Obj} {g' : Array GenState} {tk : Nat} {env : Env}
    (I : Inv X pins σ H s) (ok : GScp X.N X.env.scope scope own caps) (hfp : ∀ b ∈ fp, FpOk X pins H b ∧ b < s.heap.objs.size) (hr : Room k A) (henv : env = genEnv scope (cloFrom X.env.cells scope.names []) s.heap.objs.size code builtinsNs X.env)
    (hfr : A.frames = some (env :: X.stack))
    (hn : h'.Ns s.heap.objs.size (fun y => if y = ".0" then some it else none)) (hs : Heap.SameBut s.heap.objs.size (s.heap.push { cls := .type "frame", data := .dict #[] }) h') (hgo : ∀ v, go.data ≠ .cell v) (hgg : ∀ h : Heap, (h.push go).get? h.objs.size = some go) (hg : AllBare g') :
    Inv (gX X s H env (own ++ caps.map (·.1)) fp [(h'.objs.size, go)] A) [] (capt σ own.length (caps.map (·.2))) H { s with heap := h'.push go, gens := g', toks := tk } := by
  have hfree : ∀ y ∈ scope.names, y.2 = .free → ∃ c, X.env.cells.lookup y.1 = some c := fun y hy e => by
    rcases ok.free y hy e with k | k
    · exact I.ok.has _ (.inl k)
    · exact I.ok.has _ (.inr k)
  have hL : env.locals = s.heap.objs.size := by rw [henv]; rfl
  have hcl : env.cells = cloFrom X.env.cells scope.names [] := by rw [henv]; rfl
  have hsc : env.scope = scope := by rw [henv]; rfl
  have hsz : h'.objs.size = s.heap.objs.size + 1 := by rw [hs.1, Heap.size_push]
  have kp1 : ∀ b o, s.heap.get? b = some o → h'.get? b = some o := fun b o e => (hs.2 b (Nat.ne_of_lt (Heap.lt_size e))).trans (Heap.get?_push_of_some _ e)
  have kp : ∀ b o, s.heap.get? b = some o → (h'.push go).get? b = some o := fun b o e => Heap.get?_push_of_some _ (kp1 b o e)
  have cm : ∀ {y c}, env.cells.lookup y = some c → X.env.cells.lookup y = some c ∧ c < s.heap.objs.size := fun {y c} e => by
    rw [hcl] at e
    rcases cloFrom_mem (PySem.mem_of_lookup e) with hm | ⟨h1, h2⟩
    · cases hm
    · obtain ⟨c', hc⟩ := hfree _ h1 rfl
      rw [h2, hc]
      obtain ⟨w, z⟩ := I.cell _ _ hc
      exact ⟨rfl, z.lt⟩
  have look : ∀ {y}, scope.names.lookup y = some .free → ∃ c, env.cells.lookup y = some c ∧ X.env.cells.lookup y = some c := fun {y} hl => by
    have hy : (y, NameKind.free) ∈ scope.names := PySem.mem_of_lookup hl
    obtain ⟨c', e'⟩ := mem_lookup (cloFrom_has (cells := X.env.cells) (acc := []) hy)
    rw [← hcl] at e'
    exact ⟨c', e', (cm e').1⟩
  have a1 : s.heap.objs.size ≤ h'.objs.size := by omega
  have nst : h'.objs.size ∉ frs X.stack := fun hm => by
    rcases List.mem_cons.mp (I.stkSub _ hm) with z | z
    · exact absurd (Nat.lt_of_lt_of_le I.lt a1) (by rw [z]; exact Nat.lt_irrefl _)
    · exact I.nofs a1 z
  have okB : (gX X s H env (own ++ caps.map (·.1)) fp [(h'.objs.size, go)] A).Ok := by
    refine ⟨I.ok.mod, by show env.scope.kind = _; rw [hsc]; exact ok.kind, by show env.globals = _; rw [henv]; exact I.ok.glob, by show env.builtins = _; rw [henv]; rfl, by show s.heap.objs.size ≤ env.locals; rw [hL]; exact Nat.le_refl _,
      fun y z c e1 e2 => I.ok.inj y z c (cm e1).1 (cm e2).1, fun y hy => ?_, fun y c z e => (by cases z), fun _ => hr.hd, hfr, .inr ⟨rfl, by show env.frame = some env.locals; rw [henv]; rfl⟩,
      fun b hb => ⟨?_, fun y c e => ?_⟩, I.bs, Nat.le_trans I.ok.bsz I.sz, fun b o e hb => ?_, fun b hb z => ?_, I.stack, I.stkFree⟩
    · have hy : env.scope.names.lookup y = some .cell ∨ env.scope.names.lookup y = some .free := hy
      rw [hsc] at hy
      rcases hy with hy | hy
      · exact absurd rfl (ok.cell _ (PySem.mem_of_lookup hy))
      · obtain ⟨c, h1, _⟩ := look hy
        exact ⟨c, h1⟩
    · show b ≠ env.locals
      rw [hL]; exact Nat.ne_of_lt (hfp b hb).2
    · exact (hfp b hb).1.2.2.2.2.1 y c (cm e).1
    · rcases (hfp b hb).1.2.2.2.1 with z | z
      · exact I.ok.noex b o e z
      · exact absurd (Nat.lt_of_lt_of_le (Heap.lt_size e) (Nat.le_trans I.ok.bsz z)) (Nat.lt_irrefl _)
    · rcases List.mem_cons.mp (I.stkSub b z) with z | z
      · exact (hfp b hb).1.2.1 z
      · exact (hfp b hb).1.2.2.1 z
  refine ⟨okB, rfl, hg, Un.kept kp, ⟨fun y => if y = ".0" then some it else none, ?_, fun i y av e1 e2 e3 => ?_⟩, fun y c e => ?_, ?_, fun y c e => I.freeC y c (cm e).1, fun p hp => ?_, I.hok.kept kp, ?_⟩
  · show Heap.Ns _ env.locals _
    rw [hL]
    exact hn.push _
  · obtain ⟨j, kk, rfl, hj, hv⟩ := capt_some e2
    have e1 : (own ++ caps.map (·.1))[own.length + j]? = some y := e1
    rw [List.getElem?_append_right (Nat.le_add_right _ _), Nat.add_sub_cancel_left, List.getElem?_map] at e1
    rw [List.getElem?_map] at hj
    cases q : caps[j]? with
    | none => rw [q] at hj; cases hj
    | some p =>
      rw [q] at e1 hj
      simp only [Option.map_some, Option.some.injEq] at e1 hj
      subst e1 hj
      obtain ⟨c1, c2⟩ := ok.caps p (List.mem_of_getElem? q)
      have hvis : Vis X.env.scope p.1 := (ok.free _ (PySem.mem_of_lookup c1) rfl).elim (fun k => .inr (.inl k)) (fun k => .inr (.inr k))
      obtain ⟨m, hn2, hl⟩ := I.loc
      obtain ⟨u, r, lk⟩ := hl p.2 p.1 av c2 hv hvis
      obtain ⟨c, h1, h2⟩ := look c1
      refine ⟨u, r, .inr ⟨.inr (by show env.scope.names.lookup p.1 = _; rw [hsc]; exact c1), c, h1, ?_⟩⟩
      rcases lk with ⟨k, _⟩ | ⟨_, c', e', z⟩
      · have k : X.env.scope.names.lookup p.1 = some .local := k
        rcases ok.free _ (PySem.mem_of_lookup c1) rfl with k' | k' <;> rw [show X.env.scope.names.lookup p.1 = _ from k'] at k <;> cases k
      · rw [h2] at e'; cases e'
        exact z.keeps kp
  · obtain ⟨w, z⟩ := I.cell y c (cm e).1
    exact ⟨w, z.keeps kp⟩
  · show H env.locals = none
    rw [hL]; exact I.hok.fresh (Nat.le_refl _)
  · have hp' : p ∈ [(h'.objs.size, go)] ++ [] := hp
    rw [List.append_nil] at hp'
    rw [List.mem_singleton.mp hp']
    refine ⟨hgg h', I.hok.fresh a1, ?_, nst, hgo⟩
    show h'.objs.size ≠ env.locals
    rw [hL]; omega
  · show (capt _ _ _).length = (own ++ caps.map (·.1)).length
    rw [capt_len, List.length_append, List.length_map, List.length_map]
end

/-! ### the protocol -/
section
variable {α : Type} (Xg : Cx) (fp : List Addr) (CP : α → List (Addr × Obj) → Prop) (Step : α → V → Hp → (α → Hp → Prop) → Prop) (QT : α → Hp → Prop)
def GYp : Protocol := fun n s₀ v s1 kap => ∃ (a : α) (x : V) (σ1 : L2.St) (H1 : Hp) (cp : List (Addr × Obj)), RelV x v ∧ CP a cp ∧ (∀ p ∈ cp, s₀.heap.get? p.1 = some p.2) ∧ Inv Xg cp σ1 H1 s1 ∧ (∀ b ∈ fp, H1 b = none) ∧
  Step a x H1 fun a' H' => ∀ s' cp', CP a' cp' → Inv Xg cp' σ1 H' s' → (∀ b ∈ fp, H' b = none) → (∀ b ∈ fp, ∀ o, s1.heap.get? b = some o → s'.heap.get? b = some o) → kap (.send .none) s'
def GRp : GenEnd := fun n s₀ r s1 => ((r = .ok (.ret .none) ∨ r = .ok .next) ∧ ∃ (a : α) (σ1 : L2.St) (H1 : Hp) (cp : List (Addr × Obj)), CP a cp ∧ (∀ p ∈ cp, s₀.heap.get? p.1 = some p.2) ∧ Inv Xg cp σ1 H1 s1 ∧ QT a H1) ∨ ∃ e, r = .error e ∧ False
end

section
variable {α : Type} {Xg : Cx} {fp : List Addr} {CP : α → List (Addr × Obj) → Prop} {Step : α → V → Hp → (α → Hp → Prop) → Prop} {QT : α → Hp → Prop}
variable {A : Around} {elt tg iter : Expr} {ifs : List Expr} {scope : Scope} {gpos : Pos} {it : Addr} {tn : Nat → Heap → Prop} {J : It} {σ0 : L2.St} {vs : List Nat} {g : TG} {tt : TT} {te : TE}
variable {W : Nat → Nat → α → Hp → Prop}
theorem seg_gloop (hA : A.over (.compLoop (.GeneratorExp elt [⟨tg, iter, ifs, 0⟩] scope gpos) 0 (.ref it) .none Xg.env) [] = Xg.A) (hco : Xg.env.scope.isCoroutine = false) (hc : Xg.calm = true) (hexe : Xg.xe = fun _ _ => False)
    (hfp : ∀ b ∈ fp, b ∈ Xg.ex) (hpn : ∀ b ∈ fp, ∀ p ∈ Xg.pn, p.1 ≠ b) (hcp : ∀ a cp, CP a cp → ∀ p ∈ cp, p.1 ∉ fp) (hl0 : σ0.length = Xg.N.length)
    (T : Turn Xg.prog Xg.w Xg.K tg J fp it tn) (hg : PG Xg tg g) (ht : PTs Xg ifs tt) (he : PE Xg elt te)
    (mono : ∀ a x H N N', (∀ a' H', N a' H' → N' a' H') → Step a x H N → Step a x H N')
    (turn : ∀ i m a H, W i m a H → (J.stop i H ∧ QT a H) ∨ (J.go i H ∧ ∃ Nx : α → Hp → Prop, (∀ a' H', Nx a' H' → ∃ m', m' < m ∧ W (i + 1) m' a' H') ∧
      ∀ x H', J.yld i H x H' → g x σ0 H' fun σ2 H2 => wipe σ2 vs = σ0 ∧ tt σ2 H2 fun b H3 => if b = true then te σ2 H3 fun y H4 => Step a y H4 Nx else Nx a H3)) :
    ∀ (m n i : Nat) (s₀ s : Shared) (a : α) (H : Hp) (cp : List (Addr × Obj)), m < n → CP a cp → (∀ p ∈ cp, s₀.heap.get? p.1 = some p.2) → Inv Xg cp σ0 H s → tn i s.heap → (∀ b ∈ fp, H b = none) → W i m a H →
      Seg (model Xg.prog Xg.w) A (GRp Xg CP QT) (GYp Xg fp CP Step) n s₀ (.compLoop (.GeneratorExp elt [⟨tg, iter, ifs, 0⟩] scope gpos) 0 (.ref it) .none Xg.env)
        ((model Xg.prog Xg.w).den (.compLoop (.GeneratorExp elt [⟨tg, iter, ifs, 0⟩] scope gpos) 0 (.ref it) .none Xg.env)) [] s := by
  intro m
  induction m using Nat.strongRecOn with
  | ind m ih =>
    intro n i s₀ s a H cp hmn hcpa hs0 I st nf w
    have stat : ∀ {cp' : List (Addr × Obj)} {a' : α} {σ' : L2.St} {H' : Hp} {s' : Shared}, CP a' cp' → Inv Xg cp' σ' H' s' → (∀ b ∈ fp, H' b = none) → ∀ b ∈ fp, FpOk Xg cp' H' b := fun {cp' a' σ' H' s'} hca I' hn b hb =>
      ⟨hn b hb, (I'.ok.exf b (hfp b hb)).1, I'.ok.exfs b (hfp b hb), .inl (hfp b hb), fun x c e => (I'.ok.exf b (hfp b hb)).2 x c e, fun p hp => by
        rcases List.mem_append.mp hp with hp | hp
        · exact hpn b hb p hp
        · exact fun z => hcp a' cp' hca p hp (by rw [z]; exact hb)⟩
    show Seg _ A _ _ _ s₀ _ ((compTurn (.GeneratorExp elt [⟨tg, iter, ifs, 0⟩] scope gpos) 0 (.ref it) .none Xg.env).onRaise (leaving Xg.env)) [] s
    rw [compTurn_gen, Sem.onRaise_eq_wrap]
    refine seg_bind_wrap (wpAny_standAt ?_)
    rcases turn i m a H w with ⟨stop, qt⟩ | ⟨go, Nx, hNx, step⟩
    · refine seg_bind_wrap ?_
      rw [hA]
      refine thn (T.done Xg rfl rfl rfl hc i cp s σ0 H _ I (stat hcpa I nf) st stop) fun r s1 ⟨hr, I1⟩ => ?_
      subst hr
      exact seg_end (.ok .next) (.inl ⟨.inr rfl, a, σ0, H, cp, hcpa, hs0, I1, qt⟩)
    · refine seg_bind_wrap ?_
      rw [hA]
      refine thn (T.item Xg rfl rfl rfl hc i cp s σ0 H _ I (stat hcpa I nf) st go) fun r s1 ⟨u, hr, h1⟩ => ?_
      subst hr
      refine seg_bind_wrap ?_
      rw [hA]
      refine thn h1 fun _ s2 ⟨x, H2, I2, r2, y2, st2, n2⟩ => ?_
      have I2' := I2.pinned (stat hcpa I2 n2) (T.obj _ _ st2)
      refine seg_bind_wrap ?_
      rw [hA]
      refine wpAny_mono (hg.run _ s2 _ H2 x u _ I2' r2 (step x H2 y2)) (fun _ s3 ⟨σ3, H3, I3, hw3, q3⟩ => ?_) fun e s' z => by rw [hexe] at z; exact z.elim
      refine seg_bind_wrap ?_
      rw [hA]
      refine wpAny_mono (ht.run _ s3 σ3 H3 _ I3 q3) (fun b s4 ⟨H4, I4, q4⟩ => ?_) fun e s' z => by rw [hexe] at z; exact z.elim
      have pin' : ∀ {σ' : L2.St} {H' : Hp} {s' : Shared}, Inv Xg (cp ++ pinsAt fp s2.heap) σ' H' s' → ∀ b ∈ fp, ∀ o, s2.heap.get? b = some o → s'.heap.get? b = some o ∧ H' b = none := fun {σ' H' s'} I' b hb o e =>
        let z := I'.pin (b, o) (List.mem_append_right _ (List.mem_append_right _ (mem_pinsAt hb e)))
        ⟨z.1, z.2.1⟩
      have hl : ∀ {σ' : L2.St}, wipe σ' vs = σ0 → σ0.length = σ'.length := fun {σ'} h => by rw [← h, wipe_length]
      cases b with
      | false =>
        simp only [Bool.false_eq_true, if_false] at q4 ⊢
        obtain ⟨m', hm, w'⟩ := hNx a H4 q4
        refine seg_again rfl (ih m' hm n (i + 1) s₀ s4 a H4 cp (by omega) hcpa hs0 (I4.unpinned.weak (hl hw3) fun j v e => ?_) (T.keep _ _ _ st2 fun b hb o e => (pin' I4 b hb o e).1) (fun b hb => ?_) w')
        · rw [← hw3] at e
          exact (wipe_some e).1
        · obtain ⟨o, e, _⟩ := T.obj _ _ st2 b hb
          exact (pin' I4 b hb o e).2
      | true =>
        simp only [if_true] at q4 ⊢
        have hy : ∀ v, yieldOut Xg.env v = yieldValue v := fun v => by simp only [yieldOut, hco, Bool.false_eq_true, if_false]
        simp only [hy]
        obtain ⟨n, rfl⟩ : ∃ n', n = n' + 1 := by
          exact ⟨n - 1, by omega⟩
        rw [Sem.bind_eq_wrap', Sem.bind_eq_wrap', Sem.wrap_wrap, Sem.wrap_wrap]
        refine seg_wrap ?_
        rw [hA]
        refine wpAny_mono (he.run _ s4 σ3 H4 _ I4 q4) (fun y s5 ⟨yv, H5, I5, r5, q5⟩ => ?_) fun e s' z => by rw [hexe] at z; exact z.elim
        refine seg_at (seg_yield rfl rfl rfl ⟨a, yv, σ3, H5, cp, r5, hcpa, hs0, I5.unpinned, (fun b hb => by
          obtain ⟨o, e, _⟩ := T.obj _ _ st2 b hb
          exact (pin' I5 b hb o e).2), mono _ _ _ _ _ (fun a' H' nx s'' cp' hca' I'' hn'' hk'' => ?_) q5⟩)
        obtain ⟨m', hm, w'⟩ := hNx a' H' nx
        refine seg_again rfl (ih m' hm n (i + 1) s'' s'' a' H' cp' (by omega) hca' (fun p hp => (I''.pin p (List.mem_append_right _ hp)).1) (I''.weak (hl hw3) fun j v e => ?_) (T.keep _ _ _ st2 fun b hb o e => hk'' b hb o (pin' I5 b hb o e).1) hn'' w')
        · rw [← hw3] at e
          exact (wipe_some e).1
end

section
variable {α : Type} {Xg : Cx} {fp : List Addr} {CP : α → List (Addr × Obj) → Prop} {Step : α → V → Hp → (α → Hp → Prop) → Prop} {QT : α → Hp → Prop}
variable {A : Around} {elt tg iter : Expr} {ifs : List Expr} {scope : Scope} {gpos : Pos} {it : Addr} {n : Nat} {s₀ s : Shared}
/-- the first turn -/
theorem seg_gstart {R : GenEnd} {Y : Protocol} {M : Model} {env : Env} (hM : M = model Xg.prog Xg.w) (self : ∀ (A : Around) (Q : Value → Shared → Prop) (E : Value → Shared → Prop), Q (.ref it) s → wpAny M A (pyIter (.ref it)) Q E s)
    (loop : Seg M A R Y n s₀ (.compLoop (.GeneratorExp elt [⟨tg, iter, ifs, 0⟩] scope gpos) 0 (.ref it) .none env) (M.den (.compLoop (.GeneratorExp elt [⟨tg, iter, ifs, 0⟩] scope gpos) 0 (.ref it) .none env)) [] s) :
    Seg M A R Y n s₀ (.compStart (.GeneratorExp elt [⟨tg, iter, ifs, 0⟩] scope gpos) 0 (.ref it) .none env) (M.den (.compStart (.GeneratorExp elt [⟨tg, iter, ifs, 0⟩] scope gpos) 0 (.ref it) .none env)) [] s := by
  subst hM
  show Seg _ A _ _ _ s₀ _ ((compStart (.GeneratorExp elt [⟨tg, iter, ifs, 0⟩] scope gpos) 0 (.ref it) .none env).onRaise (leaving env)) [] s
  unfold compStart
  rw [Sem.onRaise_eq_wrap]
  show Seg _ A _ _ _ s₀ _ ((ask >>= _).wrap _ _ _ _) [] s
  refine seg_bind_wrap (wpAny_askSetting ?_)
  split
  · exact seg_again rfl loop
  · first
      | exact seg_bind_wrap (wpAny_rule (seg_bind_wrap (wpAny_standAt (seg_bind_wrap (self _ _ _ (seg_again rfl loop))))))
      | (refine seg_bind_wrap (wpAny_rule ?_); show Seg _ A _ _ _ s₀ _ ((standAt iter.pos >>= _).wrap _ _ _ _) [] s; exact seg_bind_wrap (wpAny_standAt (seg_bind_wrap (self _ _ _ (seg_again rfl loop)))))

/-- the generator at a, its number g, may be asked n times more -/
def Live (Xg : Cx) (fp : List Addr) (CP : α → List (Addr × Obj) → Prop) (Step : α → V → Hp → (α → Hp → Prop) → Prop) (QT : α → Hp → Prop) (B : Around) (a : Addr) (g : Nat) (n : Nat) (s : Shared) : Prop :=
  s.heap.IsGen a g ∧ s.heap.NoLimit ∧ ∃ gs, s.gens[g]? = some gs ∧ gs.Goes (model Xg.prog Xg.w) B (GRp Xg CP QT) (GYp Xg fp CP Step) n (.send .none) (s.setGen g .running)
theorem live_next {B : Around} {a : Addr} {g : Nat} {Q : Option Value → Shared → Prop} {E : Value → Shared → Prop} (hh : B.handled = none) (hroom : B.depth < recursionLimit) (L : Live Xg fp CP Step QT B.in1 a g n s)
    (hend : ∀ s₁ h' acc σ1 H1 cp, CP acc cp → (∀ p ∈ cp, s.heap.get? p.1 = some p.2) → Inv Xg cp σ1 H1 s₁ → QT acc H1 → (∀ b o, s₁.heap.get? b = some o → h'.get? b = some o) → Q none { s₁.setGen g .finished with heap := h' })
    (hyld : ∀ v s₁ gs' acc x σ1 H1 cp, RelV x v → CP acc cp → (∀ p ∈ cp, s.heap.get? p.1 = some p.2) → Inv Xg cp σ1 H1 s₁ → gs'.bare = true → (∀ b ∈ fp, H1 b = none) →
      Step acc x H1 (fun a' H' => ∀ s' cp', CP a' cp' → Inv Xg cp' σ1 H' s' → (∀ b ∈ fp, H' b = none) → (∀ b ∈ fp, ∀ o, s₁.heap.get? b = some o → s'.heap.get? b = some o) → ∃ m, n = m + 1 ∧ gs'.Goes (model Xg.prog Xg.w) B.in1 (GRp Xg CP QT) (GYp Xg fp CP Step) m (.send .none) s') →
      g + 1 ≤ (s₁.setGen g gs').gens.size → Q (some v) (s₁.setGen g gs'))
    (mono : ∀ a x H N N', (∀ a' H', N a' H' → N' a' H') → Step a x H N → Step a x H N') :
    wpAny (model Xg.prog Xg.w) B (pyNext (.ref a)) Q E s := by
  obtain ⟨hg, hl, gs, hgs, hgo⟩ := L
  have hgl : g + 1 ≤ s.gens.size := (Array.getElem?_eq_some_iff.mp hgs).1
  refine wpAny_gsz (n := g + 1) hgl ?_
  refine next_genG (F := fun _ s₀ s1 => ∃ (a : α) (σ1 : L2.St) (H1 : Hp) (cp : List (Addr × Obj)), CP a cp ∧ (∀ p ∈ cp, s₀.heap.get? p.1 = some p.2) ∧ Inv Xg cp σ1 H1 s1 ∧ QT a H1) (Er := fun _ _ => False) (Y := GYp Xg fp CP Step) (n := n) hh hl hroom hg hgs hgo
    (fun v s₁ gs' hb hv => ?_) (fun s₁ hp h' hk => ?_) fun e s₁ he => he.elim
  · obtain ⟨acc, x, σ1, H1, cp, r, hc, h0, I, nf, st⟩ := hv
    intro hsz
    refine hyld v s₁ gs' acc x σ1 H1 cp r hc h0 I hb nf (mono _ _ _ _ _ (fun a' H' hN s' cp' c1 c2 c3 c4 => ?_) st) hsz
    have z := hN s' cp' c1 c2 c3 c4
    cases n with
    | zero => exact False.elim z
    | succ m => exact ⟨m, rfl, z⟩
  · obtain ⟨acc, σ1, H1, cp, hc, h0, I, q⟩ := hp
    intro _
    exact hend s₁ h' acc σ1 H1 cp hc h0 I q hk
end

/-! ### all, any -/
def stAll (QF : Hp → Prop) : Unit → V → Hp → (Unit → Hp → Prop) → Prop := fun _ x H N => ∃ b, x = .bl b ∧ if b = true then N () H else QF H
def stAny (QF : Hp → Prop) : Unit → V → Hp → (Unit → Hp → Prop) → Prop := fun _ x H N => ∃ b, x = .bl b ∧ if b = true then QF H else N () H
def cp0 : Unit → List (Addr × Obj) → Prop := fun _ cp => cp = []
theorem stAll_mono {QF : Hp → Prop} : ∀ a x H N N', (∀ a' H', N a' H' → N' a' H') → stAll QF a x H N → stAll QF a x H N' := fun a x H N N' h ⟨b, e, q⟩ => ⟨b, e, by
  cases b with
  | true => exact h _ _ q
  | false => exact q⟩
theorem stAny_mono {QF : Hp → Prop} : ∀ a x H N N', (∀ a' H', N a' H' → N' a' H') → stAny QF a x H N → stAny QF a x H N' := fun a x H N N' h ⟨b, e, q⟩ => ⟨b, e, by
  cases b with
  | true => exact q
  | false => exact h _ _ q⟩
section
variable {Xg : Cx} {fp : List Addr} {QT QF : Hp → Prop} {B : Around} {a : Addr} {g : Nat} {go : Obj} {R : Result → Shared → Prop}
theorem live_again {Step : Unit → V → Hp → (Unit → Hp → Prop) → Prop} {m : Nat} {s₁ : Shared} {gs' : GenState} {σ1 : L2.St} {H1 : Hp} (hgo : ∀ h : Heap, h.get? a = some go → h.IsGen a g) (hpn : (a, go) ∈ Xg.pn) (I : Inv Xg [] σ1 H1 s₁) (hb : gs'.bare = true) (hsz : g + 1 ≤ (s₁.setGen g gs').gens.size)
    (hG : gs'.Goes (model Xg.prog Xg.w) B (GRp Xg cp0 fun _ => QT) (GYp Xg fp cp0 Step) m (.send .none) ((s₁.setGen g gs').setGen g .running)) : Live Xg fp cp0 Step (fun _ => QT) B a g m (s₁.setGen g gs') := by
  have hsz1 : g < s₁.gens.size := by
    have q : (s₁.setGen g gs').gens.size = s₁.gens.size := setGen_size _ _ _
    omega
  exact ⟨hgo _ (I.pin (a, go) (List.mem_append_left _ hpn)).1, I.nolimit, gs', setGen_at hsz1, hG⟩
theorem code_all (hh : B.handled = none) (hroom : B.depth < recursionLimit) (hgo : ∀ h : Heap, h.get? a = some go → h.IsGen a g) (hpn : (a, go) ∈ Xg.pn)
    (hT : ∀ s₁ h' σ1 H1, Inv Xg [] σ1 H1 s₁ → QT H1 → (∀ b o, s₁.heap.get? b = some o → h'.get? b = some o) → R (.ok (.ret (.bool true))) { s₁.setGen g .finished with heap := h' })
    (hF : ∀ s₁ gs' σ1 H1, Inv Xg [] σ1 H1 s₁ → gs'.bare = true → QF H1 → R (.ok (.ret (.bool false))) (s₁.setGen g gs')) :
    ∀ (n : Nat) (s : Shared), Live Xg fp cp0 (stAll QF) (fun _ => QT) B.in1.in1 a g n s → codeAny (model Xg.prog Xg.w) B (.builtin "all.loop" ⟨[.ref a], []⟩) R s := by
  intro n
  induction n using Nat.strongRecOn with
  | ind n ih =>
    intro s L
    refine codeAny_builtin F.entry_all_loop ?_
    rw [Around.under_plainId F.plain_all_loop _]
    show wpAny _ B.in1 (pyNext (.ref a) >>= _) _ _ s
    refine wpAny_bind (live_next (B := B.in1) hh hroom L (fun s₁ h' acc σ1 H1 cp hc _ I q hk => ?_) (fun v s₁ gs' acc x σ1 H1 cp r hc _ I hb nf st hsz => ?_) stAll_mono)
    · subst hc
      exact wpAny_bind (wpAny_rule (wpAny_pure (hT s₁ h' σ1 H1 I q hk)))
    · subst hc
      obtain ⟨b, rfl, q⟩ := st
      obtain rfl : v = Value.bool b := r
      refine wpAny_bind (wpAny_holding (wpAny_truthy_bool ?_))
      refine wpAny_bind (wpAny_letGo ?_)
      cases b with
      | true =>
        simp only [if_true] at q ⊢
        have I2 : Inv Xg [] σ1 H1 ((s₁.setGen g gs').setGen g .running) := inv_gens (s := s₁) (g' := ((s₁.setGen g gs').setGen g .running).gens) I (allBare_setGen (s := s₁.setGen g gs') (allBare_setGen I.bare hb) rfl)
        obtain ⟨m, rfl, hG⟩ := q _ [] rfl I2 nf fun b _ o e => e
        refine wpAny_pure ⟨plainId_quiet F.plain_all_loop _, ih m (Nat.lt_succ_self m) _ (live_again hgo hpn I hb hsz hG)⟩
      | false =>
        simp only [Bool.false_eq_true, if_false] at q ⊢
        exact wpAny_bind (wpAny_rule (wpAny_pure (hF s₁ gs' σ1 H1 I hb q)))
theorem code_any (hh : B.handled = none) (hroom : B.depth < recursionLimit) (hgo : ∀ h : Heap, h.get? a = some go → h.IsGen a g) (hpn : (a, go) ∈ Xg.pn)
    (hT : ∀ s₁ h' σ1 H1, Inv Xg [] σ1 H1 s₁ → QT H1 → (∀ b o, s₁.heap.get? b = some o → h'.get? b = some o) → R (.ok (.ret (.bool false))) { s₁.setGen g .finished with heap := h' })
    (hF : ∀ s₁ gs' σ1 H1, Inv Xg [] σ1 H1 s₁ → gs'.bare = true → QF H1 → R (.ok (.ret (.bool true))) (s₁.setGen g gs')) :
    ∀ (n : Nat) (s : Shared), Live Xg fp cp0 (stAny QF) (fun _ => QT) B.in1.in1 a g n s → codeAny (model Xg.prog Xg.w) B (.builtin "any.loop" ⟨[.ref a], []⟩) R s := by
  intro n
  induction n using Nat.strongRecOn with
  | ind n ih =>
    intro s L
    refine codeAny_builtin F.entry_any_loop ?_
    rw [Around.under_plainId F.plain_any_loop _]
    show wpAny _ B.in1 (pyNext (.ref a) >>= _) _ _ s
    refine wpAny_bind (live_next (B := B.in1) hh hroom L (fun s₁ h' acc σ1 H1 cp hc _ I q hk => ?_) (fun v s₁ gs' acc x σ1 H1 cp r hc _ I hb nf st hsz => ?_) stAny_mono)
    · subst hc
      exact wpAny_bind (wpAny_rule (wpAny_pure (hT s₁ h' σ1 H1 I q hk)))
    · subst hc
      obtain ⟨b, rfl, q⟩ := st
      obtain rfl : v = Value.bool b := r
      refine wpAny_bind (wpAny_holding (wpAny_truthy_bool ?_))
      refine wpAny_bind (wpAny_letGo ?_)
      cases b with
      | false =>
        simp only [Bool.false_eq_true, if_false] at q ⊢
        have I2 : Inv Xg [] σ1 H1 ((s₁.setGen g gs').setGen g .running) := inv_gens (s := s₁) (g' := ((s₁.setGen g gs').setGen g .running).gens) I (allBare_setGen (s := s₁.setGen g gs') (allBare_setGen I.bare hb) rfl)
        obtain ⟨m, rfl, hG⟩ := q _ [] rfl I2 nf fun b _ o e => e
        refine wpAny_pure ⟨plainId_quiet F.plain_any_loop _, ih m (Nat.lt_succ_self m) _ (live_again hgo hpn I hb hsz hG)⟩
      | true =>
        simp only [if_true] at q ⊢
        exact wpAny_bind (wpAny_rule (wpAny_pure (hF s₁ gs' σ1 H1 I hb q)))
end

/-! ### the generator made -/
section
variable {X : Cx} {pins : List (Addr × Obj)} {σ : L2.St} {H : Hp} {s : Shared}
theorem over_comp {B : Around} {elt tg iter : Expr} {ifs : List Expr} {scope : Scope} {gpos : Pos} {iv : Value} {env : Env} {l : List Env} (hf : B.frames = some l) (b : Bool) :
    let A := B.over (if b then .compStart (.GeneratorExp elt [⟨tg, iter, ifs, 0⟩] scope gpos) 0 iv .none env else .compLoop (.GeneratorExp elt [⟨tg, iter, ifs, 0⟩] scope gpos) 0 iv .none env) []
    A.handled = B.handled ∧ A.frames = some (env :: l) ∧ A.depth = B.depth + 1 ∧ A.units = B.units + 3 := by
  obtain ⟨hd, d, fr, gs, u⟩ := B
  obtain rfl : fr = some l := hf
  cases b <;> refine ⟨rfl, rfl, rfl, rfl⟩
theorem room_over {B : Around} {elt tg iter : Expr} {ifs : List Expr} {scope : Scope} {gpos : Pos} {iv : Value} {env : Env} {l : List Env} {k : Nat} {A : Around} (hr : Room (k + 1) A) (h1 : B.handled = A.handled) (h2 : B.depth = A.depth) (h3 : B.units ≤ A.units + 8) (hf : B.frames = some l) :
    Room k (B.over (.compLoop (.GeneratorExp elt [⟨tg, iter, ifs, 0⟩] scope gpos) 0 iv .none env) []) := by
  obtain ⟨e1, _, e3, e4⟩ := over_comp (elt := elt) (tg := tg) (iter := iter) (ifs := ifs) (scope := scope) (gpos := gpos) (iv := iv) (env := env) hf false
  simp only [Bool.false_eq_true, if_false] at e1 e3 e4
  have d := hr.dp
  have u := hr.un
  exact ⟨by rw [e1, h1]; exact hr.hd, by rw [e3]; omega, by rw [e4]; omega⟩

/-- what a made generator is known to be: J, what it walks; H2, the heap; a its object's place, g its number; Xg its frame's context -/
structure Made (X Xg : Cx) (pins : List (Addr × Obj)) (σ σ0 : L2.St) (B : Around) (fp : List Addr) (J : It) (H2 : Hp) (a : Addr) (go : Obj) (g : Nat) (vs : List Nat) (gt : TG) (tt : TT) (te : TE) (s5 : Shared) : Prop where
  P : Xg.prog = X.prog
  w : Xg.w = X.w
  pn : Xg.pn = [(a, go)]
  gen : ∀ h : Heap, h.get? a = some go → h.IsGen a g
  lt : a < s5.heap.objs.size
  low : Xg.s_0.heap.objs.size ≤ s5.heap.objs.size
  sml : ∀ b ∈ fp, b < s5.heap.objs.size
  inv : Inv Xg [] σ0 H2 s5
  back : ∀ σ' H' s', Inv Xg [] σ' H' s' → Inv X pins σ H' s'
  live : ∀ {α : Type} (CP : α → List (Addr × Obj) → Prop) (Step : α → V → Hp → (α → Hp → Prop) → Prop) (QT : α → Hp → Prop) (W : Nat → Nat → α → Hp → Prop) (m : Nat) (acc : α), (∀ a cp, CP a cp → ∀ p ∈ cp, p.1 ∉ fp) →
    (∀ a x H N N', (∀ a' H', N a' H' → N' a' H') → Step a x H N → Step a x H N') →
    (∀ i m a H, W i m a H → (J.stop i H ∧ QT a H) ∨ (J.go i H ∧ ∃ Nx : α → Hp → Prop, (∀ a' H', Nx a' H' → ∃ m', m' < m ∧ W (i + 1) m' a' H') ∧
      ∀ x H', J.yld i H x H' → gt x σ0 H' fun σ2 H2 => wipe σ2 vs = σ0 ∧ tt σ2 H2 fun b H3 => if b = true then te σ2 H3 fun y H4 => Step a y H4 Nx else Nx a H3)) →
    W 0 m acc H2 → ∀ (s6 : Shared) (cp : List (Addr × Obj)), CP acc cp → Inv Xg cp σ0 H2 s6 → s6.gens = s5.gens → (∀ b o, s5.heap.get? b = some o → s6.heap.get? b = some o) → Live Xg fp CP Step QT B a g (m + 1) s6
theorem gen_mk {elt tg iter : Expr} {ifs : List Expr} {scope : Scope} {gpos : Pos} {own : List Str} {caps : List (Str × Nat)} {wi : TI} {gt : TG} {tt : TT} {te : TE} {k : Nat} {c P : Addr} {B : Around} {RR : It → Hp → Prop} {Q' : Value → Shared → Prop}
    (hc : X.calm = true) (hr : Room (k + 1) X.A) (b1 : B.handled = X.A.handled) (b2 : B.depth = X.A.depth) (b3 : B.units ≤ X.A.units + 8) (b4 : B.frames = X.A.frames) (TB : TabB X.base X.mg c P) (hcode : X.env.code = .ref c) (ok : GScp X.N X.env.scope scope own caps) (hi : PI X tg iter wi)
    (hg : ∀ A s H C cl code fp pn, Room k A → PG (gX X s H (genEnv scope cl C code builtinsNs X.env) (own ++ caps.map (·.1)) fp pn A) tg gt)
    (ht : ∀ A s H C cl code fp pn, Room k A → PTs (gX X s H (genEnv scope cl C code builtinsNs X.env) (own ++ caps.map (·.1)) fp pn A) ifs tt)
    (he : ∀ A s H C cl code fp pn, Room k A → PE (gX X s H (genEnv scope cl C code builtinsNs X.env) (own ++ caps.map (·.1)) fp pn A) elt te)
    (hs : ∀ v, genFold iter X.env v = pure v) (I : Inv X pins σ H s) (h : wi σ H fun J H1 => TabG H1 P ∧ ∀ H2, Tabbed P H1 H2 → RR J H2)
    (hQ : ∀ J H2 Xg fp a go g s5, RR J H2 → Made X Xg pins σ (capt σ own.length (caps.map (·.2))) B fp J H2 a go g (List.range own.length) gt tt te s5 → Q' (.ref a) s5) :
    wpAny (model X.prog X.w) X.A (eval (.GeneratorExp elt [⟨tg, iter, ifs, 0⟩] scope gpos) X.env) Q' X.xe s := by
  have hfree : ∀ y ∈ scope.names, y.2 = .free → ∃ c, X.env.cells.lookup y.1 = some c := fun y hy e => by
    rcases ok.free y hy e with k | k
    · exact I.ok.has _ (.inl k)
    · exact I.ok.has _ (.inr k)
  refine wpAny_GeneratorExp_make ok.co (closure_ok hfree) ok.cell ok.dot ok.kind (by have := hr.dp; omega) ?_ hs
  refine thn (hi.run pins s σ H _ I h) fun xv s1 hx => thn hx fun itv s2 h2 => ?_
  obtain ⟨it, fp, tn, J, H2, e, I2, T, st2, f2, ⟨ps, hP, htr⟩, q2⟩ := h2
  subst e
  have hPs : s2.heap.get? P = some { cls := .none, data := .fields ps } := I2.hok P _ hP
  have cd : PySem.W.CodeHd s2.heap c P := TB.code.keeps I2.bk
  refine ⟨I2.nolimit, ?_⟩
  have sz : ∀ b ∈ fp, b < s2.heap.objs.size := fun b hb => by
    obtain ⟨o, e, _⟩ := T.obj _ _ st2 b hb
    exact Heap.lt_size e
  have nP : ∀ b ∈ fp, b ≠ P := fun b hb z => by
    have q := (f2 b hb).1
    rw [z, hP] at q
    cases q
  have cont : ∀ (code : Value) (h3 : Heap) (tk : Nat) (more : Array Value), Heap.ExtBut P s2.heap h3 → s2.heap.objs.size ≤ h3.objs.size → h3.get? P = some { cls := .none, data := .fields (ps ++ more) } → TriplesOk (ps ++ more).toList →
      wpAny (model X.prog X.w) X.A (builtinsFor X.env.globals X.env.builtins) (fun bi s₄ => ∀ h', h'.Ns s₄.heap.objs.size (fun y => if y = ".0" then some (Value.ref it) else none) → Heap.SameBut s₄.heap.objs.size (s₄.heap.push { cls := .type "frame", data := .dict #[] }) h' →
          Q' (.ref h'.objs.size) { s₄ with
            gens := s₄.gens.push (.fresh (.compStart (.GeneratorExp elt [⟨tg, iter, ifs, 0⟩] scope gpos) 0 (.ref it) .none (genEnv scope (cloFrom X.env.cells scope.names []) s₄.heap.objs.size code bi X.env))),
            toks := s₄.toks + 1 + 1 + 1,
            heap := h'.push { cls := .type "generator", data := .fields #[.int s₄.gens.size 0, .str "<genexpr>" (s₄.toks + 1), .str (X.env.qual ++ "<genexpr>") (s₄.toks + 1 + 1)] } }) X.xe { s2 with heap := h3, toks := tk } := by
    intro code h3 tk more hx hsz hP3 htr3
    obtain ⟨bm, ob, e1, e2, e3, e4, e5, e6, e7, e8⟩ := TB.bm
    have keep3 : ∀ b u, b ≠ P → s2.heap.get? b = some u → h3.get? b = some u := fun b u hb e => hx b u hb e
    refine wpAny_builtinsFor (m := X.mg) (by rw [I2.ok.glob]; exact (I2.mod.glob.keeps I2.bk).extBut hx TB.gP) e1 e2 (keep3 _ _ e4 (I2.bk _ _ e5)) e6 e7 e8 ?_
    intro h' hn' hs'
    have J4 : Inv X pins σ (upd H2 P (.tbl (ps ++ more))) { s2 with heap := h3, toks := tk } := inv_tab (g' := s2.gens) (d' := s2.drawn) I2 hP keep3 hP3 I2.bare
    have hTab : Tabbed P H2 (upd H2 P (.tbl (ps ++ more))) := ⟨⟨_, upd_same, htr3⟩, fun b hb => upd_ne hb⟩
    have f4 : ∀ b ∈ fp, FpOk X pins (upd H2 P (.tbl (ps ++ more))) b ∧ b < h3.objs.size := fun b hb => ⟨⟨by rw [upd_ne (nP b hb)]; exact (f2 b hb).1, (f2 b hb).2⟩, Nat.lt_of_lt_of_le (sz b hb) hsz⟩
    generalize henv : genEnv scope (cloFrom X.env.cells scope.names []) h3.objs.size code builtinsNs X.env = env
    obtain ⟨l, hl⟩ : ∃ l, X.A.frames = some l := ⟨_, I2.ok.frames⟩
    have hl2 : l = X.stack := Option.some.inj (hl.symm.trans I2.ok.frames)
    subst hl2
    have hBf : B.frames = some X.stack := b4.trans hl
    obtain ⟨o1, o2, o3, o4⟩ := over_comp (elt := elt) (tg := tg) (iter := iter) (ifs := ifs) (scope := scope) (gpos := gpos) (iv := .ref it) (env := env) hBf false
    simp only [Bool.false_eq_true, if_false] at o1 o2 o3 o4
    have hRm := room_over (elt := elt) (tg := tg) (iter := iter) (ifs := ifs) (scope := scope) (gpos := gpos) (iv := .ref it) (env := env) hr b1 b2 b3 hBf
    have hgo : ∀ h : Heap, (h.push { cls := .type "generator", data := .fields #[.int s2.gens.size 0, .str "<genexpr>" (tk + 1), .str (X.env.qual ++ "<genexpr>") (tk + 1 + 1)] }).get? h.objs.size = some { cls := .type "generator", data := .fields #[.int s2.gens.size 0, .str "<genexpr>" (tk + 1), .str (X.env.qual ++ "<genexpr>") (tk + 1 + 1)] } := fun h => Heap.get?_push_size _ rfl
    have I5 := gen_start (X := X) (fp := fp) (code := code) (env := env) (g' := s2.gens.push (.fresh (.compStart (.GeneratorExp elt [⟨tg, iter, ifs, 0⟩] scope gpos) 0 (.ref it) .none env))) (tk := tk + 1 + 1 + 1) (it := .ref it)
      (go := { cls := .type "generator", data := .fields #[.int s2.gens.size 0, .str "<genexpr>" (tk + 1), .str (X.env.qual ++ "<genexpr>") (tk + 1 + 1)] }) J4 ok f4 hRm henv.symm o2 hn' hs' (fun v z => by cases z) hgo (AllBare.push I2.bare rfl)
    have pg := fun C cl code fp pn => hg (B.over (.compLoop (.GeneratorExp elt [⟨tg, iter, ifs, 0⟩] scope gpos) 0 (.ref it) .none env) []) { s2 with heap := h3, toks := tk } (upd H2 P (.tbl (ps ++ more))) C cl code fp pn hRm
    have pt := fun C cl code fp pn => ht (B.over (.compLoop (.GeneratorExp elt [⟨tg, iter, ifs, 0⟩] scope gpos) 0 (.ref it) .none env) []) { s2 with heap := h3, toks := tk } (upd H2 P (.tbl (ps ++ more))) C cl code fp pn hRm
    have pe := fun C cl code fp pn => he (B.over (.compLoop (.GeneratorExp elt [⟨tg, iter, ifs, 0⟩] scope gpos) 0 (.ref it) .none env) []) { s2 with heap := h3, toks := tk } (upd H2 P (.tbl (ps ++ more))) C cl code fp pn hRm
    have pg := pg h3.objs.size (cloFrom X.env.cells scope.names []) code fp [(h'.objs.size, { cls := .type "generator", data := .fields #[.int s2.gens.size 0, .str "<genexpr>" (tk + 1), .str (X.env.qual ++ "<genexpr>") (tk + 1 + 1)] })]
    have pt := pt h3.objs.size (cloFrom X.env.cells scope.names []) code fp [(h'.objs.size, { cls := .type "generator", data := .fields #[.int s2.gens.size 0, .str "<genexpr>" (tk + 1), .str (X.env.qual ++ "<genexpr>") (tk + 1 + 1)] })]
    have pe := pe h3.objs.size (cloFrom X.env.cells scope.names []) code fp [(h'.objs.size, { cls := .type "generator", data := .fields #[.int s2.gens.size 0, .str "<genexpr>" (tk + 1), .str (X.env.qual ++ "<genexpr>") (tk + 1 + 1)] })]
    rw [henv] at pg pt pe
    have szh : h'.objs.size = h3.objs.size + 1 := by rw [hs'.1, Heap.size_push]
    have kp : ∀ b o, h3.get? b = some o → h'.get? b = some o := fun b o e => (hs'.2 b (Nat.ne_of_lt (Heap.lt_size e))).trans (Heap.get?_push_of_some _ e)
    have fpk : ∀ b ∈ fp, ∀ o, s2.heap.get? b = some o → h'.get? b = some o := fun b hb o e => kp b o (keep3 b o (nP b hb) e)
    have eenv : env.scope = scope := by rw [← henv]; rfl
    refine hQ J _ (gX X { s2 with heap := h3, toks := tk } (upd H2 P (.tbl (ps ++ more))) env (own ++ caps.map (·.1)) fp [(h'.objs.size, { cls := .type "generator", data := .fields #[.int s2.gens.size 0, .str "<genexpr>" (tk + 1), .str (X.env.qual ++ "<genexpr>") (tk + 1 + 1)] })] (B.over (.compLoop (.GeneratorExp elt [⟨tg, iter, ifs, 0⟩] scope gpos) 0 (.ref it) .none env) [])) fp _ { cls := .type "generator", data := .fields #[.int s2.gens.size 0, .str "<genexpr>" (tk + 1), .str (X.env.qual ++ "<genexpr>") (tk + 1 + 1)] } s2.gens.size _ (q2 _ hTab) ⟨rfl, rfl, rfl, fun h e => ⟨_, _, _, e, rfl, rfl, rfl⟩, ?_, ?_, fun b hb => ?_, I5, fun σ' H' s' I' => ?_, ?_⟩
    · show h'.objs.size < (h'.push _).objs.size
      rw [Heap.size_push]; exact Nat.lt_succ_self _
    · show h3.objs.size ≤ (h'.push _).objs.size
      rw [Heap.size_push]; omega
    · show b < (h'.push _).objs.size
      rw [Heap.size_push, szh]
      exact Nat.lt_succ_of_lt (Nat.lt_succ_of_lt (f4 b hb).2)
    · exact J4.call' (ch := fp) I'.os I'.base I'.hok I'.bare fun b hb => ⟨(f4 b hb).1.2.2.2.1, (f4 b hb).1.2.1, (f4 b hb).1.2.2.2.2.1, (f4 b hb).1.2.2.2.2.2⟩
    · intro α CP Step QT W m acc hcp mono turn w0 s6 cp hca I6 hgens hk6
      have hpin := I6.pin _ (List.mem_append_left _ (List.mem_singleton.mpr rfl))
      refine ⟨⟨_, _, _, hpin.1, rfl, rfl, rfl⟩, I6.nolimit, .fresh (.compStart (.GeneratorExp elt [⟨tg, iter, ifs, 0⟩] scope gpos) 0 (.ref it) .none env), by rw [hgens]; exact Array.getElem?_push_size .., rfl, ?_⟩
      have I7 := inv_gens (g' := (s6.setGen s2.gens.size .running).gens) I6 (allBare_setGen I6.bare rfl)
      refine seg_gstart (Xg := gX X { s2 with heap := h3, toks := tk } (upd H2 P (.tbl (ps ++ more))) env (own ++ caps.map (·.1)) fp _ _) rfl (fun A Q E hq => T.self A 0 _ Q E (T.keep _ _ _ st2 fun b hb o e => hk6 b o (Heap.get?_push_of_some _ (fpk b hb o e))) hq) ?_
      refine seg_gloop (Xg := gX X { s2 with heap := h3, toks := tk } (upd H2 P (.tbl (ps ++ more))) env (own ++ caps.map (·.1)) fp [(h'.objs.size, _)] (B.over (.compLoop (.GeneratorExp elt [⟨tg, iter, ifs, 0⟩] scope gpos) 0 (.ref it) .none env) [])) (W := W) (J := J) (tn := tn) rfl (by show env.scope.isCoroutine = false; rw [eenv]; exact ok.co) hc rfl (fun b hb => hb) (fun b hb p hp => ?_) hcp ?_ T pg pt pe mono turn
        m (m + 1) 0 _ _ acc _ cp (Nat.lt_succ_self m) hca (fun p hp => (I6.pin p (List.mem_append_right _ hp)).1) I7 (T.keep _ _ _ st2 fun b hb o e => hk6 b o (Heap.get?_push_of_some _ (fpk b hb o e))) (fun b hb => (f4 b hb).1.1) w0
      · rw [List.mem_singleton.mp hp]
        have h1 := (f4 b hb).2
        intro z
        have z' : h'.objs.size = b := z
        exact absurd (Nat.lt_trans h1 (show h3.objs.size < b by rw [← z', szh]; exact Nat.lt_succ_self _)) (Nat.lt_irrefl _)
      · show (capt _ _ _).length = (own ++ caps.map (·.1)).length
        rw [capt_len, List.length_append, List.length_map, List.length_map]
  cases hf : codeAmong gpos ps.toList with
  | none =>
    refine wpAny_genexprCodeX hcode (cd.code hPs htr) (cd.tab hPs) hf fun c' h' tk hx hge hlt hco' _ htab' _ => ?_
    obtain ⟨o1, vs, f1, tf, fl, tg, inF, tx, tt, op, _, _, _, _, _, _, _, _, _, htr', _⟩ := hco'
    exact cont _ h' tk _ hx (Nat.le_trans hge (Nat.le_of_lt hlt)) htab'.2 htr'
  | some cv =>
    refine wpAny_genexprCode_hit hcode (cd.code hPs htr) hf ?_
    exact cont cv s2.heap s2.toks #[] (Heap.ExtBut.refl _ _) (Nat.le_refl _) (by simpa using hPs) (by simpa using htr)
end
end GX

set_option Elab.async false
set_option linter.all false
set_option maxRecDepth 100000
set_option maxHeartbeats 2000000
namespace GX
open PySem PySem.Spec PyProof.Rows L2 GxR GenW
section
variable {X : Cx} {elt tg iter : Expr} {ifs : List Expr} {scope : Scope} {p pos gpos : Pos} {own : List Str} {caps : List (Str × Nat)} {wi : TI} {gt : TG} {tt : TT} {te : TE} {k : Nat} {c P : Addr}
/-- a turn of a generator that goes on by Nx or ends the whole -/
def tGen {α : Type} (P : Addr) (wi : TI) (gt : TG) (tt : TT) (te : TE) (n : Nat) (is : List Nat) (acc : α) (Step : VK → α → V → Hp → (α → Hp → Prop) → Prop) (QT : VK → α → Hp → Prop) : TE := fun σ H Q => wi σ H fun J H1 => TabG H1 P ∧ ∀ H2, Tabbed P H1 H2 →
  ∃ W : Nat → Nat → α → Hp → Prop, (∃ m, W 0 m acc H2) ∧ ∀ i m a H, W i m a H → (J.stop i H ∧ QT Q a H) ∨ (J.go i H ∧ ∃ Nx : α → Hp → Prop, (∀ a' H', Nx a' H' → ∃ m', m' < m ∧ W (i + 1) m' a' H') ∧
    ∀ x H', J.yld i H x H' → gt x (capt σ n is) H' fun σ2 H2 => wipe σ2 (List.range n) = capt σ n is ∧ tt σ2 H2 fun b H3 => if b = true then te σ2 H3 fun y H4 => Step Q a y H4 Nx else Nx a H3)
def tAll (P : Addr) (wi : TI) (gt : TG) (tt : TT) (te : TE) (n : Nat) (is : List Nat) : TE := tGen P wi gt tt te n is () (fun Q => stAll fun H => Q (.bl false) H) (fun Q _ H => Q (.bl true) H)
def tAny (P : Addr) (wi : TI) (gt : TG) (tt : TT) (te : TE) (n : Nat) (is : List Nat) : TE := tGen P wi gt tt te n is () (fun Q => stAny fun H => Q (.bl true) H) (fun Q _ H => Q (.bl false) H)
theorem fin_back {Xg : Cx} {pins : List (Addr × Obj)} {σ σ' : L2.St} {H' : Hp} {s₁ : Shared} {g : Nat} {x : GenState} {h' : Heap} (back : ∀ σ' H' s', Inv Xg [] σ' H' s' → Inv X pins σ H' s') (I : Inv Xg [] σ' H' s₁) (hx : x.bare = true) (hk : ∀ b o, s₁.heap.get? b = some o → h'.get? b = some o) :
    Inv X pins σ H' { s₁.setGen g x with heap := h' } := by
  have J := back σ' H' _ (inv_gens (s := s₁) (g' := (s₁.setGen g x).gens) I (allBare_setGen I.bare hx))
  exact J.kept (t' := s₁.toks) hk
theorem pe_all (hc : X.calm = true) (hr : Room (k + 1) X.A) (hg : Gl X "all") (hm : X.mg "all" = none) (TB : TabB X.base X.mg c P) (hcode : X.env.code = .ref c) (ok : GScp X.N X.env.scope scope own caps) (hi : PI X tg iter wi)
    (hgt : ∀ A s H C cl code fp pn, Room k A → PG (gX X s H (genEnv scope cl C code builtinsNs X.env) (own ++ caps.map (·.1)) fp pn A) tg gt)
    (htt : ∀ A s H C cl code fp pn, Room k A → PTs (gX X s H (genEnv scope cl C code builtinsNs X.env) (own ++ caps.map (·.1)) fp pn A) ifs tt)
    (hte : ∀ A s H C cl code fp pn, Room k A → PE (gX X s H (genEnv scope cl C code builtinsNs X.env) (own ++ caps.map (·.1)) fp pn A) elt te)
    (hs : ∀ v, genFold iter X.env v = pure v := by intro _; rfl)
    (he : starEach [.GeneratorExp elt [⟨tg, iter, ifs, 0⟩] scope gpos] X.env = (false, eval (.GeneratorExp elt [⟨tg, iter, ifs, 0⟩] scope gpos) X.env) :: starEach [] X.env := by rfl) :
    PE X (.Call (.Name "all" p) [.GeneratorExp elt [⟨tg, iter, ifs, 0⟩] scope gpos] [] pos) (tAll P wi gt tt te own.length (caps.map (·.2))) := by
  refine ⟨fun pins s σ H Q I h => ?_⟩
  refine wpAny_Call_Name_kw (ld_blt I hg hm boot_all ?_)
  refine PyProof.Rows.callWith_builtin1 ?_ he (by rfl)
  rw [he]
  show wpAny _ _ (spliced ((false, eval (.GeneratorExp elt [⟨tg, iter, ifs, 0⟩] scope gpos) X.env) :: backTo pos (starEach [] X.env))) _ _ s
  refine Calls.spliced_cons (gen_mk (B := X.A.in1.in1) hc hr rfl rfl (by show X.A.units + 1 + 1 ≤ _; omega) rfl TB hcode ok hi hgt htt hte hs I h fun J H2 Xg fp a go g s5 hR M => ?_)
  obtain ⟨W, ⟨m, w0⟩, turn⟩ := hR
  refine Calls.spliced_nil ?_
  refine call_function_tree F.kind_all F.plain_all F.entry_all (F.args_all1 _) ?_
  unfold Builtin.«all»
  refine wpAny_bind (m := oneArg "all" _) (wpAny_pure ?_)
  have hgen := M.gen s5.heap (M.inv.pin (a, go) (List.mem_append_left _ (by rw [M.pn]; exact List.mem_singleton.mpr rfl))).1
  refine wpAny_bind (wpAny_pyIter_gen hgen ?_)
  refine wpAny_pure ⟨plainId_quiet F.plain_all_loop _, ?_⟩
  have L := M.live (α := Unit) cp0 (stAll fun H => Q (.bl false) H) (fun _ H => Q (.bl true) H) W m () (fun a cp hcp p hp => by rw [hcp] at hp; cases hp) stAll_mono turn w0 s5 [] rfl M.inv rfl fun _ _ e => e
  have e1 := M.P
  have e2 := M.w
  have z := code_all (Xg := Xg) (fp := fp) (QT := fun H => Q (.bl true) H) (QF := fun H => Q (.bl false) H) (B := X.A) (go := go) (R := fun r s' => ∃ u, r = .ok (.ret u) ∧ EP X pins σ Q u s') hr.hd (by have := hr.dp; omega) M.gen (by rw [M.pn]; exact List.mem_singleton.mpr rfl)
    (fun s₁ h' σ1 H1 I1 q hk => ⟨_, rfl, .bl true, H1, fin_back M.back I1 rfl hk, rfl, q⟩) (fun s₁ gs' σ1 H1 I1 hb q => ⟨_, rfl, .bl false, H1, fin_back (h' := s₁.heap) M.back I1 hb fun _ _ e => e, rfl, q⟩) (m + 1) s5 L
  rw [e1, e2] at z
  refine codeAny_mono z fun r s' ⟨u, hu, q⟩ => ?_
  subst hu
  exact q
theorem pe_any (hc : X.calm = true) (hr : Room (k + 1) X.A) (hg : Gl X "any") (hm : X.mg "any" = none) (TB : TabB X.base X.mg c P) (hcode : X.env.code = .ref c) (ok : GScp X.N X.env.scope scope own caps) (hi : PI X tg iter wi)
    (hgt : ∀ A s H C cl code fp pn, Room k A → PG (gX X s H (genEnv scope cl C code builtinsNs X.env) (own ++ caps.map (·.1)) fp pn A) tg gt)
    (htt : ∀ A s H C cl code fp pn, Room k A → PTs (gX X s H (genEnv scope cl C code builtinsNs X.env) (own ++ caps.map (·.1)) fp pn A) ifs tt)
    (hte : ∀ A s H C cl code fp pn, Room k A → PE (gX X s H (genEnv scope cl C code builtinsNs X.env) (own ++ caps.map (·.1)) fp pn A) elt te)
    (hs : ∀ v, genFold iter X.env v = pure v := by intro _; rfl)
    (he : starEach [.GeneratorExp elt [⟨tg, iter, ifs, 0⟩] scope gpos] X.env = (false, eval (.GeneratorExp elt [⟨tg, iter, ifs, 0⟩] scope gpos) X.env) :: starEach [] X.env := by rfl) :
    PE X (.Call (.Name "any" p) [.GeneratorExp elt [⟨tg, iter, ifs, 0⟩] scope gpos] [] pos) (tAny P wi gt tt te own.length (caps.map (·.2))) := by
  refine ⟨fun pins s σ H Q I h => ?_⟩
  refine wpAny_Call_Name_kw (ld_blt I hg hm boot_any ?_)
  refine PyProof.Rows.callWith_builtin1 ?_ he (by rfl)
  rw [he]
  show wpAny _ _ (spliced ((false, eval (.GeneratorExp elt [⟨tg, iter, ifs, 0⟩] scope gpos) X.env) :: backTo pos (starEach [] X.env))) _ _ s
  refine Calls.spliced_cons (gen_mk (B := X.A.in1.in1) hc hr rfl rfl (by show X.A.units + 1 + 1 ≤ _; omega) rfl TB hcode ok hi hgt htt hte hs I h fun J H2 Xg fp a go g s5 hR M => ?_)
  obtain ⟨W, ⟨m, w0⟩, turn⟩ := hR
  refine Calls.spliced_nil ?_
  refine call_function_tree F.kind_any F.plain_any F.entry_any (F.args_any1 _) ?_
  unfold Builtin.«any»
  refine wpAny_bind (m := oneArg "any" _) (wpAny_pure ?_)
  have hgen := M.gen s5.heap (M.inv.pin (a, go) (List.mem_append_left _ (by rw [M.pn]; exact List.mem_singleton.mpr rfl))).1
  refine wpAny_bind (wpAny_pyIter_gen hgen ?_)
  refine wpAny_pure ⟨plainId_quiet F.plain_any_loop _, ?_⟩
  have L := M.live (α := Unit) cp0 (stAny fun H => Q (.bl true) H) (fun _ H => Q (.bl false) H) W m () (fun a cp hcp p hp => by rw [hcp] at hp; cases hp) stAny_mono turn w0 s5 [] rfl M.inv rfl fun _ _ e => e
  have e1 := M.P
  have e2 := M.w
  have z := code_any (Xg := Xg) (fp := fp) (QT := fun H => Q (.bl false) H) (QF := fun H => Q (.bl true) H) (B := X.A) (go := go) (R := fun r s' => ∃ u, r = .ok (.ret u) ∧ EP X pins σ Q u s') hr.hd (by have := hr.dp; omega) M.gen (by rw [M.pn]; exact List.mem_singleton.mpr rfl)
    (fun s₁ h' σ1 H1 I1 q hk => ⟨_, rfl, .bl false, H1, fin_back M.back I1 rfl hk, rfl, q⟩) (fun s₁ gs' σ1 H1 I1 hb q => ⟨_, rfl, .bl true, H1, fin_back (h' := s₁.heap) M.back I1 hb fun _ _ e => e, rfl, q⟩) (m + 1) s5 L
  rw [e1, e2] at z
  refine codeAny_mono z fun r s' ⟨u, hu, q⟩ => ?_
  subst hu
  exact q
end
end GX

set_option Elab.async false
set_option linter.all false
set_option maxRecDepth 100000
set_option maxHeartbeats 2000000
namespace GX
open PySem PySem.Spec PyProof.Rows L2 GxR GenW
/-! ### sum -/
def stSum : Int → V → Hp → (Int → Hp → Prop) → Prop := fun acc x H N => ∃ k, x = .int k ∧ N (acc + k) H
theorem stSum_mono : ∀ a x H N N', (∀ a' H', N a' H' → N' a' H') → stSum a x H N → stSum a x H N' := fun a x H N N' h ⟨k, e, q⟩ => ⟨k, e, h _ _ q⟩
abbrev heldObj (acc : Int) (t : Tok) (c : Nat) : Obj := { cls := .type "list", dict := none, data := .seq #[.int acc t] c, slots := #[] }
def cpS (S : Addr) : Int → List (Addr × Obj) → Prop := fun acc cp => ∃ t c, cp = [(S, heldObj acc t c)]
theorem inv_repin {X : Cx} {σ : L2.St} {H : Hp} {s : Shared} {S : Addr} {o1 o2 : Obj} {h' : Heap} {t' : Nat} (I : Inv X [(S, o1)] σ H s) (h0 : X.s_0.heap.objs.size ≤ S) (hpn : ∀ p ∈ X.pn, p.1 ≠ S) (keep : ∀ b o, b ≠ S → s.heap.get? b = some o → h'.get? b = some o)
    (hS : h'.get? S = some o2) (hd : ∀ v, o2.data ≠ .cell v) : Inv X [(S, o2)] σ H { s with heap := h', toks := t' } := by
  obtain ⟨e1, e2, e3, e4, e5⟩ := I.pin (S, o1) (List.mem_append_right _ (List.mem_singleton.mpr rfl))
  have I0 : Inv X [] σ H s := I.pins_of fun p hp => by cases hp
  have I1 : Inv X [] σ H { s with heap := h', toks := t' } := I0.turned (it := S) keep e2 e3 (.inr h0) (fun x c e z => by
    obtain ⟨v, o, ho, hd'⟩ := I.cell x c e
    rw [z, e1] at ho
    cases ho
    exact e5 _ hd') fun p hp => by
      rw [List.append_nil] at hp
      exact hpn p hp
  exact I1.pins_of fun p hp => by
    rw [List.mem_singleton.mp hp]
    exact ⟨hS, e2, e3, e4, hd⟩
section
variable {Xg : Cx} {fp : List Addr} {QT : Int → Hp → Prop} {B : Around} {a S : Addr} {g : Nat} {go : Obj} {R : Result → Shared → Prop}
theorem code_sum (hh : B.handled = none) (hroom : B.depth < recursionLimit) (hgo : ∀ h : Heap, h.get? a = some go → h.IsGen a g) (hpn : Xg.pn = [(a, go)]) (hSa : a ≠ S) (hSf : S ∉ fp) (h0 : Xg.s_0.heap.objs.size ≤ S)
    (hT : ∀ s₁ h' acc σ1 H1 t, Inv Xg [] σ1 H1 s₁ → QT acc H1 → (∀ b o, s₁.heap.get? b = some o → h'.get? b = some o) → R (.ok (.ret (.int acc t))) { s₁.setGen g .finished with heap := h' }) :
    ∀ (n : Nat) (acc : Int) (t : Tok) (c : Nat) (st : Int) (s : Shared), (st = 0 ∨ st = 2) → s.heap.get? S = some (heldObj acc t c) → Live Xg fp (cpS S) stSum QT B.in1.in1 a g n s → codeAny (model Xg.prog Xg.w) B (.builtin "sum.loop" ⟨[.ref a, .ref S, rawInt st, rawInt 0], []⟩) R s := by
  intro n
  induction n using Nat.strongRecOn with
  | ind n ih =>
    intro acc t c st s hst2 hS L
    refine codeAny_builtin F.entry_sum_loop ?_
    rw [Around.under_plainId F.plain_sum_loop _]
    show wpAny _ B.in1 (seqItems? (.ref S) >>= _) _ _ s
    refine wpAny_bind (wpAny_seqItems hS rfl ?_)
    show wpAny _ B.in1 (tryCatch (pyNext (.ref a)) _ >>= _) _ _ s
    refine wpAny_bind (wpAny_tryCatch (live_next (B := B.in1) hh hroom L (fun s₁ h' acc' σ1 H1 cp hc hp I q hk => ?_) (fun v s₁ gs' acc' x σ1 H1 cp r hc hp I hb nf stp hsz => ?_) stSum_mono))
    · obtain ⟨t', c', rfl⟩ := hc
      have e := hp (S, heldObj acc' t' c') (List.mem_singleton.mpr rfl)
      have e : s.heap.get? S = some (heldObj acc' t' c') := e
      rw [hS] at e
      cases e
      exact wpAny_pure (hT s₁ h' acc σ1 H1 t (I.pins_of fun p hp => by cases hp) q hk)
    · obtain ⟨t', c', rfl⟩ := hc
      have e := hp (S, heldObj acc' t' c') (List.mem_singleton.mpr rfl)
      have e : s.heap.get? S = some (heldObj acc' t' c') := e
      rw [hS] at e
      cases e
      obtain ⟨k, rfl, hN⟩ := stp
      obtain ⟨tv, rfl⟩ := _root_.id r
      have hS' : s₁.heap.get? S = some (heldObj acc t c) := (I.pin (S, heldObj acc t c) (List.mem_append_right _ (List.mem_singleton.mpr rfl))).1
      have pnS : ∀ p ∈ Xg.pn, p.1 ≠ S := fun p hp => by
        rw [hpn] at hp
        rw [List.mem_singleton.mp hp]
        exact hSa
      -- the next turn, from any heap in which S alone has changed
      have next : ∀ (h2 : Heap) (tk2 : Nat) (t2 : Tok) (c2 : Nat), (∀ b o, b ≠ S → s₁.heap.get? b = some o → h2.get? b = some o) → h2.get? S = some (heldObj (acc + k) t2 c2) → ∃ m, n = m + 1 ∧ Live Xg fp (cpS S) stSum QT B.in1.in1 a g m { s₁.setGen g gs' with heap := h2, toks := tk2 } := fun h2 tk2 t2 c2 hk2 hS2 => by
        have I2 : Inv Xg [(S, heldObj (acc + k) t2 c2)] σ1 H1 { s₁ with heap := h2, toks := tk2 } := inv_repin I h0 pnS hk2 hS2 (fun v q => by cases q)
        have I3 : Inv Xg [(S, heldObj (acc + k) t2 c2)] σ1 H1 (({ s₁.setGen g gs' with heap := h2, toks := tk2 } : Shared).setGen g .running) := inv_gens (s := { s₁ with heap := h2, toks := tk2 }) (g' := ((s₁.setGen g gs').setGen g .running).gens) I2 (allBare_setGen (s := s₁.setGen g gs') (allBare_setGen I.bare hb) rfl)
        obtain ⟨m, hm, hG⟩ := hN _ _ ⟨t2, c2, rfl⟩ I3 nf fun b hbf o e => hk2 b o (fun z => hSf (by rw [← z]; exact hbf)) e
        have hsz1 : g < s₁.gens.size := by
          have q : (s₁.setGen g gs').gens.size = s₁.gens.size := setGen_size _ _ _
          omega
        exact ⟨m, hm, hgo _ (I2.pin (a, go) (List.mem_append_left _ (by rw [hpn]; exact List.mem_singleton.mpr rfl))).1, I2.nolimit, gs', setGen_at (s := s₁) hsz1, hG⟩
      rcases hst2 with rfl | rfl
      · show wpAny _ B.in1 (if (_ : Bool) = true then (mkInt (acc + k) >>= _) else _) _ _ _
        split
        · refine wpAny_bind (wpAny_mkInt ?_)
          refine wpAny_bind ?_
          have hk2 : ∀ b o, b ≠ S → s₁.heap.get? b = some o → (s₁.heap.update S (Obj.mapSeq fun _ => #[Value.int (acc + k) s₁.toks])).get? b = some o := fun b o hb e => (Heap.get?_update_other _ _ (Ne.symm hb)).trans e
          obtain ⟨m, hm, hL⟩ := next _ (s₁.toks + 1) s₁.toks _ hk2 (Heap.get?_update_self (Obj.mapSeq fun _ => #[Value.int (acc + k) s₁.toks]) hS' rfl)
          refine wpAny_updateSeq (s := { s₁.setGen g gs' with toks := s₁.toks + 1 }) hS' rfl (wpAny_pure ⟨plainId_quiet F.plain_sum_loop _, ?_⟩)
          exact ih m (by omega) (acc + k) s₁.toks _ 0 _ (.inl rfl) (Heap.get?_update_self (Obj.mapSeq fun _ => #[Value.int (acc + k) s₁.toks]) hS' rfl) hL
        · refine wpAny_bind (wpAny_rule ?_)
          refine wpAny_bind (wpAny_attempt (wpAny_holding (wpAny_add_int ?_)))
          refine wpAny_bind (wpAny_updateSeq (s := { s₁.setGen g gs' with toks := s₁.toks + 1 }) hS' rfl ?_)
          have hS₂ := Heap.get?_update_self (Obj.mapSeq fun _ => #[Value.int (acc + k) s₁.toks]) hS' rfl
          refine wpAny_bind (wpAny_letGo ?_)
          have hk2 : ∀ b o, b ≠ S → s₁.heap.get? b = some o → ((s₁.heap.update S (Obj.mapSeq fun _ => #[Value.int (acc + k) s₁.toks])).update S (Obj.mapSeq fun _ => #[Value.int (acc + k) s₁.toks])).get? b = some o := fun b o hb e => (Heap.get?_update_other _ _ (Ne.symm hb)).trans ((Heap.get?_update_other _ _ (Ne.symm hb)).trans e)
          obtain ⟨m, hm, hL⟩ := next _ (s₁.toks + 1) s₁.toks _ hk2 (Heap.get?_update_self (Obj.mapSeq fun _ => #[Value.int (acc + k) s₁.toks]) hS₂ rfl)
          refine wpAny_bind (wpAny_updateSeq hS₂ rfl (wpAny_pure ⟨plainId_quiet F.plain_sum_loop _, ?_⟩))
          exact ih m (by omega) (acc + k) s₁.toks _ 2 _ (.inr rfl) (Heap.get?_update_self (Obj.mapSeq fun _ => #[Value.int (acc + k) s₁.toks]) hS₂ rfl) hL
      · show wpAny _ B.in1 ((holding [Value.int k tv] (binaryOp .Add (.int acc t) (.int k tv))).attempt >>= _) _ _ _
        refine wpAny_bind (wpAny_attempt (wpAny_holding (wpAny_add_int ?_)))
        refine wpAny_bind (wpAny_updateSeq (s := { s₁.setGen g gs' with toks := s₁.toks + 1 }) hS' rfl ?_)
        have hS₂ := Heap.get?_update_self (Obj.mapSeq fun _ => #[Value.int (acc + k) s₁.toks]) hS' rfl
        refine wpAny_bind (wpAny_letGo ?_)
        have hk2 : ∀ b o, b ≠ S → s₁.heap.get? b = some o → ((s₁.heap.update S (Obj.mapSeq fun _ => #[Value.int (acc + k) s₁.toks])).update S (Obj.mapSeq fun _ => #[Value.int (acc + k) s₁.toks])).get? b = some o := fun b o hb e => (Heap.get?_update_other _ _ (Ne.symm hb)).trans ((Heap.get?_update_other _ _ (Ne.symm hb)).trans e)
        obtain ⟨m, hm, hL⟩ := next _ (s₁.toks + 1) s₁.toks _ hk2 (Heap.get?_update_self (Obj.mapSeq fun _ => #[Value.int (acc + k) s₁.toks]) hS₂ rfl)
        refine wpAny_bind (wpAny_updateSeq hS₂ rfl (wpAny_pure ⟨plainId_quiet F.plain_sum_loop _, ?_⟩))
        exact ih m (by omega) (acc + k) s₁.toks _ 2 _ (.inr rfl) (Heap.get?_update_self (Obj.mapSeq fun _ => #[Value.int (acc + k) s₁.toks]) hS₂ rfl) hL
end
section
variable {X : Cx} {elt tg iter : Expr} {ifs : List Expr} {scope : Scope} {p pos gpos : Pos} {own : List Str} {caps : List (Str × Nat)} {wi : TI} {gt : TG} {tt : TT} {te : TE} {k : Nat} {c P : Addr}
def tSum (P : Addr) (wi : TI) (gt : TG) (tt : TT) (te : TE) (n : Nat) (is : List Nat) : TE := tGen P wi gt tt te n is (0 : Int) (fun _ => stSum) (fun Q acc H => Q (.int acc) H)
theorem pe_sum (hc : X.calm = true) (hr : Room (k + 1) X.A) (hg : Gl X "sum") (hm : X.mg "sum" = none) (TB : TabB X.base X.mg c P) (hcode : X.env.code = .ref c) (ok : GScp X.N X.env.scope scope own caps) (hi : PI X tg iter wi)
    (hgt : ∀ A s H C cl code fp pn, Room k A → PG (gX X s H (genEnv scope cl C code builtinsNs X.env) (own ++ caps.map (·.1)) fp pn A) tg gt)
    (htt : ∀ A s H C cl code fp pn, Room k A → PTs (gX X s H (genEnv scope cl C code builtinsNs X.env) (own ++ caps.map (·.1)) fp pn A) ifs tt)
    (hte : ∀ A s H C cl code fp pn, Room k A → PE (gX X s H (genEnv scope cl C code builtinsNs X.env) (own ++ caps.map (·.1)) fp pn A) elt te)
    (hs : ∀ v, genFold iter X.env v = pure v := by intro _; rfl)
    (he : starEach [.GeneratorExp elt [⟨tg, iter, ifs, 0⟩] scope gpos] X.env = (false, eval (.GeneratorExp elt [⟨tg, iter, ifs, 0⟩] scope gpos) X.env) :: starEach [] X.env := by rfl) :
    PE X (.Call (.Name "sum" p) [.GeneratorExp elt [⟨tg, iter, ifs, 0⟩] scope gpos] [] pos) (tSum P wi gt tt te own.length (caps.map (·.2))) := by
  refine ⟨fun pins s σ H Q I h => ?_⟩
  refine wpAny_Call_Name_kw (ld_blt I hg hm boot_sum ?_)
  refine PyProof.Rows.callWith_builtin1 ?_ he (by rfl)
  rw [he]
  show wpAny _ _ (spliced ((false, eval (.GeneratorExp elt [⟨tg, iter, ifs, 0⟩] scope gpos) X.env) :: backTo pos (starEach [] X.env))) _ _ s
  refine Calls.spliced_cons (gen_mk (B := X.A.in1.in1) hc hr rfl rfl (by show X.A.units + 1 + 1 ≤ _; omega) rfl TB hcode ok hi hgt htt hte hs I h fun J H2 Xg fp a go g s5 hR M => ?_)
  obtain ⟨W, ⟨m, w0⟩, turn⟩ := hR
  refine Calls.spliced_nil ?_
  refine call_function_tree F.kind_sum F.plain_sum F.entry_sum (F.args_sum1 _) ?_
  unfold Builtin.«sum»
  simp only [List.length_cons, List.length_nil]
  rw [if_neg (by decide)]
  refine wpAny_bind (wpAny_of_eq (show Builtin.Builtins.bindParams "sum" ["start"] 0 { } = pure [none] from rfl) ?_)
  have hgen := M.gen s5.heap (M.inv.pin (a, go) (List.mem_append_left _ (by rw [M.pn]; exact List.mem_singleton.mpr rfl))).1
  refine wpAny_bind (wpAny_pyIter_gen hgen ?_)
  refine wpAny_bind (wpAny_mkInt ?_)
  refine wpAny_bind (wpAny_pure ?_)
  simp only [List.forIn_cons, List.forIn_nil]
  refine wpAny_bind (wpAny_bind (wpAny_bind (wpAny_isInstance (T := "int") (b := false) (typeIs_int _ _ _) PySem.sub_int_str ?_)))
  simp only [Bool.false_eq_true, if_false]
  refine wpAny_pure (wpAny_bind (wpAny_bind (wpAny_isInstance (T := "int") (b := false) (typeIs_int _ _ _) PySem.sub_int_bytes ?_)))
  simp only [Bool.false_eq_true, if_false]
  refine wpAny_pure (wpAny_bind (wpAny_bind (wpAny_isInstance (T := "int") (b := false) (typeIs_int _ _ _) PySem.sub_int_bytearray ?_)))
  simp only [Bool.false_eq_true, if_false]
  refine wpAny_pure (wpAny_pure ?_)
  refine wpAny_bind (wpAny_newObj_type ?_)
  refine wpAny_pure ⟨plainId_quiet F.plain_sum_loop _, ?_⟩
  have hSn : H2 s5.heap.objs.size = none := M.inv.hok.fresh (Nat.le_refl _)
  have kp : ∀ b o, s5.heap.get? b = some o → (s5.heap.push (heldObj 0 s5.toks 0)).get? b = some o := fun b o e => Heap.get?_push_of_some _ e
  have I6 : Inv Xg [(s5.heap.objs.size, heldObj 0 s5.toks 0)] (capt σ own.length (caps.map (·.2))) H2 { s5 with heap := s5.heap.push (heldObj 0 s5.toks 0), toks := s5.toks + 1 } := by
    refine (M.inv.kept (t' := s5.toks + 1) kp).pins_of fun p hp => ?_
    rw [List.mem_singleton.mp hp]
    exact ⟨Heap.get?_push_size _ rfl, hSn, Nat.ne_of_gt M.inv.lt, M.inv.nofs (Nat.le_refl _), fun v q => by cases q⟩
  have hSf : s5.heap.objs.size ∉ fp := fun hm => Nat.lt_irrefl _ (M.sml _ hm)
  have L := M.live (α := Int) (cpS s5.heap.objs.size) stSum (fun acc H => Q (.int acc) H) W m 0 (fun a cp hcp p hp => by
    obtain ⟨t, c, rfl⟩ := hcp
    rw [List.mem_singleton.mp hp]
    exact hSf) stSum_mono turn w0 { s5 with heap := s5.heap.push (heldObj 0 s5.toks 0), toks := s5.toks + 1 } _ ⟨_, _, rfl⟩ I6 rfl kp
  have e1 := M.P
  have e2 := M.w
  have z := code_sum (Xg := Xg) (fp := fp) (QT := fun acc H => Q (.int acc) H) (B := X.A) (go := go) (S := s5.heap.objs.size) (R := fun r s' => ∃ u, r = .ok (.ret u) ∧ EP X pins σ Q u s') hr.hd (by have := hr.dp; omega) M.gen M.pn (Nat.ne_of_lt M.lt) hSf M.low
    (fun s₁ h' acc σ1 H1 t I1 q hk => ⟨_, rfl, .int acc, H1, fin_back M.back I1 rfl hk, ⟨t, rfl⟩, q⟩) (m + 1) 0 s5.toks 0 0 _ (.inl rfl) (Heap.get?_push_size _ rfl) L
  rw [e1, e2] at z
  refine codeAny_mono z fun r s' ⟨u, hu, q⟩ => ?_
  subst hu
  exact q
end
end GX

set_option Elab.async false
set_option linter.all false
set_option maxRecDepth 100000
set_option maxHeartbeats 2000000
/-! What an expression, a statement, a def is worth over plain data, whatever the heap. -/
namespace DN
open PySem PySem.Spec PyProof.Rows L2 GxR GX

/-! ### data -/
inductive D where
  | non | bl (b : Bool) | int (i : Int) | str (s : Str) | lst (ds : List D) | tup (ds : List D)
  /-- an empty dict -/
  | dct
  /-- the script: a list of ints that is only read -/
  | scr (ns : List Int)
mutual
/-- v is d, in what is seen, G -/
def At (K : PySem.W.Frag) (G : Hp) : D → V → Prop
  | .non, v => v = .non
  | .bl b, v => v = .bl b
  | .int i, v => v = .int i
  | .str s, v => v = .str s
  | .lst ds, v => ∃ a xs, v = .ref a ∧ G a = some (.lst xs) ∧ Ats K G ds xs
  | .tup ds, v => ∃ a xs, v = .ref a ∧ G a = some (.tup xs) ∧ Ats K G ds xs
  | .dct, v => ∃ a, v = .ref a ∧ G a = some (.dK [])
  | .scr ns, v => ∃ a, v = .ref a ∧ SqL K G a (ns.map V.int)
def Ats (K : PySem.W.Frag) (G : Hp) : List D → List V → Prop
  | [], xs => xs = []
  | d :: ds, xs => ∃ x r, xs = x :: r ∧ At K G d x ∧ Ats K G ds r
end

/-- what is seen is a part of what is tracked, without tables -/
def Sub (G H : Hp) : Prop := ∀ a o, G a = some o → H a = some o ∧ ∀ ps, o ≠ .tbl ps
/-- later: what stood stands, but for tables, which may have grown -/
structure Ext (L : List Addr) (H H' : Hp) : Prop where
  keep : ∀ a o, H a = some o → (∀ ps, o ≠ .tbl ps) → H' a = some o
  dom : ∀ a, H' a = none → H a = none
  tab : ∀ P ∈ L, TabG H P → TabG H' P
def Tabs (L : List Addr) (H : Hp) : Prop := ∀ P ∈ L, TabG H P
structure Gr (L : List Addr) (G H G' H' : Hp) : Prop where
  sub : Sub G' H'
  up : ∀ a o, G a = some o → G' a = some o
  ext : Ext L H H'
  new : ∀ a, G' a ≠ none → G a ≠ none ∨ H a = none
section
variable {L : List Addr} {G G1 G2 H H1 H2 : Hp} {K : PySem.W.Frag}
theorem Ext.refl : Ext L H H := ⟨fun _ _ h _ => h, fun _ h => h, fun _ _ h => h⟩
theorem Ext.trans (a : Ext L H H1) (b : Ext L H1 H2) : Ext L H H2 := ⟨fun x o h n => b.keep x o (a.keep x o h n) n, fun x h => a.dom x (b.dom x h), fun P m h => b.tab P m (a.tab P m h)⟩
theorem Ext.new {p : Addr} {o : HO} (h : H p = none) : Ext L H (upd H p o) := by
  refine ⟨fun a u e _ => ?_, fun a e => ?_, fun P _ ⟨ps, e, t⟩ => ⟨ps, ?_, t⟩⟩
  · rw [upd_ne (ne_of_none e h)]; exact e
  · by_cases ha : a = p
    · subst ha; exact h
    · rw [upd_ne ha] at e; exact e
  · rw [upd_ne (ne_of_none e h)]; exact e
/-- an object that was not there at H may change -/
theorem Ext.mut {p : Addr} {o : HO} (e : Ext L H H1) (h : H p = none) : Ext L H (upd H1 p o) := by
  refine ⟨fun a u ea n => ?_, fun a ea => ?_, fun P m ⟨ps, ep, t⟩ => ?_⟩
  · rw [upd_ne (ne_of_none ea h)]; exact e.keep a u ea n
  · by_cases ha : a = p
    · subst ha; exact h
    · rw [upd_ne ha] at ea; exact e.dom a ea
  · obtain ⟨ps', e', t'⟩ := e.tab P m ⟨ps, ep, t⟩
    exact ⟨ps', by rw [upd_ne (ne_of_none ep h)]; exact e', t'⟩
theorem Ext.tabbed {P : Addr} (h0 : TabG H P) (h : Tabbed P H H1) : Ext L H H1 := by
  obtain ⟨ps, e0, _⟩ := h0
  refine ⟨fun a o e n => ?_, fun a e => ?_, fun Q _ ⟨qs, e, t⟩ => ?_⟩
  · rw [h.2 a (fun z => by rw [z, e0] at e; cases e; exact n _ rfl)]; exact e
  · by_cases ha : a = P
    · subst ha
      obtain ⟨⟨qs, e1, _⟩, _⟩ := h
      rw [e1] at e; cases e
    · rw [← h.2 a ha]; exact e
  · by_cases hq : Q = P
    · rw [hq]; exact h.1
    · exact ⟨qs, by rw [h.2 Q hq]; exact e, t⟩
theorem Tabs.ext (t : Tabs L H) (e : Ext L H H1) : Tabs L H1 := fun P m => e.tab P m (t P m)
theorem Sub.ext (s : Sub G H) (e : Ext L H H1) : Sub G H1 := fun a o h => ⟨e.keep a o (s a o h).1 (s a o h).2, (s a o h).2⟩
theorem Sub.none (s : Sub G H) {a : Addr} (h : H a = .none) : G a = .none := by
  cases e : G a with
  | none => rfl
  | some o => rw [(s a o e).1] at h; cases h
theorem Gr.of (s : Sub G H) (e : Ext L H H1) : Gr L G H G H1 := ⟨s.ext e, fun _ _ h => h, e, fun _ h => .inl h⟩
theorem Gr.refl (s : Sub G H) : Gr L G H G H := Gr.of s .refl
theorem Gr.trans (a : Gr L G H G1 H1) (b : Gr L G1 H1 G2 H2) : Gr L G H G2 H2 := by
  refine ⟨b.sub, fun x o h => b.up x o (a.up x o h), a.ext.trans b.ext, fun x h => ?_⟩
  rcases b.new x h with z | z
  · exact a.new x z
  · exact .inr (a.ext.dom x z)
theorem Gr.lay {p : Addr} {o : HO} (s : Sub G H) (h : H p = none) (ho : ∀ ps, o ≠ .tbl ps) : Gr L G H (upd G p o) (upd H p o) := by
  refine ⟨fun a u e => ?_, fun a u e => ?_, .new h, fun a e => ?_⟩
  · by_cases ha : a = p
    · subst ha; rw [upd_same] at e ⊢; cases e; exact ⟨rfl, ho⟩
    · rw [upd_ne ha] at e ⊢; exact s a u e
  · rw [upd_ne (ne_of_none (s a u e).1 h)]; exact e
  · by_cases ha : a = p
    · subst ha; exact .inr h
    · rw [upd_ne ha] at e; exact .inl e
mutual
theorem At.mono (u : ∀ a o, G a = some o → G1 a = some o) : ∀ {d : D} {v : V}, At K G d v → At K G1 d v
  | .non, _, h => h
  | .bl _, _, h => h
  | .int _, _, h => h
  | .str _, _, h => h
  | .lst _, _, ⟨a, xs, e, h, t⟩ => ⟨a, xs, e, u _ _ h, Ats.mono u t⟩
  | .tup _, _, ⟨a, xs, e, h, t⟩ => ⟨a, xs, e, u _ _ h, Ats.mono u t⟩
  | .dct, _, ⟨a, e, h⟩ => ⟨a, e, u _ _ h⟩
  | .scr _, _, ⟨a, e, h⟩ => ⟨a, e, by
      rcases h with (h | ⟨o, h⟩) | h
      · exact .inl (.inl (u _ _ h))
      · exact .inl (.inr ⟨o, u _ _ h⟩)
      · exact .inr h⟩
theorem Ats.mono (u : ∀ a o, G a = some o → G1 a = some o) : ∀ {ds : List D} {xs : List V}, Ats K G ds xs → Ats K G1 ds xs
  | [], _, h => h
  | _ :: _, _, ⟨x, r, e, h, t⟩ => ⟨x, r, e, At.mono u h, Ats.mono u t⟩
end
theorem Ats.length : ∀ {ds : List D} {xs : List V}, Ats K G ds xs → xs.length = ds.length
  | [], _, h => by rw [show _ = [] from h]; rfl
  | _ :: _, _, ⟨x, r, e, _, t⟩ => by rw [e, List.length_cons, List.length_cons, Ats.length t]
theorem Ats.get : ∀ {ds : List D} {xs : List V} {i : Nat} {d : D}, Ats K G ds xs → ds[i]? = some d → ∃ x, xs[i]? = some x ∧ At K G d x
  | [], _, _, _, _, e => by simp at e
  | d :: _, _, 0, _, ⟨x, r, e, h, _⟩, q => by
    subst e
    simp only [List.getElem?_cons_zero, Option.some.injEq] at q ⊢
    subst q
    exact ⟨x, rfl, h⟩
  | _ :: _, _, i + 1, _, ⟨x, r, e, _, t⟩, q => by
    subst e
    obtain ⟨y, h1, h2⟩ := Ats.get (i := i) t (by simpa using q)
    exact ⟨y, by simpa using h1, h2⟩
theorem Ats.append : ∀ {ds es : List D} {xs ys : List V}, Ats K G ds xs → Ats K G es ys → Ats K G (ds ++ es) (xs ++ ys)
  | [], _, _, _, h, t => by rw [show _ = [] from h]; exact t
  | _ :: _, _, _, _, ⟨x, r, e, h, t⟩, u => by subst e; exact ⟨x, r ++ _, rfl, h, Ats.append t u⟩
theorem Ats.one {d : D} {x : V} (h : At K G d x) : Ats K G [d] [x] := ⟨x, [], rfl, h, rfl⟩
theorem Ats.take : ∀ {ds : List D} {xs : List V} (n : Nat), Ats K G ds xs → Ats K G (ds.take n) (xs.take n)
  | [], _, n, h => by rw [show _ = [] from h]; simp [Ats]
  | _ :: _, _, 0, _ => rfl
  | _ :: _, _, n + 1, ⟨x, r, e, h, t⟩ => by subst e; exact ⟨x, _, rfl, h, Ats.take n t⟩
theorem Ats.drop : ∀ {ds : List D} {xs : List V} (n : Nat), Ats K G ds xs → Ats K G (ds.drop n) (xs.drop n)
  | [], _, n, h => by rw [show _ = [] from h]; simp [Ats]
  | _ :: _, _, 0, h => h
  | _ :: _, _, n + 1, ⟨x, r, e, h, t⟩ => by subst e; exact Ats.drop n t
theorem Ats.flat {ds : List D} {xs : List V} (h : Ats K G ds xs) : ∀ n, Ats K G (List.replicate n ds).flatten (List.replicate n xs).flatten
  | 0 => rfl
  | n + 1 => by rw [List.replicate_succ, List.replicate_succ, List.flatten_cons, List.flatten_cons]; exact h.append (Ats.flat h n)
theorem ats_ints : ∀ (ns : List Int), Ats K G (ns.map D.int) (ns.map V.int)
  | [] => rfl
  | n :: ns => ⟨.int n, _, rfl, rfl, ats_ints ns⟩
theorem Ats.two {a b : D} {xs : List V} (h : Ats K G [a, b] xs) : ∃ x y, xs = [x, y] ∧ At K G a x ∧ At K G b y := by
  obtain ⟨x, r, rfl, h1, y, r', rfl, h2, h3⟩ := h
  obtain rfl : r' = [] := h3
  exact ⟨x, y, rfl, h1, h2⟩
end

/-! ### the names' values -/
abbrev Env := List (Option D)
abbrev DM := Env → Option D
def Rep (K : PySem.W.Frag) (G : Hp) (σ : L2.St) (ρ : Env) : Prop := σ.length = ρ.length ∧ ∀ (i : Nat) (d : D), ρ[i]? = some (some d) → ∃ v, σ[i]? = some (some v) ∧ At K G d v
theorem Rep.mono {K : PySem.W.Frag} {G G1 : Hp} {σ : L2.St} {ρ : Env} (u : ∀ a o, G a = some o → G1 a = some o) (h : Rep K G σ ρ) : Rep K G1 σ ρ := ⟨h.1, fun i d e => by
  obtain ⟨v, h1, h2⟩ := h.2 i d e
  exact ⟨v, h1, At.mono u h2⟩⟩
theorem Rep.set {K : PySem.W.Frag} {G : Hp} {σ : L2.St} {ρ : Env} {d : D} {v : V} (i : Nat) (h : Rep K G σ ρ) (a : At K G d v) : Rep K G (σ.set i (some v)) (ρ.set i (some d)) := by
  refine ⟨by rw [List.length_set, List.length_set]; exact h.1, fun j e hj => ?_⟩
  by_cases hij : i = j
  · subst hij
    by_cases hl : i < ρ.length
    · rw [List.getElem?_set_self hl] at hj
      cases hj
      exact ⟨v, List.getElem?_set_self (by rw [h.1]; exact hl), a⟩
    · rw [List.getElem?_eq_none (by simpa using Nat.le_of_not_lt hl)] at hj
      cases hj
  · rw [List.getElem?_set_ne hij] at hj ⊢
    exact h.2 j e hj
/-- slots forgotten -/
def wipeD (ρ : Env) : List Nat → Env
  | [] => ρ
  | v :: vs => (wipeD ρ vs).set v none
theorem Rep.unset {K : PySem.W.Frag} {G : Hp} {σ : L2.St} {ρ : Env} (i : Nat) (h : Rep K G σ ρ) : Rep K G (σ.set i none) (ρ.set i none) := by
  refine ⟨by rw [List.length_set, List.length_set]; exact h.1, fun j e hj => ?_⟩
  by_cases hij : i = j
  · subst hij
    by_cases hl : i < ρ.length
    · rw [List.getElem?_set_self hl] at hj
      cases hj
    · rw [List.getElem?_eq_none (by simpa using Nat.le_of_not_lt hl)] at hj
      cases hj
  · rw [List.getElem?_set_ne hij] at hj ⊢
    exact h.2 j e hj
theorem Rep.wipe {K : PySem.W.Frag} {G : Hp} {σ : L2.St} {ρ : Env} (h : Rep K G σ ρ) : ∀ vs, Rep K G (wipe σ vs) (wipeD ρ vs)
  | [] => h
  | v :: vs => (Rep.wipe h vs).unset v
def captD (ρ : Env) (n : Nat) (is : List Nat) : Env := List.replicate n none ++ is.map fun i => (ρ[i]?).getD none
theorem Rep.capt {K : PySem.W.Frag} {G : Hp} {σ : L2.St} {ρ : Env} (h : Rep K G σ ρ) (n : Nat) (is : List Nat) : Rep K G (capt σ n is) (captD ρ n is) := by
  refine ⟨by unfold GX.capt captD; simp, fun i d hi => ?_⟩
  unfold captD at hi
  unfold GX.capt
  by_cases hn : i < n
  · rw [List.getElem?_append_left (by simpa using hn), List.getElem?_replicate, if_pos hn] at hi
    cases hi
  · rw [List.getElem?_append_right (by simpa using Nat.le_of_not_lt hn)] at hi ⊢
    simp only [List.length_replicate, List.getElem?_map] at hi ⊢
    cases e : is[i - n]? with
    | none => rw [e] at hi; cases hi
    | some k =>
      rw [e] at hi
      simp only [Option.map_some, Option.some.injEq] at hi ⊢
      cases q : ρ[k]? with
      | none => rw [q] at hi; cases hi
      | some o =>
        rw [q] at hi
        obtain ⟨v, h1, h2⟩ := h.2 k d (by rw [q]; exact congrArg some hi)
        exact ⟨v, by rw [h1]; rfl, h2⟩

/-! ### expressions -/
theorem _root_.L2.PE.imp {X : Cx} {e : Expr} {t t' : TE} (h : PE X e t) (i : ∀ σ H Q, t' σ H Q → t σ H Q) : PE X e t' := ⟨fun pins s σ H Q I q => h.run pins s σ H Q I (i σ H Q q)⟩
theorem _root_.L2.PT.imp {X : Cx} {e : Expr} {t t' : TT} (h : PT X e t) (i : ∀ σ H Q, t' σ H Q → t σ H Q) : PT X e t' := ⟨fun pins s σ H Q I q => h.run pins s σ H Q I (i σ H Q q)⟩
theorem _root_.L2.PS.imp {X : Cx} {e : Stmt} {t t' : TS} (h : PS X e t) (i : ∀ Dn σ H, t' Dn σ H → t Dn σ H) : PS X e t' := ⟨fun pins s σ H Dn I q => h.run pins s σ H Dn I (i Dn σ H q)⟩
theorem _root_.L2.PSs.imp {X : Cx} {e : List Stmt} {t t' : TS} (h : PSs X e t) (i : ∀ Dn σ H, t' Dn σ H → t Dn σ H) : PSs X e t' := ⟨fun pins s σ H Dn I q => h.run pins s σ H Dn I (i Dn σ H q)⟩
theorem _root_.L2.PI.imp {X : Cx} {tg e : Expr} {t t' : TI} (h : PI X tg e t) (i : ∀ σ H Q, t' σ H Q → t σ H Q) : PI X tg e t' := ⟨fun pins s σ H Q I q => h.run pins s σ H Q I (i σ H Q q)⟩
theorem _root_.L2.PA.imp {X : Cx} {e : List Expr} {t t' : TA} (h : PA X e t) (i : ∀ σ H Q, t' σ H Q → t σ H Q) : PA X e t' := ⟨fun pos pins s σ H Q I q => h.run pos pins s σ H Q I (i σ H Q q)⟩

/-- e is worth m of the names' values -/
def tP (K : PySem.W.Frag) (L : List Addr) (m : DM) : TE := fun σ H Q => ∃ G ρ d, Sub G H ∧ Rep K G σ ρ ∧ Tabs L H ∧ m ρ = some d ∧ ∀ v G' H', Gr L G H G' H' → At K G' d v → Q v H'
def tPT (K : PySem.W.Frag) (L : List Addr) (m : Env → Option Bool) : TT := fun σ H Q => ∃ G ρ b, Sub G H ∧ Rep K G σ ρ ∧ Tabs L H ∧ m ρ = some b ∧ ∀ G' H', Gr L G H G' H' → Q b H'
def tPA (K : PySem.W.Frag) (L : List Addr) (m : Env → Option (List D)) : TA := fun σ H Q => ∃ G ρ ds, Sub G H ∧ Rep K G σ ρ ∧ Tabs L H ∧ m ρ = some ds ∧ ∀ vs G' H', Gr L G H G' H' → Ats K G' ds vs → Q vs H'
def PD (X : Cx) (L : List Addr) (e : Expr) (m : DM) : Prop := PE X e (tP X.K L m)
def PTD (X : Cx) (L : List Addr) (e : Expr) (m : Env → Option Bool) : Prop := PT X e (tPT X.K L m)
def PAD (X : Cx) (L : List Addr) (es : List Expr) (m : Env → Option (List D)) : Prop := PA X es (tPA X.K L m)

/-- the values' combinators -/
def dVar (i : Nat) : DM := fun ρ => (ρ[i]?).join
def dC (d : D) : DM := fun _ => some d
def dBin (g : D → D → Option D) (a b : DM) : DM := fun ρ => (a ρ).bind fun x => (b ρ).bind fun y => g x y
def dUn (g : D → Option D) (a : DM) : DM := fun ρ => (a ρ).bind g
def dNil : Env → Option (List D) := fun _ => some []
def dCons (a : DM) (r : Env → Option (List D)) : Env → Option (List D) := fun ρ => (a ρ).bind fun x => (r ρ).bind fun xs => some (x :: xs)
def dFn (g : List D → Option D) (a : Env → Option (List D)) : DM := fun ρ => (a ρ).bind g
def toB : D → Option Bool
  | .bl b => some b
  | _ => none
def dB (a : DM) : Env → Option Bool := fun ρ => (a ρ).bind toB
def dAnd (a b : DM) : DM := fun ρ => (dB a ρ).bind fun x => if x = true then (dB b ρ).bind fun y => some (.bl y) else some (.bl false)
def dOr (a b : DM) : DM := fun ρ => (dB a ρ).bind fun x => if x = true then some (.bl true) else (dB b ρ).bind fun y => some (.bl y)
def dNot (a : DM) : DM := fun ρ => (dB a ρ).bind fun x => some (.bl (!x))
def dIf (c : Env → Option Bool) (a b : DM) : DM := fun ρ => (c ρ).bind fun x => if x = true then a ρ else b ρ
def tAndD (a b : Env → Option Bool) : Env → Option Bool := fun ρ => (a ρ).bind fun x => if x = true then b ρ else some false
def tOrD (a b : Env → Option Bool) : Env → Option Bool := fun ρ => (a ρ).bind fun x => if x = true then some true else b ρ
def tNotD (a : Env → Option Bool) : Env → Option Bool := fun ρ => (a ρ).bind fun x => some (!x)

section
variable {X : Cx} {L : List Addr} {e a b : Expr} {pos : Pos} {ma mb : DM}
theorem pd_var {i : Nat} {x : Str} (hN : X.N[i]? = some x) (hv : Vis X.env.scope x) (hd : (x == ("__debug__" : Str)) = false := by decide) (hcd : (x == ("__classdict__" : Str)) = false := by decide) : PD X L (.Name x pos) (dVar i) :=
  PE.imp (pe_var hN hv hd hcd) fun σ H Q ⟨G, ρ, d, hs, hr, ht, hm, q⟩ => by
    unfold dVar at hm
    have e : ρ[i]? = some (some d) := by
      cases h : ρ[i]? with
      | none => rw [h] at hm; cases hm
      | some o => rw [h] at hm; exact congrArg some hm
    obtain ⟨v, h1, h2⟩ := hr.2 i d e
    exact ⟨v, h1, q v G H (.refl hs) h2⟩
/-- the name that stands in the i-th slot -/
theorem dv (i : Nat) {x : Str} (hN : X.N[i]? = some x := by rfl) (hv : Vis X.env.scope x := by first | exact Or.inl rfl | exact Or.inr (Or.inl rfl) | exact Or.inr (Or.inr rfl)) (hd : (x == ("__debug__" : Str)) = false := by decide)
    (hcd : (x == ("__classdict__" : Str)) = false := by decide) : PD X L (.Name x pos) (dVar i) := pd_var hN hv hd hcd
theorem pd_int {i : Int} {j : Nat} : PD X L (.Constant (.int i) j pos) (dC (.int i)) := PE.imp pe_int fun σ H Q ⟨G, ρ, d, hs, hr, ht, hm, q⟩ => by cases hm; exact q _ G H (.refl hs) rfl
theorem pd_bl {i : Bool} {j : Nat} : PD X L (.Constant (.bool i) j pos) (dC (.bl i)) := PE.imp pe_bl fun σ H Q ⟨G, ρ, d, hs, hr, ht, hm, q⟩ => by cases hm; exact q _ G H (.refl hs) rfl
theorem pd_str {i : Str} {j : Nat} : PD X L (.Constant (.str i) j pos) (dC (.str i)) := PE.imp pe_str fun σ H Q ⟨G, ρ, d, hs, hr, ht, hm, q⟩ => by cases hm; exact q _ G H (.refl hs) rfl
theorem pd_non {j : Nat} : PD X L (.Constant .none j pos) (dC .non) := PE.imp pe_non fun σ H Q ⟨G, ρ, d, hs, hr, ht, hm, q⟩ => by cases hm; exact q _ G H (.refl hs) rfl
theorem pd_dct : PD X L (.Dict [] [] pos) (dC .dct) := PE.imp pe_dnewK fun σ H Q ⟨G, ρ, d, hs, hr, ht, hm, q⟩ => by
  cases hm
  exact fun p hp => q _ (upd G p (.dK [])) _ (.lay hs hp fun ps z => by cases z) ⟨p, rfl, upd_same⟩
/-- a module's constant int -/
theorem pd_glob {x : Str} {i : Int} (hg : Gl X x) (hm : ∃ t, X.mg x = some (.int i t)) (hd : (x == ("__debug__" : Str)) = false := by decide) : PD X L (.Name x pos) (dC (.int i)) := by
  obtain ⟨t, hm⟩ := hm
  exact PE.imp (pe_glob hg hm (v := .int i) ⟨t, rfl⟩ hd) fun σ H Q ⟨G, ρ, d, hs, hr, ht, hm, q⟩ => by cases hm; exact q _ G H (.refl hs) rfl

/-- a two-place operation by values, over data -/
def OpD (K : PySem.W.Frag) (L : List Addr) (r : R2) (g : D → D → Option D) : Prop :=
  ∀ (G H : Hp) (x y : V) (d1 d2 d : D) (Q : VK), Sub G H → Tabs L H → At K G d1 x → At K G d2 y → g d1 d2 = some d → (∀ v G' H', Gr L G H G' H' → At K G' d v → Q v H') → r x y H Q
theorem tOp_imp {r : R2} {g : D → D → Option D} (hr : OpD X.K L r g) : ∀ σ H Q, tP X.K L (dBin g ma mb) σ H Q → tOp r (tP X.K L ma) (tP X.K L mb) σ H Q := fun σ H Q ⟨G, ρ, d, hs, hR, ht, hm, q⟩ => by
  unfold dBin at hm
  cases h1 : ma ρ with
  | none => rw [h1] at hm; cases hm
  | some d1 =>
    cases h2 : mb ρ with
    | none => rw [h1, h2] at hm; cases hm
    | some d2 =>
      rw [h1, h2] at hm
      exact ⟨G, ρ, d1, hs, hR, ht, h1, fun x G1 H1 g1 a1 => ⟨G1, ρ, d2, g1.sub, hR.mono g1.up, ht.ext g1.ext, h2, fun y G2 H2 g2 a2 =>
        hr G2 H2 x y d1 d2 d Q g2.sub ((ht.ext g1.ext).ext g2.ext) (a1.mono g2.up) a2 hm fun v G3 H3 g3 a3 => q v G3 H3 ((g1.trans g2).trans g3) a3⟩⟩
theorem pd_bin {op : Operator} {r : R2} {g : D → D → Option D} (hr : OpD X.K L r g) (ho : OpR X (binaryOp op) r) (ha : PD X L a ma) (hb : PD X L b mb) : PD X L (.BinOp a op b pos) (dBin g ma mb) :=
  PE.imp (pe_op ho ha hb) (tOp_imp hr)
theorem pd_cmp {op : CmpOp} {r : R2} {g : D → D → Option D} (hr : OpD X.K L r g) (ho : OpR X (compareOp op) r) (hm : behindInMarks op b = false) (ha : PD X L a ma) (hb : PD X L b mb) : PD X L (.Compare a [op] [b] pos) (dBin g ma mb) :=
  PE.imp (pe_cmpR ho ha hb hm) (tOp_imp hr)
theorem pd_ix {r : R2} {g : D → D → Option D} (hr : OpD X.K L r g) (ho : IxR X r) (hs : PlainIx b) (ha : PD X L a ma) (hb : PD X L b mb) : PD X L (.Subscript a b pos) (dBin g ma mb) :=
  PE.imp (pe_ix ho ha hb hs) (tOp_imp hr)
def UnD (K : PySem.W.Frag) (L : List Addr) (r : V → Hp → VK → Prop) (g : D → Option D) : Prop :=
  ∀ (G H : Hp) (x : V) (d1 d : D) (Q : VK), Sub G H → Tabs L H → At K G d1 x → g d1 = some d → (∀ v G' H', Gr L G H G' H' → At K G' d v → Q v H') → r x H Q
theorem pd_un {op : UnaryOp} {r : V → Hp → VK → Prop} {g : D → Option D} (hr : UnD X.K L r g) (ho : UnR X (unaryOp op) r) (ha : PD X L a ma) : PD X L (.UnaryOp op a pos) (dUn g ma) :=
  PE.imp (pe_un ho ha) fun σ H Q ⟨G, ρ, d, hs, hR, ht, hm, q⟩ => by
    unfold dUn at hm
    cases h1 : ma ρ with
    | none => rw [h1] at hm; cases hm
    | some d1 =>
      rw [h1] at hm
      exact ⟨G, ρ, d1, hs, hR, ht, h1, fun x G1 H1 g1 a1 => hr G1 H1 x d1 d Q g1.sub (ht.ext g1.ext) a1 hm fun v G3 H3 g3 a3 => q v G3 H3 (g1.trans g3) a3⟩
/-! argument lists -/
theorem pad_nil : PAD X L [] dNil := PA.imp pa_nil fun σ H Q ⟨G, ρ, ds, hs, hR, ht, hm, q⟩ => by cases hm; exact q [] G H (.refl hs) rfl
theorem pad_cons {es : List Expr} {m : Env → Option (List D)} (ha : PD X L e ma) (hr : PAD X L es m) (hs : starEach (e :: es) X.env = (false, eval e X.env) :: starEach es X.env := by rfl) : PAD X L (e :: es) (dCons ma m) :=
  PA.imp (pa_cons ha hr hs) fun σ H Q ⟨G, ρ, ds, hs, hR, ht, hm, q⟩ => by
    unfold dCons at hm
    cases h1 : ma ρ with
    | none => rw [h1] at hm; cases hm
    | some d1 =>
      cases h2 : m ρ with
      | none => rw [h1, h2] at hm; cases hm
      | some d2 =>
        rw [h1, h2] at hm
        cases hm
        exact ⟨G, ρ, d1, hs, hR, ht, h1, fun x G1 H1 g1 a1 => ⟨G1, ρ, d2, g1.sub, hR.mono g1.up, ht.ext g1.ext, h2, fun xs G2 H2 g2 a2 => q (x :: xs) G2 H2 (g1.trans g2) ⟨x, xs, rfl, a1.mono g2.up, a2⟩⟩⟩
/-- a call by values, over data -/
def CallD (K : PySem.W.Frag) (L : List Addr) (r : List V → Hp → VK → Prop) (g : List D → Option D) : Prop :=
  ∀ (G H : Hp) (xs : List V) (ds : List D) (d : D) (Q : VK), Sub G H → Tabs L H → Ats K G ds xs → g ds = some d → (∀ v G' H', Gr L G H G' H' → At K G' d v → Q v H') → r xs H Q
theorem tA_imp {r : List V → Hp → VK → Prop} {g : List D → Option D} {m : Env → Option (List D)} (hr : CallD X.K L r g) : ∀ σ H Q, tP X.K L (dFn g m) σ H Q → tCB r (tPA X.K L m) σ H Q := fun σ H Q ⟨G, ρ, d, hs, hR, ht, hm, q⟩ => by
  unfold dFn at hm
  cases h1 : m ρ with
  | none => rw [h1] at hm; cases hm
  | some ds =>
    rw [h1] at hm
    exact ⟨G, ρ, ds, hs, hR, ht, h1, fun xs G1 H1 g1 a1 => hr G1 H1 xs ds d Q g1.sub (ht.ext g1.ext) a1 hm fun v G3 H3 g3 a3 => q v G3 H3 (g1.trans g3) a3⟩
theorem pd_callB {x : Str} {id : String} {p : Pos} {es : List Expr} {r : List V → Hp → VK → Prop} {g : List D → Option D} {m : Env → Option (List D)} (hr : CallD X.K L r g) (hc : CallR X (.builtin id) r) (hg : Gl X x) (hm : X.mg x = none) (hv : bootBuiltins x = some (.builtin id)) (ha : PAD X L (e :: es) m) (hn : x ≠ "__name__" := by decide) (hdb : (x == ("__debug__" : Str)) = false := by decide)
    (he : starEach (e :: es) X.env = (false, eval e X.env) :: starEach es X.env := by rfl) (hpl : (backTo pos (starEach es X.env)).any (·.1) = false := by rfl) : PD X L (.Call (.Name x p) (e :: es) [] pos) (dFn g m) :=
  PE.imp (pe_callB hc hg hm hv ha hn hdb he hpl) (tA_imp hr)
theorem pd_callTy {x : Str} {T : String} {p : Pos} {es : List Expr} {r : List V → Hp → VK → Prop} {g : List D → Option D} {m : Env → Option (List D)} (hr : CallD X.K L r g) (hc : CallR X (.type T) r) (hg : Gl X x) (hm : X.mg x = none) (hv : bootBuiltins x = some (.type T)) (ha : PAD X L (e :: es) m) (hn : x ≠ "__name__" := by decide) (hdb : (x == ("__debug__" : Str)) = false := by decide)
    (he : starEach (e :: es) X.env = (false, eval e X.env) :: starEach es X.env := by rfl) (hpl : (backTo pos (starEach es X.env)).any (·.1) = false := by rfl) : PD X L (.Call (.Name x p) (e :: es) [] pos) (dFn g m) :=
  PE.imp (pe_callTy hc hg hm hv ha hn hdb he hpl) (tA_imp hr)
/-- a def's promise over data -/
def spP (K : PySem.W.Frag) (L : List Addr) (n : Nat) (g : List D → Option D) : Sp := fun vs H Q _ => ∃ G ds d, Sub G H ∧ Tabs L H ∧ ds.length = n ∧ Ats K G ds vs ∧ g ds = some d ∧ ∀ v G' H', Gr L G H G' H' → At K G' d v → Q v H'
theorem pd_call {k n : Nat} {f : Addr} {fd : FuncData} {ps : List Str} {g : List D → Option D} {x : Str} {p : Pos} {es : List Expr} {m : Env → Option (List D)} (F : FnOk X.prog X.w X.K X.mg X.base CX0 k f fd ps (spP X.K L n g)) (hr : Room k X.A) (hg : Gl X x) (hm : X.mg x = some (.ref f)) (hk : PySem.W.keepIn X.K (.ref f) = true) (hb : Binds X.K fd ps [])
    (ha : PAD X L (e :: es) m) (hn : ∀ ρ ds, m ρ = some ds → ds.length = n) (hdb : (x == ("__debug__" : Str)) = false := by decide) (he : starEach (e :: es) X.env = (false, eval e X.env) :: starEach es X.env := by rfl) (hpl : (backTo pos (starEach es X.env)).any (·.1) = false := by rfl) :
    PD X L (.Call (.Name x p) (e :: es) [] pos) (dFn g m) :=
  PE.imp (pe_call (dvs := []) (E := E0) F hr hg hm hk hb .nil pass0 ha hdb he hpl) fun σ H Q ⟨G, ρ, d, hs, hR, ht, hmm, q⟩ => by
    unfold dFn at hmm
    cases h1 : m ρ with
    | none => rw [h1] at hmm; cases hmm
    | some ds =>
      rw [h1] at hmm
      refine ⟨G, ρ, ds, hs, hR, ht, h1, fun xs G1 H1 g1 a1 => ?_⟩
      show spP X.K L n g (xs ++ []) H1 Q E0
      rw [List.append_nil]
      exact ⟨G1, ds, d, g1.sub, ht.ext g1.ext, hn ρ ds h1, a1, hmm, fun v G3 H3 g3 a3 => q v G3 H3 (g1.trans g3) a3⟩
theorem pd_lst {es : List Expr} {m : Env → Option (List D)} (ha : PAD X L es m) (hl : ∀ ρ ds, m ρ = some ds → ds.length ≤ sizeLine) : PD X L (.List es pos) (dFn (fun ds => some (.lst ds)) m) :=
  PE.imp (pe_lst ha) fun σ H Q ⟨G, ρ, d, hs, hR, ht, hm, q⟩ => by
    unfold dFn at hm
    cases h1 : m ρ with
    | none => rw [h1] at hm; cases hm
    | some ds =>
      rw [h1] at hm
      cases hm
      exact ⟨G, ρ, ds, hs, hR, ht, h1, fun xs G1 H1 g1 a1 => ⟨by rw [a1.length]; exact hl ρ ds h1, fun p hp => q _ (upd G1 p (.lst xs)) _ (g1.trans (.lay g1.sub hp fun ps z => by cases z)) ⟨p, xs, rfl, upd_same, a1.mono fun a o e => by
        rw [upd_ne (ne_of_none (g1.sub a o e).1 hp)]; exact e⟩⟩⟩
theorem pd_tup {es : List Expr} {k : Nat} {m : Env → Option (List D)} (ha : PAD X L es m) (hl : ∀ ρ ds, m ρ = some ds → ds.length ≤ sizeLine) : PD X L (.Tuple es k pos) (dFn (fun ds => some (.tup ds)) m) :=
  PE.imp (pe_tup ha) fun σ H Q ⟨G, ρ, d, hs, hR, ht, hm, q⟩ => by
    unfold dFn at hm
    cases h1 : m ρ with
    | none => rw [h1] at hm; cases hm
    | some ds =>
      rw [h1] at hm
      cases hm
      exact ⟨G, ρ, ds, hs, hR, ht, h1, fun xs G1 H1 g1 a1 => ⟨by rw [a1.length]; exact hl ρ ds h1, fun p hp => q _ (upd G1 p (.tup xs)) _ (g1.trans (.lay g1.sub hp fun ps z => by cases z)) ⟨p, xs, rfl, upd_same, a1.mono fun a o e => by
        rw [upd_ne (ne_of_none (g1.sub a o e).1 hp)]; exact e⟩⟩⟩
theorem len0 : ∀ (ρ : Env) (ds : List D), dNil ρ = some ds → ds.length = 0 := fun ρ ds h => by cases h; rfl
theorem lenS {n : Nat} {m : Env → Option (List D)} (h : ∀ ρ ds, m ρ = some ds → ds.length = n) : ∀ (ρ : Env) (ds : List D), dCons ma m ρ = some ds → ds.length = n + 1 := fun ρ ds e => by
  unfold dCons at e
  cases h1 : ma ρ with
  | none => rw [h1] at e; cases e
  | some d1 =>
    cases h2 : m ρ with
    | none => rw [h1, h2] at e; cases e
    | some d2 =>
      rw [h1, h2] at e
      cases e
      rw [List.length_cons, h ρ d2 h2]
theorem lenL {n : Nat} {m : Env → Option (List D)} (h : ∀ ρ ds, m ρ = some ds → ds.length = n) (hn : n ≤ 1000) : ∀ (ρ : Env) (ds : List D), m ρ = some ds → ds.length ≤ sizeLine := fun ρ ds e => by
  rw [h ρ ds e]; exact Nat.le_trans hn (by decide)
/-! and, or, not, conditional, tests -/
theorem at_b {G : Hp} {d : D} {v : V} {k : Bool} (h : toB d = some k) (a : At X.K G d v) : v = .bl k := by
  cases d <;> simp only [toB, Option.some.injEq, reduceCtorEq] at h
  subst h
  exact a
theorem tP_b {K : PySem.W.Frag} {σ : L2.St} {G H : Hp} {ρ : Env} {k : Bool} {Q : VK} (hs : Sub G H) (hR : Rep K G σ ρ) (ht : Tabs L H) (h : dB ma ρ = some k) (q : ∀ G' H', Gr L G H G' H' → Q (.bl k) H') : tP K L ma σ H Q := by
  unfold dB at h
  cases h1 : ma ρ with
  | none => rw [h1] at h; cases h
  | some d =>
    rw [h1] at h
    have h : toB d = some k := h
    refine ⟨G, ρ, d, hs, hR, ht, h1, fun v G1 H1 g1 a1 => ?_⟩
    cases d <;> simp only [toB, Option.some.injEq, reduceCtorEq] at h
    subst h
    cases (show v = .bl _ from a1)
    exact q G1 H1 g1
theorem pd_one {op : PySem.BoolOp} (ha : PD X L a ma) : PD X L (.BoolOp op [a] pos) ma := pe_one ha
theorem pd_and {rest : List Expr} (ha : PD X L a ma) (hb : PD X L (.BoolOp .And (b :: rest) pos) mb) : PD X L (.BoolOp .And (a :: b :: rest) pos) (dAnd ma mb) :=
  PE.imp (pe_and ha hb) fun σ H Q ⟨G, ρ, d, hs, hR, ht, hm, q⟩ => by
    unfold dAnd at hm
    cases h1 : dB ma ρ with
    | none => rw [h1] at hm; cases hm
    | some k =>
      rw [h1] at hm
      refine tP_b hs hR ht h1 fun G1 H1 g1 => ⟨k, rfl, ?_⟩
      cases k with
      | false => cases hm; exact q _ G1 H1 g1 rfl
      | true =>
        cases h2 : dB mb ρ with
        | none => simp [h2] at hm
        | some j =>
          simp only [h2, Option.bind_some, if_true, Option.some.injEq] at hm
          subst hm
          exact tP_b g1.sub (hR.mono g1.up) (ht.ext g1.ext) h2 fun G2 H2 g2 => q _ G2 H2 (g1.trans g2) rfl
theorem pd_or {rest : List Expr} (ha : PD X L a ma) (hb : PD X L (.BoolOp .Or (b :: rest) pos) mb) : PD X L (.BoolOp .Or (a :: b :: rest) pos) (dOr ma mb) :=
  PE.imp (pe_or ha hb) fun σ H Q ⟨G, ρ, d, hs, hR, ht, hm, q⟩ => by
    unfold dOr at hm
    cases h1 : dB ma ρ with
    | none => rw [h1] at hm; cases hm
    | some k =>
      rw [h1] at hm
      refine tP_b hs hR ht h1 fun G1 H1 g1 => ⟨k, rfl, ?_⟩
      cases k with
      | true => cases hm; exact q _ G1 H1 g1 rfl
      | false =>
        cases h2 : dB mb ρ with
        | none => simp [h2] at hm
        | some j =>
          simp only [h2, Option.bind_some, Bool.false_eq_true, if_false, Option.some.injEq] at hm
          subst hm
          exact tP_b g1.sub (hR.mono g1.up) (ht.ext g1.ext) h2 fun G2 H2 g2 => q _ G2 H2 (g1.trans g2) rfl
theorem pd_not (ha : PD X L a ma) : PD X L (.UnaryOp .Not a pos) (dNot ma) :=
  PE.imp (pe_not ha) fun σ H Q ⟨G, ρ, d, hs, hR, ht, hm, q⟩ => by
    unfold dNot at hm
    cases h1 : dB ma ρ with
    | none => rw [h1] at hm; cases hm
    | some k =>
      rw [h1] at hm
      cases hm
      exact tP_b hs hR ht h1 fun G1 H1 g1 => ⟨k, rfl, q _ G1 H1 g1 rfl⟩
theorem ptd_val (h : PD X L e ma) (he : ∀ whole, isTrue e X.env whole = (do let v ← whole; standAt e.pos; holding [v] (truthy v)) := by intro _; rfl) : PTD X L e (dB ma) :=
  PT.imp (pt_val h he) fun σ H Q ⟨G, ρ, k, hs, hR, ht, hm, q⟩ => tP_b hs hR ht hm fun G1 H1 g1 => ⟨k, rfl, q G1 H1 g1⟩
theorem ptd_cmp {op : CmpOp} {r : R2} {g : D → D → Option D} (hr : OpD X.K L r g) (ho : OpR X (compareOp op) r) (hm : behindInMarks op b = false) (ha : PD X L a ma) (hb : PD X L b mb) : PTD X L (.Compare a [op] [b] pos) (dB (dBin g ma mb)) :=
  PT.imp (pt_cmpR ho ha hb hm) fun σ H Q ⟨G, ρ, k, hs, hR, ht, hmm, q⟩ => tOp_imp hr σ H _ (tP_b hs hR ht hmm fun G1 H1 g1 => ⟨k, rfl, q G1 H1 g1⟩)
variable {ta tb : _root_.DN.Env → Option Bool}
theorem ptd_not (h : PTD X L a ta) : PTD X L (.UnaryOp .Not a pos) (tNotD ta) :=
  PT.imp (pt_not h) fun σ H Q ⟨G, ρ, k, hs, hR, ht, hm, q⟩ => by
    unfold tNotD at hm
    cases h1 : ta ρ with
    | none => rw [h1] at hm; cases hm
    | some j =>
      rw [h1] at hm
      cases hm
      exact ⟨G, ρ, j, hs, hR, ht, h1, fun G1 H1 g1 => q G1 H1 g1⟩
/-- a test whatever its whole is -/
def PWD (X : Cx) (L : List Addr) (e : Expr) (m : _root_.DN.Env → Option Bool) : Prop := PW X e (tPT X.K L m)
theorem _root_.L2.PW.imp {X : Cx} {e : Expr} {t t' : TT} (h : PW X e t) (i : ∀ σ H Q, t' σ H Q → t σ H Q) : PW X e t' := ⟨fun wh pins s σ H Q I q => h.run wh pins s σ H Q I (i σ H Q q)⟩
theorem pwd_and1 (h : PTD X L a ta) : PWD X L (.BoolOp .And [a] pos) ta := pw_and1 h
theorem pwd_or1 (h : PTD X L a ta) : PWD X L (.BoolOp .Or [a] pos) ta := pw_or1 h
theorem pwd_and {rest : List Expr} (ha : PTD X L a ta) (hb : PWD X L (.BoolOp .And (b :: rest) pos) tb) : PWD X L (.BoolOp .And (a :: b :: rest) pos) (tAndD ta tb) :=
  PW.imp (pw_and ha hb) fun σ H Q ⟨G, ρ, k, hs, hR, ht, hm, q⟩ => by
    unfold tAndD at hm
    cases h1 : ta ρ with
    | none => rw [h1] at hm; cases hm
    | some j =>
      rw [h1] at hm
      refine ⟨G, ρ, j, hs, hR, ht, h1, fun G1 H1 g1 => ?_⟩
      cases j with
      | false => cases hm; exact q G1 H1 g1
      | true => exact ⟨G1, ρ, k, g1.sub, hR.mono g1.up, ht.ext g1.ext, hm, fun G2 H2 g2 => q G2 H2 (g1.trans g2)⟩
theorem pwd_or {rest : List Expr} (ha : PTD X L a ta) (hb : PWD X L (.BoolOp .Or (b :: rest) pos) tb) : PWD X L (.BoolOp .Or (a :: b :: rest) pos) (tOrD ta tb) :=
  PW.imp (pw_or ha hb) fun σ H Q ⟨G, ρ, k, hs, hR, ht, hm, q⟩ => by
    unfold tOrD at hm
    cases h1 : ta ρ with
    | none => rw [h1] at hm; cases hm
    | some j =>
      rw [h1] at hm
      refine ⟨G, ρ, j, hs, hR, ht, h1, fun G1 H1 g1 => ?_⟩
      cases j with
      | true => cases hm; exact q G1 H1 g1
      | false => exact ⟨G1, ρ, k, g1.sub, hR.mono g1.up, ht.ext g1.ext, hm, fun G2 H2 g2 => q G2 H2 (g1.trans g2)⟩
theorem ptd_w (h : PWD X L e ta) : PTD X L e ta := h.pt
theorem pd_ifExp {c : Expr} (hc : PTD X L c ta) (ha : PD X L a ma) (hb : PD X L b mb) : PD X L (.IfExp c a b pos) (dIf ta ma mb) :=
  PE.imp (pe_ifExp hc ha hb) fun σ H Q ⟨G, ρ, d, hs, hR, ht, hm, q⟩ => by
    unfold dIf at hm
    cases h1 : ta ρ with
    | none => rw [h1] at hm; cases hm
    | some j =>
      rw [h1] at hm
      refine ⟨G, ρ, j, hs, hR, ht, h1, fun G1 H1 g1 => ?_⟩
      cases j with
      | true => exact ⟨G1, ρ, d, g1.sub, hR.mono g1.up, ht.ext g1.ext, hm, fun v G2 H2 g2 a2 => q v G2 H2 (g1.trans g2) a2⟩
      | false => exact ⟨G1, ρ, d, g1.sub, hR.mono g1.up, ht.ext g1.ext, hm, fun v G2 H2 g2 a2 => q v G2 H2 (g1.trans g2) a2⟩
end
end DN

set_option Elab.async false
set_option linter.all false
set_option maxRecDepth 100000
set_option maxHeartbeats 2000000
/-! The operators over plain data. -/
namespace DN
open PySem PySem.Spec PyProof.Rows L2 GxR GX
theorem opR_or {X : Cx} {f : Value → Value → Sem Value} {r r' : R2} (h : OpR X f r) (h' : OpR X f r') : OpR X f (fun x y H Q => r x y H Q ∨ r' x y H Q) := fun pins s σ H x y v u Q I rx ry hh =>
  hh.elim (fun z => h pins s σ H x y v u Q I rx ry z) fun z => h' pins s σ H x y v u Q I rx ry z
theorem callR_or {X : Cx} {f : Value} {r r' : List V → Hp → VK → Prop} (h : CallR X f r) (h' : CallR X f r') : CallR X f (fun xs H Q => r xs H Q ∨ r' xs H Q) := fun pins s σ H xs us Q I rv hh =>
  hh.elim (fun z => h pins s σ H xs us Q I rv z) fun z => h' pins s σ H xs us Q I rv z
/-! + - * // percent ** and minus -/
def rStr2 : R2 := fun x y H Q => ∃ i j, x = .str i ∧ y = .str j ∧ i.length + j.length ≤ sizeLine ∧ Q (.str (i ++ j)) H
def gAdd : D → D → Option D
  | .int i, .int j => some (.int (i + j))
  | .lst a, .lst b => if a.length + b.length ≤ 1000000 then some (.lst (a ++ b)) else none
  | .str a, .str b => if a.length + b.length ≤ 1000000 then some (.str (a ++ b)) else none
  | _, _ => none
def rAdd : R2 := fun x y H Q => rI0 (fun i j => .int (i + j)) x y H Q ∨ (rCat x y H Q ∨ rStr2 x y H Q)
theorem op_addD {X : Cx} : OpR X (binaryOp .Add) rAdd := opR_or op_add (opR_or op_cat op_add_str)
section
variable {K : PySem.W.Frag} {L : List Addr}
theorem line_of {n : Nat} (h : n ≤ 1000000) : n ≤ sizeLine := Nat.le_trans h (by decide)
theorem dAdd : OpD K L rAdd gAdd := fun G H x y d1 d2 d Q hs ht a1 a2 hg q => by
  cases d1 <;> cases d2 <;> simp only [gAdd, reduceCtorEq, Option.some.injEq, Option.ite_none_right_eq_some] at hg
  · subst hg
    exact .inl ⟨_, _, a1, a2, q _ G H (.refl hs) rfl⟩
  · obtain ⟨hl, rfl⟩ := hg
    exact .inr (.inr ⟨_, _, a1, a2, line_of hl, q _ G H (.refl hs) rfl⟩)
  · obtain ⟨hl, rfl⟩ := hg
    obtain ⟨p, xs, rfl, h1, t1⟩ := a1
    obtain ⟨p', ys, rfl, h2, t2⟩ := a2
    refine .inr (.inl ⟨p, p', xs, ys, rfl, rfl, (hs _ _ h1).1, (hs _ _ h2).1, by rw [t1.length, t2.length]; exact line_of hl, fun z hz => q _ (upd G z (.lst (xs ++ ys))) _ (.lay hs hz fun ps e => by cases e) ⟨z, _, rfl, upd_same, ?_⟩⟩)
    exact (t1.append t2).mono fun a o e => by rw [upd_ne (ne_of_none (hs a o e).1 hz)]; exact e
def gSub : D → D → Option D
  | .int i, .int j => some (.int (i - j))
  | _, _ => none
theorem dSub : OpD K L (rI0 fun i j => .int (i - j)) gSub := fun G H x y d1 d2 d Q hs ht a1 a2 hg q => by
  cases d1 <;> cases d2 <;> simp only [gSub, reduceCtorEq, Option.some.injEq] at hg
  subst hg
  exact ⟨_, _, a1, a2, q _ G H (.refl hs) rfl⟩
def mulOk (i j : Int) : Bool := decide (i.natAbs < 18446744073709551616) || decide (j.natAbs < 18446744073709551616) || decide (i.natAbs.log2 + j.natAbs.log2 < 1000000)
def rMulS : R2 := fun x y H Q => ∃ z n, x = .str z ∧ y = .int n ∧ ((n = 0 ∧ Q (.str Str.empty) H) ∨ (n = 1 ∧ Q (.str z) H))
theorem op_mulS {X : Cx} : OpR X (binaryOp .Mult) rMulS := fun pins s σ H x y v u Q I rx ry h => by
  obtain ⟨z, n, rfl, rfl, h⟩ := h
  obtain ⟨t, rfl⟩ := rx
  obtain ⟨tu, rfl⟩ := ry
  rcases h with ⟨rfl, q⟩ | ⟨rfl, q⟩
  · exact PySem.P.mul_str_none (by decide) (by decide) ⟨.str Str.empty, H, I.tok _, ⟨_, rfl⟩, q⟩
  · refine PySem.P.mul_str (by decide) (fun _ h => by simp at h) (fun _ h => by simp at h) ?_
    rw [if_neg (by decide), if_pos (by simp)]
    exact ⟨.str z, H, I, ⟨_, rfl⟩, q⟩
def gMul : D → D → Option D
  | .int i, .int j => if mulOk i j = true then some (.int (i * j)) else none
  | .lst a, .int k => if k < 1000 ∧ -1000 < k ∧ a.length * k.toNat ≤ 1000000 then some (.lst (List.replicate k.toNat a).flatten) else none
  | .str z, .int n => if n = 0 then some (.str Str.empty) else if n = 1 then some (.str z) else none
  | _, _ => none
def rMulD : R2 := fun x y H Q => (rI CMul (fun i j => .int (i * j)) x y H Q ∨ rI CMulW (fun i j => .int (i * j)) x y H Q) ∨ (rRep x y H Q ∨ rMulS x y H Q)
theorem op_mulD {X : Cx} : OpR X (binaryOp .Mult) rMulD := opR_or (opR_or op_mul op_mulW) (opR_or op_rep op_mulS)
theorem small64 {i : Int} (h : i.natAbs < 18446744073709551616) : -(2 ^ 64) < i ∧ i < 2 ^ 64 := by
  constructor <;> omega
theorem dMul : OpD K L rMulD gMul := fun G H x y d1 d2 d Q hs ht a1 a2 hg q => by
  cases d1 <;> cases d2 <;> simp only [gMul, reduceCtorEq, Option.some.injEq, Option.ite_none_right_eq_some] at hg
  · rename_i i j
    obtain ⟨hl, rfl⟩ := hg
    unfold mulOk at hl
    simp only [Bool.or_eq_true, decide_eq_true_eq] at hl
    rcases hl with (h | h) | h
    · exact .inl (.inl ⟨_, _, a1, a2, .inl (small64 h), q _ G H (.refl hs) rfl⟩)
    · exact .inl (.inl ⟨_, _, a1, a2, .inr (small64 h), q _ G H (.refl hs) rfl⟩)
    · exact .inl (.inr ⟨_, _, a1, a2, h, q _ G H (.refl hs) rfl⟩)
  · rename_i z n
    refine .inr (.inr ⟨z, n, a1, a2, ?_⟩)
    by_cases h0 : n = 0
    · rw [if_pos h0] at hg
      cases hg
      exact .inl ⟨h0, q _ G H (.refl hs) rfl⟩
    · rw [if_neg h0] at hg
      by_cases h1 : n = 1
      · rw [if_pos h1] at hg
        cases hg
        exact .inr ⟨h1, q _ G H (.refl hs) rfl⟩
      · rw [if_neg h1] at hg
        cases hg
  · rename_i ds k
    obtain ⟨⟨hk1, hk2, hl⟩, rfl⟩ := hg
    obtain ⟨p, xs, rfl, h1, t1⟩ := a1
    refine .inr (.inl ⟨p, k, xs, rfl, a2, (hs _ _ h1).1, by omega, by omega, by rw [t1.length]; exact line_of hl, fun z hz => q _ (upd G z (.lst _)) _ (.lay hs hz fun ps e => by cases e) ⟨z, _, rfl, upd_same, ?_⟩⟩)
    exact (t1.flat _).mono fun a o e => by rw [upd_ne (ne_of_none (hs a o e).1 hz)]; exact e
def gFdiv : D → D → Option D
  | .int i, .int j => if 0 < j ∧ j.natAbs.log2 < 9000 then some (.int (i / j)) else none
  | _, _ => none
theorem dFdiv : OpD K L (rI CDivW fun i j => .int (i / j)) gFdiv := fun G H x y d1 d2 d Q hs ht a1 a2 hg q => by
  cases d1 <;> cases d2 <;> simp only [gFdiv, reduceCtorEq, Option.some.injEq, Option.ite_none_right_eq_some] at hg
  obtain ⟨hl, rfl⟩ := hg
  exact ⟨_, _, a1, a2, hl, q _ G H (.refl hs) rfl⟩
def gMod : D → D → Option D
  | .int i, .int j => if 0 < j then some (.int (i % j)) else none
  | _, _ => none
theorem dMod : OpD K L (rI (fun _ j => 0 < j) fun i j => .int (i % j)) gMod := fun G H x y d1 d2 d Q hs ht a1 a2 hg q => by
  cases d1 <;> cases d2 <;> simp only [gMod, reduceCtorEq, Option.some.injEq, Option.ite_none_right_eq_some] at hg
  obtain ⟨hl, rfl⟩ := hg
  exact ⟨_, _, a1, a2, hl, q _ G H (.refl hs) rfl⟩
def gPow : D → D → Option D
  | .int i, .int j => if 0 ≤ j ∧ j ≤ 1000000 ∧ i.natAbs < 2 ^ 64 then some (.int (i ^ j.toNat)) else none
  | _, _ => none
theorem dPow : OpD K L (rI CPow fun i j => .int (i ^ j.toNat)) gPow := fun G H x y d1 d2 d Q hs ht a1 a2 hg q => by
  cases d1 <;> cases d2 <;> simp only [gPow, reduceCtorEq, Option.some.injEq, Option.ite_none_right_eq_some] at hg
  obtain ⟨hl, rfl⟩ := hg
  exact ⟨_, _, a1, a2, hl, q _ G H (.refl hs) rfl⟩
def gNeg : D → Option D
  | .int i => some (.int (-i))
  | _ => none
theorem dNeg : UnD K L (rU fun i => .int (-i)) gNeg := fun G H x d1 d Q hs ht a1 hg q => by
  cases d1 <;> simp only [gNeg, reduceCtorEq, Option.some.injEq] at hg
  subst hg
  exact ⟨_, a1, q _ G H (.refl hs) rfl⟩
/-! comparisons of ints -/
def gI (p : Int → Int → Bool) : D → D → Option D
  | .int i, .int j => some (.bl (p i j))
  | _, _ => none
theorem dI {p : Int → Int → Bool} : OpD K L (rI0 fun i j => .bl (p i j)) (gI p) := fun G H x y d1 d2 d Q hs ht a1 a2 hg q => by
  cases d1 <;> cases d2 <;> simp only [gI, reduceCtorEq, Option.some.injEq] at hg
  subst hg
  exact ⟨_, _, a1, a2, q _ G H (.refl hs) rfl⟩
def pLt (i j : Int) : Bool := decide (i < j)
def pLe (i j : Int) : Bool := decide (i ≤ j)
def pGt (i j : Int) : Bool := decide (j < i)
def pGe (i j : Int) : Bool := decide (j ≤ i)
/-! == and != of data -/
mutual
def toPy : D → Option PyData
  | .non => some .none
  | .bl b => some (.bool b)
  | .int i => some (.int i)
  | .str s => some (.str s)
  | .lst ds => (toPys ds).map .list
  | .tup ds => (toPys ds).map .tuple
  | .dct => none
  | .scr _ => none
def toPys : List D → Option (List PyData)
  | [] => some []
  | d :: ds => (toPy d).bind fun p => (toPys ds).bind fun ps => some (p :: ps)
end
mutual
theorem dp_of {G H : Hp} (hs : Sub G H) : ∀ {d : D} {p : PyData} {v : V}, toPy d = some p → At K G d v → Dp K H v p
  | .non, p, v, h, a => by cases h; cases (show v = _ from a); exact .non
  | .bl b, p, v, h, a => by cases h; cases (show v = _ from a); exact .bl b
  | .int b, p, v, h, a => by cases h; cases (show v = _ from a); exact .int b
  | .str b, p, v, h, a => by cases h; cases (show v = _ from a); exact .str b
  | .lst ds, p, v, h, ⟨a, xs, e, h1, t⟩ => by
    unfold toPy at h
    cases q : toPys ds with
    | none => rw [q] at h; cases h
    | some ps =>
      rw [q] at h
      cases h
      subst e
      exact .lst (SqL.of (hs _ _ h1).1) (dps_of hs q t)
  | .tup ds, p, v, h, ⟨a, xs, e, h1, t⟩ => by
    unfold toPy at h
    cases q : toPys ds with
    | none => rw [q] at h; cases h
    | some ps =>
      rw [q] at h
      cases h
      subst e
      exact .tup (SqT.of (hs _ _ h1).1) (dps_of hs q t)
theorem dps_of {G H : Hp} (hs : Sub G H) : ∀ {ds : List D} {ps : List PyData} {xs : List V}, toPys ds = some ps → Ats K G ds xs → DpAll K H xs ps
  | [], ps, xs, h, a => by cases h; rw [show xs = [] from a]; exact .nil
  | d :: ds, ps, xs, h, ⟨x, r, e, h1, t⟩ => by
    unfold toPys at h
    cases q1 : toPy d with
    | none => rw [q1] at h; cases h
    | some p =>
      cases q2 : toPys ds with
      | none => rw [q1, q2] at h; cases h
      | some ps' =>
        rw [q1, q2] at h
        cases h
        subst e
        exact .cons (dp_of hs q1 h1) (dps_of hs q2 t)
end
def gEqv (neg : Bool) (d e : D) : Option D := (toPy d).bind fun p => (toPy e).bind fun q => if SeqAt.shaped p = true ∧ SeqAt.shaped q = true then some (.bl (if neg = true then !PyData.eqv p q else PyData.eqv p q)) else none
theorem dEq : OpD K L (rEqD K) (gEqv false) := fun G H x y d1 d2 d Q hs ht a1 a2 hg q => by
  unfold gEqv at hg
  cases h1 : toPy d1 with
  | none => rw [h1] at hg; cases hg
  | some p1 =>
    cases h2 : toPy d2 with
    | none => rw [h1, h2] at hg; cases hg
    | some p2 =>
      rw [h1, h2] at hg
      simp only [Option.bind_some, Option.ite_none_right_eq_some, Option.some.injEq, Bool.false_eq_true, if_false] at hg
      obtain ⟨⟨s1, s2⟩, rfl⟩ := hg
      exact ⟨p1, p2, dp_of hs h1 a1, dp_of hs h2 a2, s1, s2, q _ G H (.refl hs) rfl⟩
theorem dNe : OpD K L (rNeD K) (gEqv true) := fun G H x y d1 d2 d Q hs ht a1 a2 hg q => by
  unfold gEqv at hg
  cases h1 : toPy d1 with
  | none => rw [h1] at hg; cases hg
  | some p1 =>
    cases h2 : toPy d2 with
    | none => rw [h1, h2] at hg; cases hg
    | some p2 =>
      rw [h1, h2] at hg
      simp only [Option.bind_some, Option.ite_none_right_eq_some, Option.some.injEq, if_true] at hg
      obtain ⟨⟨s1, s2⟩, rfl⟩ := hg
      exact ⟨p1, p2, dp_of hs h1 a1, dp_of hs h2 a2, s1, s2, q _ G H (.refl hs) rfl⟩
/-! is None -/
def gIsN (neg : Bool) : D → D → Option D
  | .non, .non => some (.bl (!neg))
  | _, .non => some (.bl neg)
  | _, _ => none
def isNon : D → Bool
  | .non => true
  | _ => false
theorem non_iff {G : Hp} {d : D} {v : V} (a : At K G d v) : decide (v = .non) = isNon d := by
  cases d with
  | non => rw [show v = .non from a]; rfl
  | bl b => rw [show v = .bl b from a]; rfl
  | int b => rw [show v = .int b from a]; rfl
  | str b => rw [show v = .str b from a]; exact decide_eq_false (by intro z; cases z)
  | lst ds => obtain ⟨a, xs, rfl, _⟩ := a; exact decide_eq_false (by intro z; cases z)
  | tup ds => obtain ⟨a, xs, rfl, _⟩ := a; exact decide_eq_false (by intro z; cases z)
  | dct => obtain ⟨a, rfl, _⟩ := a; exact decide_eq_false (by intro z; cases z)
  | scr ns => obtain ⟨a, rfl, _⟩ := a; exact decide_eq_false (by intro z; cases z)
theorem dIsN : OpD K L (fun x y H Q => y = .non ∧ Q (.bl (decide (x = .non))) H) (gIsN false) := fun G H x y d1 d2 d Q hs ht a1 a2 hg q => by
  cases d2 with
  | non =>
    refine ⟨a2, ?_⟩
    rw [non_iff a1]
    cases d1 <;> cases hg <;> exact q _ G H (.refl hs) rfl
  | _ => cases d1 <;> cases hg
theorem dNotN : OpD K L (fun x y H Q => y = .non ∧ Q (.bl (!decide (x = .non))) H) (gIsN true) := fun G H x y d1 d2 d Q hs ht a1 a2 hg q => by
  cases d2 with
  | non =>
    refine ⟨a2, ?_⟩
    rw [non_iff a1]
    cases d1 <;> cases hg <;> exact q _ G H (.refl hs) rfl
  | _ => cases d1 <;> cases hg
/-! items -/
def gIx : D → D → Option D
  | .lst ds, .int i => atI ds i
  | .tup ds, .int i => atI ds i
  | .scr ns, .int i => (atI ns i).map .int
  | _, _ => none
def rIxD (K : PySem.W.Frag) : R2 := fun x y H Q => rIxL K x y H Q ∨ rIxT K x y H Q
theorem ixR_or {X : Cx} {r r' : R2} (h : IxR X r) (h' : IxR X r') : IxR X (fun x y H Q => r x y H Q ∨ r' x y H Q) := fun a b pins s σ H x y v u Q I rx ry hh hp =>
  hh.elim (fun z => h a b pins s σ H x y v u Q I rx ry z hp) fun z => h' a b pins s σ H x y v u Q I rx ry z hp
theorem ix_D {X : Cx} : IxR X (rIxD X.K) := ixR_or ix_list ix_tup
theorem Ats.atI {G : Hp} {ds : List D} {xs : List V} {i : Int} {d : D} (t : Ats K G ds xs) (h : L2.atI ds i = some d) : ∃ x, L2.atI xs i = some x ∧ At K G d x := by
  unfold L2.atI at h ⊢
  rw [t.length]
  cases q : ixN ds.length i with
  | none => rw [q] at h; cases h
  | some j =>
    rw [q] at h
    exact t.get h
theorem dIx : OpD K L (rIxD K) gIx := fun G H x y d1 d2 d Q hs ht a1 a2 hg q => by
  cases d1 <;> cases d2 <;> simp only [gIx, reduceCtorEq] at hg
  · obtain ⟨p, xs, rfl, h1, t1⟩ := a1
    obtain ⟨v, hv, av⟩ := t1.atI hg
    exact .inl ⟨p, xs, _, v, rfl, a2, SqL.of (hs _ _ h1).1, hv, q v G H (.refl hs) av⟩
  · obtain ⟨p, xs, rfl, h1, t1⟩ := a1
    obtain ⟨v, hv, av⟩ := t1.atI hg
    exact .inr ⟨p, xs, _, v, rfl, a2, SqT.of (hs _ _ h1).1, hv, q v G H (.refl hs) av⟩
  · rename_i ns i
    obtain ⟨p, rfl, h1⟩ := a1
    cases e : L2.atI ns i with
    | none => rw [e] at hg; cases hg
    | some n =>
      rw [e] at hg
      cases hg
      have h2 : SqL K H p (ns.map V.int) := by
        rcases h1 with (h | ⟨o, h⟩) | h
        · exact .inl (.inl (hs _ _ h).1)
        · exact .inl (.inr ⟨o, (hs _ _ h).1⟩)
        · exact .inr h
      refine .inl ⟨p, ns.map V.int, i, .int n, rfl, a2, h2, ?_, q _ G H (.refl hs) rfl⟩
      unfold L2.atI at e ⊢
      rw [List.length_map]
      cases z : ixN ns.length i with
      | none => rw [z] at e; cases e
      | some j =>
        rw [z] at e
        show (ns.map V.int)[j]? = _
        rw [List.getElem?_map, show ns[j]? = some n from e]
        rfl
/-! calls by values -/
theorem scr_read {G H : Hp} {p : Addr} {ns : List Int} (hs : Sub G H) (h1 : SqL K G p (ns.map V.int)) : SqL K H p (ns.map V.int) := by
  rcases h1 with (h | ⟨o, h⟩) | h
  · exact .inl (.inl (hs _ _ h).1)
  · exact .inl (.inr ⟨o, (hs _ _ h).1⟩)
  · exact .inr h
def g1 (g : D → Option D) : List D → Option D
  | [d] => g d
  | _ => none
theorem g1_of {g : D → Option D} {G : Hp} {ds : List D} {d : D} {xs : List V} (a : Ats K G ds xs) (h : g1 g ds = some d) : ∃ e x, ds = [e] ∧ xs = [x] ∧ At K G e x ∧ g e = some d := by
  cases ds with
  | nil => cases h
  | cons e r =>
    cases r with
    | cons _ _ => cases h
    | nil =>
      obtain ⟨x, r, rfl, ax, hr⟩ := a
      obtain rfl : r = [] := hr
      exact ⟨e, x, rfl, rfl, ax, h⟩
def gg2 (g : D → D → Option D) : List D → Option D
  | [d, e] => g d e
  | _ => none
theorem gg2_of {g : D → D → Option D} {G : Hp} {ds : List D} {d : D} {xs : List V} (a : Ats K G ds xs) (h : gg2 g ds = some d) : ∃ e f x y, ds = [e, f] ∧ xs = [x, y] ∧ At K G e x ∧ At K G f y ∧ g e f = some d := by
  cases ds with
  | nil => cases h
  | cons e r =>
    cases r with
    | nil => cases h
    | cons f r =>
      cases r with
      | cons _ _ => cases h
      | nil =>
        obtain ⟨x, r, rfl, ax, y, r2, rfl, ay, hr⟩ := a
        obtain rfl : r2 = [] := hr
        exact ⟨e, f, x, y, rfl, rfl, ax, ay, h⟩
def hLen : D → Option D
  | .lst ds => some (.int ds.length)
  | .tup ds => some (.int ds.length)
  | .scr ns => some (.int ns.length)
  | _ => none
def gLen : List D → Option D := g1 hLen
def rLenD (K : PySem.W.Frag) : List V → Hp → VK → Prop := fun xs H Q => ∃ p ys, xs = [.ref p] ∧ (SqL K H p ys ∨ SqT K H p ys) ∧ Q (.int ys.length) H
theorem dLen : CallD K L (rLenD K) gLen := fun G H xs ds d Q hs ht a hg q => by
  obtain ⟨e, x, rfl, rfl, ax, h⟩ := g1_of a hg
  cases e <;> simp only [hLen, reduceCtorEq, Option.some.injEq] at h
  · subst h
    obtain ⟨p, ys, rfl, h1, t1⟩ := ax
    rw [← t1.length] at q
    exact ⟨p, ys, rfl, .inl (SqL.of (hs _ _ h1).1), q _ G H (.refl hs) rfl⟩
  · subst h
    obtain ⟨p, ys, rfl, h1, t1⟩ := ax
    rw [← t1.length] at q
    exact ⟨p, ys, rfl, .inr (SqT.of (hs _ _ h1).1), q _ G H (.refl hs) rfl⟩
  · subst h
    rename_i ns
    obtain ⟨p, rfl, h1⟩ := ax
    have e3 : ns.length = (ns.map V.int).length := by rw [List.length_map]
    rw [e3] at q
    exact ⟨p, _, rfl, .inl (scr_read hs h1), q _ G H (.refl hs) rfl⟩
def hInt : D → Option D
  | .int i => some (.int i)
  | .bl k => some (.int (if k then 1 else 0))
  | _ => none
def gInt : List D → Option D := g1 hInt
theorem dIntC : CallD K L (fun xs H Q => (∃ i, xs = [.int i] ∧ Q (.int i) H) ∨ ∃ k, xs = [.bl k] ∧ Q (.int (if k then 1 else 0)) H) gInt := fun G H xs ds d Q hs ht a hg q => by
  obtain ⟨e, x, rfl, rfl, ax, h⟩ := g1_of a hg
  cases e <;> simp only [hInt, reduceCtorEq, Option.some.injEq] at h
  · subst h
    cases (show x = _ from ax)
    exact .inr ⟨_, rfl, q _ G H (.refl hs) rfl⟩
  · subst h
    cases (show x = _ from ax)
    exact .inl ⟨_, rfl, q _ G H (.refl hs) rfl⟩
def h2 (p : Int → Int → Int) : D → D → Option D
  | .int i, .int j => some (.int (p i j))
  | _, _ => none
def g2 (p : Int → Int → Int) : List D → Option D := gg2 (h2 p)
theorem d2 {p : Int → Int → Int} : CallD K L (fun xs H Q => ∃ i j, xs = [.int i, .int j] ∧ Q (.int (p i j)) H) (g2 p) := fun G H xs ds d Q hs ht a hg q => by
  obtain ⟨e, f, x, y, rfl, rfl, ax, ay, h⟩ := gg2_of a hg
  cases e <;> cases f <;> simp only [h2, reduceCtorEq, Option.some.injEq] at h
  subst h
  cases (show x = _ from ax)
  cases (show y = _ from ay)
  exact ⟨_, _, rfl, q _ G H (.refl hs) rfl⟩
def pMax (i j : Int) : Int := if j > i then j else i
def pMin (i j : Int) : Int := if j < i then j else i
def hAbs : D → Option D
  | .int i => some (.int (if i < 0 then -i else i))
  | _ => none
def gAbs : List D → Option D := g1 hAbs
theorem dAbs : CallD K L (fun xs H Q => ∃ i, xs = [.int i] ∧ Q (.int (if i < 0 then -i else i)) H) gAbs := fun G H xs ds d Q hs ht a hg q => by
  obtain ⟨e, x, rfl, rfl, ax, h⟩ := g1_of a hg
  cases e <;> simp only [hAbs, reduceCtorEq, Option.some.injEq] at h
  subst h
  cases (show x = _ from ax)
  exact ⟨_, rfl, q _ G H (.refl hs) rfl⟩
def hList : D → Option D
  | .lst ds => some (.lst ds)
  | .tup ds => some (.lst ds)
  | .scr ns => some (.lst (ns.map .int))
  | _ => none
def gList : List D → Option D := g1 hList
def rListD (K : PySem.W.Frag) : List V → Hp → VK → Prop := fun xs H Q => ∃ p ys, xs = [.ref p] ∧ (SqL K H p ys ∨ SqT K H p ys) ∧ ∀ l, H l = none → Q (.ref l) (upd H l (.lst ys))
theorem newL {G H : Hp} {ds : List D} {ys : List V} {p : Addr} {Q : VK} (hs : Sub G H) (t : Ats K G ds ys) (hp : H p = none) (q : ∀ v G' H', Gr L G H G' H' → At K G' (.lst ds) v → Q v H') : Q (.ref p) (upd H p (.lst ys)) :=
  q _ (upd G p (.lst ys)) _ (.lay hs hp fun ps e => by cases e) ⟨p, ys, rfl, upd_same, t.mono fun a o e => by rw [upd_ne (ne_of_none (hs a o e).1 hp)]; exact e⟩
theorem newT {G H : Hp} {ds : List D} {ys : List V} {p : Addr} {Q : VK} (hs : Sub G H) (t : Ats K G ds ys) (hp : H p = none) (q : ∀ v G' H', Gr L G H G' H' → At K G' (.tup ds) v → Q v H') : Q (.ref p) (upd H p (.tup ys)) :=
  q _ (upd G p (.tup ys)) _ (.lay hs hp fun ps e => by cases e) ⟨p, ys, rfl, upd_same, t.mono fun a o e => by rw [upd_ne (ne_of_none (hs a o e).1 hp)]; exact e⟩
theorem dListC : CallD K L (rListD K) gList := fun G H xs ds d Q hs ht a hg q => by
  obtain ⟨e, x, rfl, rfl, ax, h⟩ := g1_of a hg
  cases e <;> simp only [hList, reduceCtorEq, Option.some.injEq] at h
  · subst h
    obtain ⟨p, ys, rfl, h1, t1⟩ := ax
    exact ⟨p, ys, rfl, .inl (SqL.of (hs _ _ h1).1), fun l hl => newL hs t1 hl q⟩
  · subst h
    obtain ⟨p, ys, rfl, h1, t1⟩ := ax
    exact ⟨p, ys, rfl, .inr (SqT.of (hs _ _ h1).1), fun l hl => newL hs t1 hl q⟩
  · subst h
    rename_i ns
    obtain ⟨p, rfl, h1⟩ := ax
    exact ⟨p, _, rfl, .inl (scr_read hs h1), fun l hl => newL hs (ats_ints ns) hl q⟩
def hTuple : D → Option D
  | .lst ds => some (.tup ds)
  | .tup ds => some (.tup ds)
  | _ => none
def gTuple : List D → Option D := g1 hTuple
def rTupleD (K : PySem.W.Frag) : List V → Hp → VK → Prop := fun xs H Q => ∃ p ys, xs = [.ref p] ∧ ((SqL K H p ys ∧ ∀ l, H l = none → Q (.ref l) (upd H l (.tup ys))) ∨ (SqT K H p ys ∧ Q (.ref p) H))
theorem dTupleC : CallD K L (rTupleD K) gTuple := fun G H xs ds d Q hs ht a hg q => by
  obtain ⟨e, x, rfl, rfl, ax, h⟩ := g1_of a hg
  cases e <;> simp only [hTuple, reduceCtorEq, Option.some.injEq] at h
  · subst h
    obtain ⟨p, ys, rfl, h1, t1⟩ := ax
    exact ⟨p, ys, rfl, .inl ⟨SqL.of (hs _ _ h1).1, fun l hl => newT hs t1 hl q⟩⟩
  · subst h
    obtain ⟨p, ys, rfl, h1, t1⟩ := ax
    exact ⟨p, ys, rfl, .inr ⟨SqT.of (hs _ _ h1).1, q _ G H (.refl hs) ⟨p, ys, rfl, h1, t1⟩⟩⟩
/-! type(x) is T, isinstance(x, T) -/
def tyName : D → String
  | .non => "NoneType"
  | .bl _ => "bool"
  | .int _ => "int"
  | .str _ => "str"
  | .lst _ => "list"
  | .tup _ => "tuple"
  | .dct => "dict"
  | .scr _ => "list"
theorem tyB_of {G H : Hp} {d : D} {v : V} (hs : Sub G H) (a : At K G d v) : TyB K H v (tyName d) := by
  cases d with
  | non => rw [show v = .non from a]; exact .non
  | bl b => rw [show v = .bl b from a]; exact .bl b
  | int b => rw [show v = .int b from a]; exact .int b
  | str b => rw [show v = .str b from a]; exact .str b
  | lst ds => obtain ⟨p, xs, rfl, h, _⟩ := a; exact .lst (SqL.of (hs _ _ h).1)
  | tup ds => obtain ⟨p, xs, rfl, h, _⟩ := a; exact .tup (SqT.of (hs _ _ h).1)
  | dct => obtain ⟨p, rfl, h⟩ := a; exact .dK (hs _ _ h).1
  | scr ns => obtain ⟨p, rfl, h⟩ := a; exact .lst (scr_read hs h)
theorem tyX_of {G H : Hp} {d : D} {v : V} (hs : Sub G H) (a : At K G d v) : TyX K H v (.type (tyName d)) := by
  cases d with
  | non => rw [show v = .non from a]; exact .base .non
  | bl b => rw [show v = .bl b from a]; exact .base (.bl b)
  | int b => rw [show v = .int b from a]; exact .base (.int b)
  | str b => rw [show v = .str b from a]; exact .base (.str b)
  | lst ds => obtain ⟨p, xs, rfl, h, _⟩ := a; exact .base (.lst (hs _ _ h).1)
  | tup ds => obtain ⟨p, xs, rfl, h, _⟩ := a; exact .base (.tup (hs _ _ h).1)
  | dct => obtain ⟨p, rfl, h⟩ := a; exact .base (.dK (hs _ _ h).1)
  | scr ns =>
    obtain ⟨p, rfl, h⟩ := a
    rcases scr_read hs h with (h | ⟨o, h⟩) | ⟨o, its, n, h, c, _⟩
    · exact .base (.lst h)
    · exact .base (.frz h)
    · exact .kList h c
def gTy (neg : Bool) (T : String) (d : D) : Option D := some (.bl (if neg = true then !decide (tyName d = T) else decide (tyName d = T)))
/-- is x, which is of the built-in type a, one of the built-in type T -/
def isTy (a T : String) : Bool := decide (a = T) || (decide (a = "bool") && decide (T = "int"))
def kinds : List String := ["NoneType", "bool", "int", "str", "list", "tuple", "dict"]
theorem isTy_ok : ∀ a ∈ kinds, ∀ T ∈ ["bool", "int", "str", "list", "tuple", "dict"], kitB a T = some (isTy a T) := by decide +kernel
theorem tyName_mem (d : D) : tyName d ∈ kinds := by cases d <;> simp [tyName, kinds]
def gInst (T : String) (d : D) : Option D := some (.bl (isTy (tyName d) T))
end
section
variable {X : Cx} {L : List Addr} {a : Expr} {pos p1 p2 p3 : Pos} {ma : DM}
theorem pd_typeIs {T : Str} {Tn : String} (hg : Gl X "type") (hm : X.mg "type" = none) (hT : Gl X T) (hmT : X.mg T = none) (hv : bootBuiltins T = some (.type Tn)) (ha : PD X L a ma) (hn : T ≠ "__name__" := by decide) (hd : (T == ("__debug__" : Str)) = false := by decide)
    (na : starEach [a] X.env = (false, eval a X.env) :: starEach [] X.env := by rfl) : PD X L (.Compare (.Call (.Name "type" p1) [a] [] p2) [.Is] [.Name T p3] pos) (dUn (gTy false Tn) ma) :=
  PE.imp (pe_cmpR op_isTyB (pe_callTy call_type1 hg hm (by decide +kernel) (pa_cons ha pa_nil na) (he := na)) (pe_bltn (v := .ty Tn) hT hmT hv rfl hn hd) (nomark _)) fun σ H Q ⟨G, ρ, d, hs, hR, ht, hmm, q⟩ => by
    unfold dUn at hmm
    cases h1 : ma ρ with
    | none => rw [h1] at hmm; cases hmm
    | some d1 =>
      rw [h1] at hmm
      cases hmm
      exact ⟨G, ρ, d1, hs, hR, ht, h1, fun x G1 H1 g1 a1 => ⟨x, tyName d1, rfl, tyB_of g1.sub a1, _, _, rfl, rfl, q _ G1 H1 g1 rfl⟩⟩
theorem pd_typeNot {T : Str} {Tn : String} (hg : Gl X "type") (hm : X.mg "type" = none) (hT : Gl X T) (hmT : X.mg T = none) (hv : bootBuiltins T = some (.type Tn)) (ha : PD X L a ma) (hn : T ≠ "__name__" := by decide) (hd : (T == ("__debug__" : Str)) = false := by decide)
    (na : starEach [a] X.env = (false, eval a X.env) :: starEach [] X.env := by rfl) : PD X L (.Compare (.Call (.Name "type" p1) [a] [] p2) [.IsNot] [.Name T p3] pos) (dUn (gTy true Tn) ma) :=
  PE.imp (pe_cmpR op_notTyB (pe_callTy call_type1 hg hm (by decide +kernel) (pa_cons ha pa_nil na) (he := na)) (pe_bltn (v := .ty Tn) hT hmT hv rfl hn hd) (nomark _)) fun σ H Q ⟨G, ρ, d, hs, hR, ht, hmm, q⟩ => by
    unfold dUn at hmm
    cases h1 : ma ρ with
    | none => rw [h1] at hmm; cases hmm
    | some d1 =>
      rw [h1] at hmm
      cases hmm
      exact ⟨G, ρ, d1, hs, hR, ht, h1, fun x G1 H1 g1 a1 => ⟨x, tyName d1, rfl, tyB_of g1.sub a1, _, _, rfl, rfl, q _ G1 H1 g1 rfl⟩⟩
theorem pd_isinst {T : Str} {Tn : String} (hg : Gl X "isinstance") (hm : X.mg "isinstance" = none) (hT : Gl X T) (hmT : X.mg T = none) (hv : bootBuiltins T = some (.type Tn)) (hk : Tn ∈ ["bool", "int", "str", "list", "tuple", "dict"]) (ha : PD X L a ma) (hn : T ≠ "__name__" := by decide) (hd : (T == ("__debug__" : Str)) = false := by decide)
    (na : starEach [a, .Name T p3] X.env = (false, eval a X.env) :: starEach [.Name T p3] X.env := by rfl) (nb : starEach [.Name T p3] X.env = (false, eval (.Name T p3) X.env) :: starEach [] X.env := by rfl) (hpl : (backTo pos (starEach [.Name T p3] X.env)).any (·.1) = false := by rfl) :
    PD X L (.Call (.Name "isinstance" p1) [a, .Name T p3] [] pos) (dUn (gInst Tn) ma) :=
  PE.imp (pe_callB call_isi hg hm (by decide +kernel) (pa_cons ha (pa_cons (pe_bltn (v := .ty Tn) hT hmT hv rfl hn hd) pa_nil nb) na) (he := na) (hpl := hpl)) fun σ H Q ⟨G, ρ, d, hs, hR, ht, hmm, q⟩ => by
    unfold dUn at hmm
    cases h1 : ma ρ with
    | none => rw [h1] at hmm; cases hmm
    | some d1 =>
      rw [h1] at hmm
      cases hmm
      exact ⟨G, ρ, d1, hs, hR, ht, h1, fun x G1 H1 g1 a1 => ⟨x, .ty Tn, .type (tyName d1), .type Tn, isTy (tyName d1) Tn, rfl, .ty Tn, tyX_of g1.sub a1, kit_ty (isTy_ok _ (tyName_mem d1) _ hk), q _ G1 H1 g1 rfl⟩⟩
/-! a chain of two comparisons -/
def dChain (g g' : D → D → Option D) (a b c : DM) : DM := fun ρ => (a ρ).bind fun x => (b ρ).bind fun y => (g x y).bind fun z => (toB z).bind fun k => if k = true then (c ρ).bind fun w => g' y w else some (.bl false)
theorem tChain_imp {r r' : R2} {g g' : D → D → Option D} {mb mc : DM} (hr : OpD X.K L r g) (hr' : OpD X.K L r' g') : ∀ σ H Q, tP X.K L (dChain g g' ma mb mc) σ H Q → tChain r r' (tP X.K L ma) (tP X.K L mb) (tP X.K L mc) σ H Q := fun σ H Q ⟨G, ρ, d, hs, hR, ht, hm, q⟩ => by
  unfold dChain at hm
  cases h1 : ma ρ with
  | none => rw [h1] at hm; cases hm
  | some d1 =>
    cases h2 : mb ρ with
    | none => rw [h1, h2] at hm; cases hm
    | some d2 =>
      rw [h1, h2] at hm
      cases h3 : g d1 d2 with
      | none => simp [h3] at hm
      | some d3 =>
        cases h4 : toB d3 with
        | none => simp [h3, h4] at hm
        | some k =>
          simp only [h3, h4, Option.bind_some] at hm
          refine ⟨G, ρ, d1, hs, hR, ht, h1, fun x G1 H1 g1 a1 => ⟨G1, ρ, d2, g1.sub, hR.mono g1.up, ht.ext g1.ext, h2, fun y G2 H2 g2 a2 => ?_⟩⟩
          refine hr G2 H2 x y d1 d2 d3 _ g2.sub ((ht.ext g1.ext).ext g2.ext) (a1.mono g2.up) a2 h3 fun z G3 H3 g3 a3 => ⟨k, ?_, ?_⟩
          · cases d3 <;> simp only [toB, Option.some.injEq, reduceCtorEq] at h4
            subst h4
            exact a3
          · cases k with
            | false => cases hm; exact q _ G3 H3 ((g1.trans g2).trans g3) rfl
            | true =>
              simp only [if_true] at hm ⊢
              cases h5 : mc ρ with
              | none => rw [h5] at hm; cases hm
              | some d5 =>
                rw [h5] at hm
                exact ⟨G3, ρ, d5, g3.sub, hR.mono ((g1.trans g2).trans g3).up, ht.ext ((g1.trans g2).trans g3).ext, h5, fun w G4 H4 g4 a4 =>
                  hr' G4 H4 y w d2 d5 d _ g4.sub (ht.ext (((g1.trans g2).trans g3).trans g4).ext) (a2.mono (g3.trans g4).up) a4 hm fun v G5 H5 g5 a5 => q v G5 H5 ((((g1.trans g2).trans g3).trans g4).trans g5) a5⟩
theorem pd_chain {op op' : CmpOp} {b c : Expr} {r r' : R2} {g g' : D → D → Option D} {mb mc : DM} (hr : OpD X.K L r g) (hr' : OpD X.K L r' g') (ho : OpR X (compareOp op) r) (ho' : OpR X (compareOp op') r') (ha : PD X L a ma) (hb : PD X L b mb) (hc : PD X L c mc)
    (hm : lastMarks [op, op'] [b, c] = false := by with_unfolding_all rfl) : PD X L (.Compare a [op, op'] [b, c] pos) (dChain g g' ma mb mc) := PE.imp (pe_chain ho ho' ha hb hc hm) (tChain_imp hr hr')
theorem ptd_chain {op op' : CmpOp} {b c : Expr} {r r' : R2} {g g' : D → D → Option D} {mb mc : DM} (hr : OpD X.K L r g) (hr' : OpD X.K L r' g') (ho : OpR X (compareOp op) r) (ho' : OpR X (compareOp op') r') (ha : PD X L a ma) (hb : PD X L b mb) (hc : PD X L c mc)
    (hm : lastMarks [op, op'] [b, c] = false := by with_unfolding_all rfl) : PTD X L (.Compare a [op, op'] [b, c] pos) (dB (dChain g g' ma mb mc)) :=
  PT.imp (pt_chain ho ho' ha hb hc hm) fun σ H Q ⟨G, ρ, k, hs, hR, ht, hmm, q⟩ => tChain_imp hr hr' σ H _ (tP_b hs hR ht hmm fun G1 H1 g1 => ⟨k, rfl, q G1 H1 g1⟩)
/-! slices of lists -/
def cutD {α : Type} (xs : List α) (lo hi : Option Int) : List α := (xs.drop (HT.sIx xs.length 0 lo)).take (HT.sIx xs.length xs.length hi - HT.sIx xs.length 0 lo)
def dNoP : _root_.DN.Env → Option (Option Int) := fun _ => some none
def dPart (m : DM) : _root_.DN.Env → Option (Option Int) := fun ρ => (m ρ).bind fun | .int i => some (some i) | _ => none
def gSl : D → Option Int → Option Int → Option D
  | .lst ds, lo, hi => some (.lst (cutD ds lo hi))
  | .scr ns, lo, hi => some (.lst ((cutD ns lo hi).map .int))
  | _, _, _ => none
def dSl (m : DM) (lo hi : _root_.DN.Env → Option (Option Int)) : DM := fun ρ => (m ρ).bind fun x => (lo ρ).bind fun l => (hi ρ).bind fun h => gSl x l h
def tPO (K : PySem.W.Frag) (L : List Addr) (m : _root_.DN.Env → Option (Option Int)) : TO := fun σ H Q => ∃ G ρ o, Sub G H ∧ Rep K G σ ρ ∧ Tabs L H ∧ m ρ = some o ∧ ∀ G' H', Gr L G H G' H' → Q o H'
def POD (X : Cx) (L : List Addr) (e : Option Expr) (m : _root_.DN.Env → Option (Option Int)) : Prop := PO X e (tPO X.K L m)
theorem pod_none : POD X L none dNoP := ⟨fun pins s σ H Q I ⟨G, ρ, o, hs, hR, ht, hm, q⟩ => po_none.run pins s σ H Q I (by cases hm; exact q G H (.refl hs))⟩
theorem pod_some (h : PD X L a ma) : POD X L (some a) (dPart ma) := ⟨fun pins s σ H Q I ⟨G, ρ, o, hs, hR, ht, hm, q⟩ => (po_some h).run pins s σ H Q I (by
  unfold dPart at hm
  cases h1 : ma ρ with
  | none => rw [h1] at hm; cases hm
  | some d =>
    rw [h1] at hm
    cases d <;> simp only [Option.bind_some, reduceCtorEq, Option.some.injEq] at hm
    subst hm
    exact ⟨G, ρ, _, hs, hR, ht, h1, fun x G1 H1 g1 a1 => ⟨_, a1, q G1 H1 g1⟩⟩)⟩
theorem pd_slice {lo hi : Option Expr} {p2' : Pos} {ml mh : _root_.DN.Env → Option (Option Int)} (ha : PD X L a ma) (hl : POD X L lo ml) (hh : POD X L hi mh) : PD X L (.Subscript a (.Slice lo hi none p2') pos) (dSl ma ml mh) :=
  PE.imp (pe_slice sl_list ha hl hh) fun σ H Q ⟨G, ρ, d, hs, hR, ht, hm, q⟩ => by
    unfold dSl at hm
    cases h1 : ma ρ with
    | none => rw [h1] at hm; cases hm
    | some d1 =>
      cases h2 : ml ρ with
      | none => rw [h1, h2] at hm; cases hm
      | some l =>
        cases h3 : mh ρ with
        | none => rw [h1, h2, h3] at hm; cases hm
        | some u =>
          rw [h1, h2, h3] at hm
          refine ⟨G, ρ, d1, hs, hR, ht, h1, fun x G1 H1 g1 a1 => ⟨G1, ρ, l, g1.sub, hR.mono g1.up, ht.ext g1.ext, h2, fun G2 H2 g2 => ⟨G2, ρ, u, g2.sub, hR.mono (g1.trans g2).up, ht.ext (g1.trans g2).ext, h3, fun G3 H3 g3 => ?_⟩⟩⟩
          have a3 := a1.mono (g2.trans g3).up
          have g13 := (g1.trans g2).trans g3
          cases d1 <;> simp only [Option.bind_some, gSl, reduceCtorEq, Option.some.injEq] at hm
          · subst hm
            obtain ⟨p, xs, rfl, h4, t4⟩ := a3
            refine ⟨p, xs, rfl, SqL.of (g3.sub _ _ h4).1, fun z hz => newL g3.sub (ds := cutD _ l u) ?_ hz fun v G' H' gg aa => q v G' H' (g13.trans gg) aa⟩
            unfold cutV cutD
            rw [t4.length]
            exact (t4.drop _).take _
          · subst hm
            obtain ⟨p, rfl, h4⟩ := a3
            refine ⟨p, _, rfl, scr_read g3.sub h4, fun z hz => newL g3.sub (ds := (cutD _ l u).map .int) ?_ hz fun v G' H' gg aa => q v G' H' (g13.trans gg) aa⟩
            unfold cutV cutD
            rw [List.length_map, ← List.map_drop, ← List.map_take]
            exact ats_ints _
end
end DN

set_option Elab.async false
set_option linter.all false
set_option maxRecDepth 100000
set_option maxHeartbeats 2000000
/-! Walks, comprehensions, generator expressions, statements, defs over plain data. -/
namespace DN
open PySem PySem.Spec PyProof.Rows L2 GxR GX
/-! ### what is walked -/
def Wk (K : PySem.W.Frag) (L : List Addr) (J : It) (G H1 : Hp) (ds : List D) : Prop := ∀ H2, Sub G H2 →
  (∀ i d, ds[i]? = some d → J.go i H2 ∧ ∀ x H3, J.yld i H2 x H3 → ∀ G2, Sub G2 H2 → (∀ a o, G a = some o → G2 a = some o) → ∃ G3, Gr L G2 H2 G3 H3 ∧ At K G3 d x) ∧ (∀ i, ds.length ≤ i → J.stop i H2)
def tI (K : PySem.W.Frag) (L : List Addr) (m : Env → Option (List D)) : TI := fun σ H R => ∃ G ρ ds, Sub G H ∧ Rep K G σ ρ ∧ Tabs L H ∧ m ρ = some ds ∧ ∀ J G1 H1, Gr L G H G1 H1 → Wk K L J G1 H1 ds → R J H1
def PID (X : Cx) (L : List Addr) (tg e : Expr) (m : Env → Option (List D)) : Prop := PI X tg e (tI X.K L m)
def lsOf : D → Option (List D)
  | .lst ds => some ds
  | .scr ns => some (ns.map .int)
  | _ => none
def tuOf : D → Option (List D)
  | .tup ds => some ds
  | _ => none
def dLs (m : DM) : Env → Option (List D) := fun ρ => (m ρ).bind lsOf
def dTu (m : DM) : Env → Option (List D) := fun ρ => (m ρ).bind tuOf
section
variable {K : PySem.W.Frag} {L : List Addr}
theorem ls_at {G : Hp} {d : D} {ds : List D} {v : V} (h : lsOf d = some ds) (a : At K G d v) : ∃ p xs, v = .ref p ∧ SqL K G p xs ∧ Ats K G ds xs := by
  cases d <;> simp only [lsOf, reduceCtorEq, Option.some.injEq] at h
  · subst h
    obtain ⟨p, xs, rfl, h1, t⟩ := a
    exact ⟨p, xs, rfl, SqL.of h1, t⟩
  · subst h
    obtain ⟨p, rfl, h1⟩ := a
    exact ⟨p, _, rfl, h1, ats_ints _⟩
theorem sql_sub {G H : Hp} {p : Addr} {xs : List V} (hs : Sub G H) (h : SqL K G p xs) : SqL K H p xs := by
  rcases h with (h | ⟨o, h⟩) | h
  · exact .inl (.inl (hs _ _ h).1)
  · exact .inl (.inr ⟨o, (hs _ _ h).1⟩)
  · exact .inr h
theorem sqt_sub {G H : Hp} {p : Addr} {xs : List V} (hs : Sub G H) (h : SqT K G p xs) : SqT K H p xs := by
  rcases h with (h | ⟨o, h⟩) | h
  · exact .inl (.inl (hs _ _ h).1)
  · exact .inl (.inr ⟨o, (hs _ _ h).1⟩)
  · exact .inr h
theorem wk_list {G H1 : Hp} {p : Addr} {xs : List V} {ds : List D} (hs : Sub G H1) (h : SqL K G p xs) (t : Ats K G ds xs) : Wk K L (Itl K p) G H1 ds := fun H2 e => by
  have h2 : SqL K H2 p xs := sql_sub e h
  refine ⟨fun i d hi => ?_, fun i hi => ⟨xs, h2, by rw [t.length]; exact hi⟩⟩
  obtain ⟨x, hx, ax⟩ := t.get hi
  refine ⟨⟨xs, x, h2, hx⟩, fun y H3 ⟨e3, hy⟩ G2 s2 u2 => ?_⟩
  subst e3
  obtain rfl : x = y := Option.some.inj (hx.symm.trans (hy xs h2))
  exact ⟨G2, .refl s2, ax.mono u2⟩
theorem wk_tup {G H1 : Hp} {p : Addr} {xs : List V} {ds : List D} (hs : Sub G H1) (h : SqT K G p xs) (t : Ats K G ds xs) : Wk K L (Itt K p) G H1 ds := fun H2 e => by
  have h2 : SqT K H2 p xs := sqt_sub e h
  refine ⟨fun i d hi => ?_, fun i hi => ⟨xs, h2, by rw [t.length]; exact hi⟩⟩
  obtain ⟨x, hx, ax⟩ := t.get hi
  refine ⟨⟨xs, x, h2, hx⟩, fun y H3 ⟨e3, hy⟩ G2 s2 u2 => ?_⟩
  subst e3
  obtain rfl : x = y := Option.some.inj (hx.symm.trans (hy xs h2))
  exact ⟨G2, .refl s2, ax.mono u2⟩
def rangeD (i j : Int) : List D := (List.range (j - i).toNat).map fun k => .int (i + (k : Nat))
theorem wk_range {G H1 : Hp} {i j : Int} {n : Nat} (hn : n = (j - i).toNat) : Wk K L (Itr i n) G H1 (rangeD i j) := fun H2 e => by
  subst hn
  refine ⟨fun k d hk => ?_, fun k hk => show (j - i).toNat ≤ k by unfold rangeD at hk; rw [List.length_map, List.length_range] at hk; exact hk⟩
  unfold rangeD at hk
  rw [List.getElem?_map] at hk
  have hlt : k < (j - i).toNat := by
    by_cases h : k < (j - i).toNat
    · exact h
    · rw [List.getElem?_eq_none (by simpa using h)] at hk; cases hk
  rw [List.getElem?_range hlt] at hk
  cases hk
  exact ⟨hlt, fun x H3 ⟨e3, hx⟩ G2 s2 u2 => by subst e3 hx; exact ⟨G2, .refl s2, rfl⟩⟩
def dRng1 (m : DM) : Env → Option (List D) := fun ρ => (m ρ).bind fun | .int j => if -(2 ^ 62) ≤ j ∧ j < 2 ^ 62 then some (rangeD 0 j) else none | _ => none
def dRng2 (a b : DM) : Env → Option (List D) := fun ρ => (a ρ).bind fun x => (b ρ).bind fun y => match x, y with
  | .int i, .int j => if -(2 ^ 62) ≤ i ∧ i < 2 ^ 62 ∧ -(2 ^ 62) ≤ j ∧ j < 2 ^ 62 then some (rangeD i j) else none
  | _, _ => none
def zipD : List D → List D → List D
  | x :: xs, y :: ys => .tup [x, y] :: zipD xs ys
  | _, _ => []
theorem zipD_len : ∀ (xs ys : List D), (zipD xs ys).length = min xs.length ys.length
  | [], _ => by simp [zipD]
  | _ :: _, [] => by simp [zipD]
  | x :: xs, y :: ys => by rw [zipD, List.length_cons, zipD_len xs ys, List.length_cons, List.length_cons]; omega
theorem zipD_get : ∀ {xs ys : List D} {i : Nat} {d : D}, (zipD xs ys)[i]? = some d → ∃ a b, xs[i]? = some a ∧ ys[i]? = some b ∧ d = .tup [a, b]
  | [], _, _, _, h => by simp [zipD] at h
  | _ :: _, [], _, _, h => by simp [zipD] at h
  | x :: xs, y :: ys, 0, d, h => by
    simp only [zipD, List.getElem?_cons_zero, Option.some.injEq] at h
    exact ⟨x, y, rfl, rfl, h.symm⟩
  | x :: xs, y :: ys, i + 1, d, h => by
    simp only [zipD, List.getElem?_cons_succ] at h
    obtain ⟨a, b, h1, h2, h3⟩ := zipD_get (xs := xs) (ys := ys) (i := i) h
    exact ⟨a, b, by simpa using h1, by simpa using h2, h3⟩
def dZip (a b : DM) : Env → Option (List D) := fun ρ => (a ρ).bind fun x => (b ρ).bind fun y => (lsOf x).bind fun xs => (lsOf y).bind fun ys => some (zipD xs ys)
theorem wk_zip {G H1 : Hp} {p q : Addr} {xs ys : List V} {ds es : List D} (hs : Sub G H1) (h : SqL K G p xs) (t : Ats K G ds xs) (h' : SqL K G q ys) (t' : Ats K G es ys) : Wk K L (Itz K p q) G H1 (zipD ds es) := fun H2 e => by
  have h2 : SqL K H2 p xs := sql_sub e h
  have h3 : SqL K H2 q ys := sql_sub e h'
  refine ⟨fun i d hi => ?_, fun i hi => ⟨xs, ys, h2, h3, by rw [t.length, t'.length]; rw [zipD_len] at hi; omega⟩⟩
  obtain ⟨a, b, ha, hb, rfl⟩ := zipD_get hi
  obtain ⟨x, hx, ax⟩ := t.get ha
  obtain ⟨y, hy, ay⟩ := t'.get hb
  refine ⟨⟨xs, ys, x, y, h2, h3, hx, hy⟩, fun v H3 ⟨T, x', y', ev, hT, eH, f1, f2⟩ G2 s2 u2 => ?_⟩
  subst ev eH
  obtain rfl : x = x' := Option.some.inj (hx.symm.trans (f1 xs h2))
  obtain rfl : y = y' := Option.some.inj (hy.symm.trans (f2 ys h3))
  refine ⟨upd G2 T (.tup [x, y]), .lay s2 hT (fun ps z => by cases z), T, [x, y], rfl, upd_same, x, [y], rfl, ?_, y, [], rfl, ?_, rfl⟩
  · exact (ax.mono u2).mono fun a o e => by rw [upd_ne (ne_of_none (s2 a o e).1 hT)]; exact e
  · exact (ay.mono u2).mono fun a o e => by rw [upd_ne (ne_of_none (s2 a o e).1 hT)]; exact e
def enumD : Nat → List D → List D
  | _, [] => []
  | n, x :: xs => .tup [.int n, x] :: enumD (n + 1) xs
theorem enumD_len : ∀ (n : Nat) (xs : List D), (enumD n xs).length = xs.length
  | _, [] => rfl
  | n, x :: xs => by rw [enumD, List.length_cons, enumD_len (n + 1) xs, List.length_cons]
theorem enumD_get : ∀ {n : Nat} {xs : List D} {i : Nat} {d : D}, (enumD n xs)[i]? = some d → ∃ a, xs[i]? = some a ∧ d = .tup [.int ((n + i : Nat) : Int), a]
  | _, [], _, _, h => by simp [enumD] at h
  | n, x :: xs, 0, d, h => by
    simp only [enumD, List.getElem?_cons_zero, Option.some.injEq] at h
    exact ⟨x, rfl, h.symm⟩
  | n, x :: xs, i + 1, d, h => by
    simp only [enumD, List.getElem?_cons_succ] at h
    obtain ⟨a, h1, h2⟩ := enumD_get h
    exact ⟨a, h1, by rw [h2]; congr 3; omega⟩
def dEnum (a : DM) : Env → Option (List D) := fun ρ => (a ρ).bind fun x => (lsOf x).bind fun xs => some (enumD 0 xs)
theorem wk_enum {G H1 : Hp} {p : Addr} {xs : List V} {ds : List D} (hs : Sub G H1) (h : SqL K G p xs) (t : Ats K G ds xs) : Wk K L (Ite K p) G H1 (enumD 0 ds) := fun H2 e => by
  have h2 : SqL K H2 p xs := sql_sub e h
  refine ⟨fun i d hi => ?_, fun i hi => ⟨xs, h2, by rw [t.length]; rw [enumD_len] at hi; exact hi⟩⟩
  obtain ⟨a, ha, rfl⟩ := enumD_get hi
  obtain ⟨x, hx, ax⟩ := t.get ha
  refine ⟨⟨xs, x, h2, hx⟩, fun v H3 ⟨T, x', ev, hT, eH, f1⟩ G2 s2 u2 => ?_⟩
  subst ev eH
  obtain rfl : x = x' := Option.some.inj (hx.symm.trans (f1 xs h2))
  refine ⟨upd G2 T (.tup [.int (i : Nat), x]), .lay s2 hT (fun ps z => by cases z), T, _, rfl, upd_same, _, [x], rfl, by rw [Nat.zero_add]; rfl, x, [], rfl, ?_, rfl⟩
  exact (ax.mono u2).mono fun a o e => by rw [upd_ne (ne_of_none (s2 a o e).1 hT)]; exact e
end
section
variable {X : Cx} {L : List Addr} {tg e e2 : Expr} {pos p : Pos} {ma mb : DM}
theorem pid_list (ha : PD X L e ma) : PID X L tg e (dLs ma) := PI.imp (pi_list ha) fun σ H R ⟨G, ρ, ds, hs, hR, ht, hm, q⟩ => by
  unfold dLs at hm
  cases h1 : ma ρ with
  | none => rw [h1] at hm; cases hm
  | some d =>
    rw [h1] at hm
    refine ⟨G, ρ, d, hs, hR, ht, h1, fun x G1 H1 g1 a1 => ?_⟩
    obtain ⟨p, xs, rfl, h2, t2⟩ := ls_at hm a1
    exact ⟨p, rfl, ⟨xs, sql_sub g1.sub h2⟩, q _ G1 H1 g1 (wk_list g1.sub h2 t2)⟩
theorem pid_tup (ha : PD X L e ma) : PID X L tg e (dTu ma) := PI.imp (pi_tup ha) fun σ H R ⟨G, ρ, ds, hs, hR, ht, hm, q⟩ => by
  unfold dTu at hm
  cases h1 : ma ρ with
  | none => rw [h1] at hm; cases hm
  | some d =>
    rw [h1] at hm
    refine ⟨G, ρ, d, hs, hR, ht, h1, fun x G1 H1 g1 a1 => ?_⟩
    cases d <;> simp only [Option.bind_some, tuOf, reduceCtorEq, Option.some.injEq] at hm
    subst hm
    obtain ⟨p, xs, rfl, h2, t2⟩ := a1
    exact ⟨p, rfl, ⟨xs, SqT.of (g1.sub _ _ h2).1⟩, q _ G1 H1 g1 (wk_tup g1.sub (SqT.of h2) t2)⟩
theorem pid_range1 (hg : Gl X "range") (hm : X.mg "range" = none) (ha : PD X L e ma) (hs : starEach [e] X.env = [(false, eval e X.env)] := by rfl) : PID X L tg (.Call (.Name "range" p) [e] [] pos) (dRng1 ma) :=
  PI.imp (pi_range1 hg hm (pa_cons ha pa_nil hs) hs) fun σ H R ⟨G, ρ, ds, hs, hR, ht, hm, q⟩ => by
    unfold dRng1 at hm
    cases h1 : ma ρ with
    | none => rw [h1] at hm; cases hm
    | some d =>
      rw [h1] at hm
      refine ⟨G, ρ, d, hs, hR, ht, h1, fun x G1 H1 g1 a1 => ?_⟩
      cases d <;> simp only [Option.bind_some, reduceCtorEq, Option.some.injEq, Option.ite_none_right_eq_some] at hm
      obtain ⟨⟨b1, b2⟩, rfl⟩ := hm
      cases (show x = _ from a1)
      exact ⟨_, rfl, b1, b2, q _ G1 H1 g1 (wk_range (by rw [Int.sub_zero]))⟩
theorem pid_range2 (hg : Gl X "range") (hm : X.mg "range" = none) (ha : PD X L e ma) (hb : PD X L e2 mb) (hs : starEach [e, e2] X.env = [(false, eval e X.env), (false, eval e2 X.env)] := by rfl) (hs2 : starEach [e2] X.env = [(false, eval e2 X.env)] := by rfl) :
    PID X L tg (.Call (.Name "range" p) [e, e2] [] pos) (dRng2 ma mb) :=
  PI.imp (pi_range2 hg hm (pa_cons ha (pa_cons hb pa_nil hs2) (by rw [hs, hs2])) hs hs2) fun σ H R ⟨G, ρ, ds, hs, hR, ht, hm, q⟩ => by
    unfold dRng2 at hm
    cases h1 : ma ρ with
    | none => rw [h1] at hm; cases hm
    | some d =>
      cases h2 : mb ρ with
      | none => rw [h1, h2] at hm; cases hm
      | some d2 =>
        rw [h1, h2] at hm
        refine ⟨G, ρ, d, hs, hR, ht, h1, fun x G1 H1 g1 a1 => ⟨G1, ρ, d2, g1.sub, hR.mono g1.up, ht.ext g1.ext, h2, fun y G2 H2 g2 a2 => ?_⟩⟩
        cases d <;> cases d2 <;> simp only [Option.bind_some, reduceCtorEq, Option.some.injEq, Option.ite_none_right_eq_some] at hm
        obtain ⟨b1, rfl⟩ := hm
        cases (show x = _ from a1)
        cases (show y = _ from a2)
        exact ⟨_, _, rfl, b1, q _ G2 H2 (g1.trans g2) (wk_range rfl)⟩
theorem pid_zip {elts : List Expr} {kk : Nat} {tpos : Pos} (hg : Gl X "zip") (hm : X.mg "zip" = none) (ha : PD X L e ma) (hb : PD X L e2 mb) (hs : starEach [e, e2] X.env = (false, eval e X.env) :: starEach [e2] X.env := by rfl) (hs2 : starEach [e2] X.env = (false, eval e2 X.env) :: starEach [] X.env := by rfl)
    (hpl : (backTo pos (starEach [e2] X.env)).any (·.1) = false := by rfl) : PID X L (.Tuple elts kk tpos) (.Call (.Name "zip" p) [e, e2] [] pos) (dZip ma mb) :=
  PI.imp (pi_zip hg hm (pa_cons ha (pa_cons hb pa_nil hs2) hs) hs hpl) fun σ H R ⟨G, ρ, ds, hs, hR, ht, hm, q⟩ => by
    unfold dZip at hm
    cases h1 : ma ρ with
    | none => rw [h1] at hm; cases hm
    | some d =>
      cases h2 : mb ρ with
      | none => rw [h1, h2] at hm; cases hm
      | some d2 =>
        rw [h1, h2] at hm
        refine ⟨G, ρ, d, hs, hR, ht, h1, fun x G1 H1 g1 a1 => ⟨G1, ρ, d2, g1.sub, hR.mono g1.up, ht.ext g1.ext, h2, fun y G2 H2 g2 a2 => ?_⟩⟩
        cases h3 : lsOf d with
        | none => simp [h3] at hm
        | some xs =>
          cases h4 : lsOf d2 with
          | none => simp [h3, h4] at hm
          | some ys =>
            simp only [h3, h4, Option.bind_some, Option.some.injEq] at hm
            subst hm
            obtain ⟨p, vs, rfl, k2, t2⟩ := ls_at h3 (a1.mono g2.up)
            obtain ⟨p', vs', rfl, k3, t3⟩ := ls_at h4 a2
            exact ⟨p, p', vs, vs', rfl, sql_sub g2.sub k2, sql_sub g2.sub k3, q _ G2 H2 (g1.trans g2) (wk_zip g2.sub k2 t2 k3 t3)⟩
theorem pid_enum {elts : List Expr} {kk : Nat} {tpos : Pos} (hg : Gl X "enumerate") (hm : X.mg "enumerate" = none) (ha : PD X L e ma) (hs : starEach [e] X.env = [(false, eval e X.env)] := by rfl) : PID X L (.Tuple elts kk tpos) (.Call (.Name "enumerate" p) [e] [] pos) (dEnum ma) :=
  PI.imp (pi_enum hg hm (pa_cons ha pa_nil hs) hs) fun σ H R ⟨G, ρ, ds, hs, hR, ht, hm, q⟩ => by
    unfold dEnum at hm
    cases h1 : ma ρ with
    | none => rw [h1] at hm; cases hm
    | some d =>
      rw [h1] at hm
      refine ⟨G, ρ, d, hs, hR, ht, h1, fun x G1 H1 g1 a1 => ?_⟩
      cases h3 : lsOf d with
      | none => simp [h3] at hm
      | some xs =>
        simp only [h3, Option.bind_some, Option.some.injEq] at hm
        subst hm
        obtain ⟨p, vs, rfl, k2, t2⟩ := ls_at h3 a1
        exact ⟨p, vs, rfl, sql_sub g1.sub k2, q _ G1 H1 g1 (wk_enum g1.sub k2 t2)⟩
end
/-! ### targets -/
/-- what a target does over data -/
def GdOk (K : PySem.W.Frag) (vs : List Nat) (g : TG) (bd : D → Env → Option Env) : Prop := ∀ (G H : Hp) (σ : L2.St) (ρ ρ1 : Env) (d : D) (x : V) (Q : L2.St → Hp → Prop), Sub G H → Rep K G σ ρ → At K G d x → bd d ρ = some ρ1 →
  (∀ σ1, Rep K G σ1 ρ1 → σ1.length = σ.length → wipe σ1 vs = wipe σ vs → Q σ1 H) → g x σ H Q
theorem wipe_at (σ : L2.St) : ∀ (vs : List Nat) (j : Nat), (wipe σ vs)[j]? = if j ∈ vs then (σ[j]?).map fun _ => none else σ[j]?
  | [], j => by simp [wipe]
  | v :: vs, j => by
    show ((wipe σ vs).set v none)[j]? = _
    by_cases h : v = j
    · subst h
      rw [if_pos List.mem_cons_self, List.getElem?_set]
      rw [if_pos rfl]
      have hl : (wipe σ vs).length = σ.length := wipe_length σ vs
      by_cases hv : v < σ.length
      · rw [if_pos (by rw [hl]; exact hv), List.getElem?_eq_getElem hv]; rfl
      · rw [if_neg (by rw [hl]; exact hv), List.getElem?_eq_none (Nat.le_of_not_lt hv)]; rfl
    · rw [List.getElem?_set_ne h, wipe_at σ vs j]
      have e : (j ∈ v :: vs) = (j ∈ vs) := by
        apply propext
        constructor
        · intro hm
          rcases List.mem_cons.mp hm with z | z
          · exact absurd z.symm h
          · exact z
        · exact List.mem_cons_of_mem _
      simp only [e]
theorem wipe_set {σ : L2.St} {vs : List Nat} {i : Nat} {x : Option V} (h : i ∈ vs) : wipe (σ.set i x) vs = wipe σ vs := by
  apply List.ext_getElem?
  intro j
  rw [wipe_at, wipe_at]
  by_cases hj : j ∈ vs
  · rw [if_pos hj, if_pos hj]
    by_cases hij : i = j
    · subst hij
      rw [List.getElem?_set]
      rw [if_pos rfl]
      by_cases hl : i < σ.length
      · rw [if_pos hl, List.getElem?_eq_getElem hl]; rfl
      · rw [if_neg hl, List.getElem?_eq_none (Nat.le_of_not_lt hl)]
    · rw [List.getElem?_set_ne hij]
  · rw [if_neg hj, if_neg hj]
    have hij : i ≠ j := fun z => hj (by rw [← z]; exact h)
    rw [List.getElem?_set_ne hij]
theorem wipe_wipe (σ : L2.St) (vs : List Nat) : wipe (wipe σ vs) vs = wipe σ vs := by
  apply List.ext_getElem?
  intro j
  rw [wipe_at, wipe_at]
  by_cases hj : j ∈ vs
  · rw [if_pos hj, if_pos hj]
    cases σ[j]? <;> rfl
  · rw [if_neg hj, if_neg hj]
theorem wipe_capt (σ : L2.St) (n : Nat) (is : List Nat) : wipe (capt σ n is) (List.range n) = capt σ n is := by
  apply List.ext_getElem?
  intro j
  rw [wipe_at]
  by_cases hj : j < n
  · rw [if_pos (List.mem_range.mpr hj)]
    unfold GX.capt
    rw [List.getElem?_append_left (by simpa using hj), List.getElem?_replicate, if_pos hj]
    rfl
  · rw [if_neg (fun h => hj (List.mem_range.mp h))]
def bd1 (i : Nat) : D → Env → Option Env := fun d ρ => some (ρ.set i (some d))
def bd2 (i j : Nat) : D → Env → Option Env := fun d ρ => match d with
  | .tup [a, b] => some ((ρ.set i (some a)).set j (some b))
  | _ => none
theorem gd1 {K : PySem.W.Frag} {vs : List Nat} {i : Nat} (h : i ∈ vs) : GdOk K vs (gName i) (bd1 i) := fun G H σ ρ ρ1 d x Q hs hR a hb q => by
  cases hb
  exact q _ (hR.set i a) (by rw [List.length_set]) (wipe_set h)
theorem gd2 {K : PySem.W.Frag} {vs : List Nat} {i j : Nat} (hi : i ∈ vs) (hj : j ∈ vs) : GdOk K vs (gTup K 2 (gCons (gName i) (gCons (gName j) gNil))) (bd2 i j) := fun G H σ ρ ρ1 d x Q hs hR a hb q => by
  unfold bd2 at hb
  split at hb
  · rename_i a1 b1
    cases hb
    obtain ⟨p, xs, rfl, h1, t1⟩ := a
    obtain ⟨u, v, rfl, au, av⟩ := t1.two
    exact ⟨p, [u, v], rfl, SqT.of (hs _ _ h1).1, rfl, u, [v], rfl, v, [], rfl, rfl, q _ ((hR.set i au).set j av) (by rw [List.length_set, List.length_set]) (by rw [wipe_set hj, wipe_set hi])⟩
  · cases hb

/-! ### list comprehensions -/
def lcGo (bd : D → Env → Option Env) (tt : Env → Option Bool) (me : DM) (ρ0 : Env) : List D → Option (List D)
  | [] => some []
  | d :: ds => (bd d ρ0).bind fun ρ1 => (tt ρ1).bind fun b => if b = true then (me ρ1).bind fun y => (lcGo bd tt me ρ0 ds).bind fun ys => some (y :: ys) else lcGo bd tt me ρ0 ds
def dLc (vs : List Nat) (mi : Env → Option (List D)) (bd : D → Env → Option Env) (tt : Env → Option Bool) (me : DM) : DM := fun ρ => (mi ρ).bind fun ds => (lcGo bd tt me (wipeD ρ vs) ds).bind fun es => if ds.length < 1000000 then some (.lst es) else none
theorem lcGo_len {bd : D → Env → Option Env} {tt : Env → Option Bool} {me : DM} {ρ0 : Env} : ∀ {ds es : List D}, lcGo bd tt me ρ0 ds = some es → es.length ≤ ds.length
  | [], es, h => by cases h; exact Nat.le_refl _
  | d :: ds, es, h => by
    unfold lcGo at h
    cases h1 : bd d ρ0 with
    | none => rw [h1] at h; cases h
    | some ρ1 =>
      cases h2 : tt ρ1 with
      | none => simp [h1, h2] at h
      | some b =>
        cases b with
        | false =>
          simp only [h1, h2, Option.bind_some, Bool.false_eq_true, if_false] at h
          exact Nat.le_succ_of_le (lcGo_len h)
        | true =>
          simp only [h1, h2, Option.bind_some, if_true] at h
          cases h3 : me ρ1 with
          | none => rw [h3] at h; cases h
          | some y =>
            cases h4 : lcGo bd tt me ρ0 ds with
            | none => simp [h3, h4] at h
            | some ys =>
              simp only [h3, h4, Option.bind_some, Option.some.injEq] at h
              subst h
              rw [List.length_cons, List.length_cons]
              exact Nat.succ_le_succ (lcGo_len h4)
def tYesD : Env → Option Bool := fun _ => some true
theorem yes_ok {K : PySem.W.Frag} {L : List Addr} : ∀ σ H Q, tPT K L tYesD σ H Q → tYes σ H Q := fun σ H Q ⟨G, ρ, b, hs, hR, ht, hm, q⟩ => by cases hm; exact q G H (.refl hs)
/-- a list that was not there at H -/
def New (H : Hp) (d : D) (v : V) : Prop := ∀ ds, d = .lst ds → ∃ p, v = .ref p ∧ H p = none
theorem New.back {L : List Addr} {H H1 : Hp} {d : D} {v : V} (e : Ext L H H1) (n : New H1 d v) : New H d v := fun ds h => by
  obtain ⟨p, e1, e2⟩ := n ds h
  exact ⟨p, e1, e.dom p e2⟩
/-- e is worth m, a new list if it is one -/
def tPN (K : PySem.W.Frag) (L : List Addr) (m : DM) : TE := fun σ H Q => ∃ G ρ d, Sub G H ∧ Rep K G σ ρ ∧ Tabs L H ∧ m ρ = some d ∧ ∀ v G' H', Gr L G H G' H' → At K G' d v → New H d v → Q v H'
section
variable {K : PySem.W.Frag} {L : List Addr} {vs : List Nat} {mi : Env → Option (List D)} {bd : D → Env → Option Env} {tt : Env → Option Bool} {me : DM} {g : TG}
theorem lc_impN (hg : GdOk K vs g bd) : ∀ σ H Q, tPN K L (dLc vs mi bd tt me) σ H Q → tLc (tI K L mi) g (tPT K L tt) (tP K L me) vs σ H Q := fun σ H Q ⟨G, ρ, d, hs, hR, ht, hm, q⟩ => by
  unfold dLc at hm
  cases h1 : mi ρ with
  | none => rw [h1] at hm; cases hm
  | some ds =>
    cases h2 : lcGo bd tt me (wipeD ρ vs) ds with
    | none => simp [h1, h2] at hm
    | some es =>
      simp only [h1, h2, Option.bind_some, Option.ite_none_right_eq_some, Option.some.injEq] at hm
      obtain ⟨hlen, rfl⟩ := hm
      refine ⟨G, ρ, ds, hs, hR, ht, h1, fun J G1 H1 g1 wk Dd hD => ?_⟩
      refine ⟨fun i m H' => m = ds.length - i ∧ i ≤ ds.length ∧ ∃ Gi acc accD rest, Ext L H1 H' ∧ Sub Gi H' ∧ Gi Dd = none ∧ (∀ a o, G1 a = some o → Gi a = some o) ∧ (∀ a, Gi a ≠ none → G1 a ≠ none ∨ H1 a = none) ∧ H' Dd = some (.lst acc) ∧ Ats K Gi accD acc ∧ accD.length ≤ i ∧ lcGo bd tt me (wipeD ρ vs) (ds.drop i) = some rest ∧ accD ++ rest = es,
        ⟨ds.length, by simp, Nat.zero_le _, G1, [], [], es, .new hD, fun a o e => ⟨by rw [upd_ne (ne_of_none (g1.sub a o e).1 hD)]; exact (g1.sub a o e).1, (g1.sub a o e).2⟩, g1.sub.none hD, fun _ _ e => e, fun a e => .inl e, upd_same, rfl, Nat.zero_le _, by rw [List.drop_zero]; exact h2, List.nil_append _⟩, ?_⟩
      rintro i m H' ⟨rfl, hi, Gi, acc, accD, rest, e1, si, nD, up, nw, hDl, ta, hla, hgo, hes⟩
      by_cases hlt : i < ds.length
      · refine .inr ?_
        obtain ⟨w1, _⟩ := wk H' (fun a o e => si a o (up a o e))
        obtain ⟨go, yl⟩ := w1 i ds[i] (List.getElem?_eq_getElem hlt)
        refine ⟨go, fun H5 => ∃ Gi acc accD rest, Ext L H1 H5 ∧ Sub Gi H5 ∧ Gi Dd = none ∧ (∀ a o, G1 a = some o → Gi a = some o) ∧ (∀ a, Gi a ≠ none → G1 a ≠ none ∨ H1 a = none) ∧ H5 Dd = some (.lst acc) ∧ Ats K Gi accD acc ∧ accD.length ≤ i + 1 ∧ lcGo bd tt me (wipeD ρ vs) (ds.drop (i + 1)) = some rest ∧ accD ++ rest = es,
          fun H5 h5 => ⟨_, by omega, rfl, hlt, h5⟩, fun x H3 hy => ?_⟩
        obtain ⟨G3, g3, a3⟩ := yl x H3 hy Gi si up
        have hR3 : Rep K G3 (wipe σ vs) (wipeD ρ vs) := (hR.wipe vs).mono fun a o e => g3.up a o (up a o (g1.up a o e))
        rw [List.drop_eq_getElem_cons hlt] at hgo
        unfold lcGo at hgo
        cases k1 : bd ds[i] (wipeD ρ vs) with
        | none => rw [k1] at hgo; cases hgo
        | some ρ1 =>
          cases k2 : tt ρ1 with
          | none => simp [k1, k2] at hgo
          | some b =>
            -- whatever comes behind H' keeps the list at Dd out of what is seen
            have step : ∀ G4 H4, Gr L Gi H' G4 H4 → Ext L H1 H4 ∧ Sub G4 H4 ∧ G4 Dd = none ∧ (∀ a o, G1 a = some o → G4 a = some o) ∧ (∀ a, G4 a ≠ none → G1 a ≠ none ∨ H1 a = none) ∧ H4 Dd = some (.lst acc) := fun G4 H4 g4 => by
              refine ⟨e1.trans g4.ext, g4.sub, ?_, fun a o e => g4.up a o (up a o e), fun a e => ?_, g4.ext.keep _ _ hDl (fun ps z => by cases z)⟩
              · cases z : G4 Dd with
                | none => rfl
                | some o =>
                  rcases g4.new Dd (by rw [z]; simp) with y | y
                  · exact absurd nD y
                  · rw [hDl] at y; cases y
              · rcases g4.new a e with y | y
                · exact nw a y
                · exact .inr (e1.dom a y)
            refine hg G3 H3 (wipe σ vs) (wipeD ρ vs) ρ1 ds[i] x _ g3.sub hR3 a3 k1 fun σ1 hR1 hl1 hw1 => ⟨by rw [hw1, wipe_wipe], G3, ρ1, b, g3.sub, hR1, (ht.ext g1.ext).ext (e1.trans g3.ext), k2, fun G4 H4 g4 => ?_⟩
            cases b with
            | false =>
              simp only [k1, k2, Option.bind_some, Bool.false_eq_true, if_false] at hgo ⊢
              obtain ⟨s1, s2, s3, s4, s5, s6⟩ := step G4 H4 (g3.trans g4)
              exact ⟨G4, acc, accD, rest, s1, s2, s3, s4, s5, s6, ta.mono (g3.trans g4).up, by omega, hgo, hes⟩
            | true =>
              simp only [k1, k2, Option.bind_some, if_true] at hgo ⊢
              cases k3 : me ρ1 with
              | none => rw [k3] at hgo; cases hgo
              | some y =>
                cases k4 : lcGo bd tt me (wipeD ρ vs) (ds.drop (i + 1)) with
                | none => simp [k3, k4] at hgo
                | some ys =>
                  simp only [k3, k4, Option.bind_some, Option.some.injEq] at hgo
                  subst hgo
                  refine ⟨G4, ρ1, y, g4.sub, hR1.mono g4.up, (ht.ext g1.ext).ext (e1.trans (g3.trans g4).ext), k3, fun v G5 H5 g5 a5 => ?_⟩
                  obtain ⟨s1, s2, s3, s4, s5, s6⟩ := step G5 H5 ((g3.trans g4).trans g5)
                  refine ⟨acc, s6, ?_, G5, acc ++ [v], accD ++ [y], ys, s1.mut hD, fun a o e => ?_, s3, s4, s5, upd_same, (ta.mono ((g3.trans g4).trans g5).up).append (.one a5), by rw [List.length_append, List.length_singleton]; omega, rfl, by rw [List.append_assoc]; exact hes⟩
                  · rw [ta.length]
                    exact Nat.lt_of_le_of_lt hla (Nat.lt_trans hlt (Nat.lt_of_lt_of_le hlen (by decide)))
                  · rw [upd_ne (fun z => by rw [z, s3] at e; cases e)]
                    exact s2 a o e
      · have hi' : i = ds.length := by omega
        subst hi'
        obtain ⟨_, w2⟩ := wk H' (fun a o e => si a o (up a o e))
        refine .inl ⟨w2 _ (Nat.le_refl _), ?_⟩
        rw [List.drop_of_length_le (Nat.le_refl _)] at hgo
        cases hgo
        rw [List.append_nil] at hes
        subst hes
        refine q (.ref Dd) (upd Gi Dd (.lst acc)) H' ⟨fun a o e => ?_, fun a o e => ?_, g1.ext.trans e1, fun a e => ?_⟩ ⟨Dd, acc, rfl, upd_same, ta.mono fun a o e => ?_⟩ fun _ _ => ⟨Dd, rfl, g1.ext.dom _ hD⟩
        · by_cases ha : a = Dd
          · subst ha; rw [upd_same] at e; cases e; exact ⟨hDl, fun ps z => by cases z⟩
          · rw [upd_ne ha] at e; exact si a o e
        · have hne : a ≠ Dd := fun z => by
            have y := g1.up a o e
            rw [z, g1.sub.none hD] at y
            cases y
          rw [upd_ne hne]
          exact up a o (g1.up a o e)
        · by_cases ha : a = Dd
          · subst ha; exact .inr (g1.ext.dom _ hD)
          · rw [upd_ne ha] at e
            rcases nw a e with y | y
            · exact g1.new a y
            · exact .inr (g1.ext.dom a y)
        · rw [upd_ne (fun z => by rw [z, nD] at e; cases e)]; exact e
theorem lc_imp (hg : GdOk K vs g bd) : ∀ σ H Q, tP K L (dLc vs mi bd tt me) σ H Q → tLc (tI K L mi) g (tPT K L tt) (tP K L me) vs σ H Q := fun σ H Q ⟨G, ρ, d, hs, hR, ht, hm, q⟩ => lc_impN hg σ H Q ⟨G, ρ, d, hs, hR, ht, hm, fun v G' H' g a _ => q v G' H' g a⟩
end
section
variable {X : Cx} {L : List Addr} {tg iter elt : Expr} {ifs : List Expr} {scope : Scope} {own : List (Str × Nat)} {pos : Pos} {mi : Env → Option (List D)} {bd : D → Env → Option Env} {tt : Env → Option Bool} {me : DM} {g : TG}
theorem pd_lc (hc : X.calm = true) (hN : X.N.Nodup) (hi : PID X L tg iter mi) (ok : BlkOk X.N X.env.scope scope own) (hgd : GdOk X.K (own.map (·.2)) g bd)
    (hg : ∀ (s : Shared) (H : Hp) (C : Addr) (cl : List (Str × Addr)) (fp : List Addr), PG (X.blk s H scope (compEnvC scope cl C X.env) fp) tg g) (ht : ∀ (s : Shared) (H : Hp) (C : Addr) (cl : List (Str × Addr)) (fp : List Addr), PTs (X.blk s H scope (compEnvC scope cl C X.env) fp) ifs (tPT X.K L tt))
    (he : ∀ (s : Shared) (H : Hp) (C : Addr) (cl : List (Str × Addr)) (fp : List Addr), PD (X.blk s H scope (compEnvC scope cl C X.env) fp) L elt me) (hs : ∀ x, foldedSetIterable iter X.env x = pure x := by intro _; rfl) :
    PD X L (.ListComp elt [⟨tg, iter, ifs, 0⟩] scope pos) (dLc (own.map (·.2)) mi bd tt me) := PE.imp (pe_lc (te := tP X.K L me) hc hN hi ok hg ht he hs) (lc_imp hgd)
theorem ptsd_nil {X : Cx} : PTs X [] (tPT X.K L tYesD) := ⟨fun pins s σ H Q I h => pts_nil.run pins s σ H Q I (yes_ok σ H Q h)⟩
theorem ptsd_one {X : Cx} {c : Expr} (h : PTD X L c tt) : PTs X [c] (tPT X.K L tt) := pts_one h
end
/-! ### all, any, sum -/
def anyGo (neg : Bool) (bd : D → Env → Option Env) (tt : Env → Option Bool) (me : DM) (ρ0 : Env) : List D → Option D
  | [] => some (.bl neg)
  | d :: ds => (bd d ρ0).bind fun ρ1 => (tt ρ1).bind fun b => if b = true then (dB me ρ1).bind fun y => if y = neg then anyGo neg bd tt me ρ0 ds else some (.bl y) else anyGo neg bd tt me ρ0 ds
def dQ (neg : Bool) (n : Nat) (is : List Nat) (mi : Env → Option (List D)) (bd : D → Env → Option Env) (tt : Env → Option Bool) (me : DM) : DM := fun ρ => (mi ρ).bind fun ds => anyGo neg bd tt me (captD ρ n is) ds
def toI : D → Option Int
  | .int i => some i
  | _ => none
def dI0 (m : DM) : Env → Option Int := fun ρ => (m ρ).bind toI
def sumGo (bd : D → Env → Option Env) (tt : Env → Option Bool) (me : DM) (ρ0 : Env) : Int → List D → Option D
  | acc, [] => some (.int acc)
  | acc, d :: ds => (bd d ρ0).bind fun ρ1 => (tt ρ1).bind fun b => if b = true then (dI0 me ρ1).bind fun y => sumGo bd tt me ρ0 (acc + y) ds else sumGo bd tt me ρ0 acc ds
def dSum (n : Nat) (is : List Nat) (mi : Env → Option (List D)) (bd : D → Env → Option Env) (tt : Env → Option Bool) (me : DM) : DM := fun ρ => (mi ρ).bind fun ds => sumGo bd tt me (captD ρ n is) 0 ds
section
variable {K : PySem.W.Frag} {L : List Addr} {n : Nat} {is : List Nat} {mi : Env → Option (List D)} {bd : D → Env → Option Env} {tt : Env → Option Bool} {me : DM} {g : TG} {P : Addr}
/-- a generator's turns over data, its rest worth R -/
theorem gen_at {α : Type} {acc0 : α} {Step : VK → α → V → Hp → (α → Hp → Prop) → Prop} {QT : VK → α → Hp → Prop} {R : α → List D → Option D} {G H : Hp} {σ : L2.St} {ρ : Env} {d : D} {ds : List D} {Q : VK} (hP : P ∈ L) (hg : GdOk K (List.range n) g bd)
    (hs : Sub G H) (hR : Rep K G σ ρ) (ht : Tabs L H) (h1 : mi ρ = some ds) (hr0 : R acc0 ds = some d) (q : ∀ v G' H', Gr L G H G' H' → At K G' d v → Q v H')
    (hend : ∀ (acc : α) (G' H' : Hp), R acc [] = some d → Gr L G H G' H' → QT Q acc H')
    (hturn : ∀ (acc : α) (e : D) (es : List D), R acc (e :: es) = some d → ∃ ρ1 b, bd e (captD ρ n is) = some ρ1 ∧ tt ρ1 = some b ∧ (b = false → R acc es = some d) ∧ (b = true → ∃ y, me ρ1 = some y ∧
      ∀ (G' H' : Hp) (v : V) (N : α → Hp → Prop), Gr L G H G' H' → At K G' y v → (∀ acc', R acc' es = some d → N acc' H') → Step Q acc v H' N)) :
    tGen P (tI K L mi) g (tPT K L tt) (tP K L me) n is acc0 Step QT σ H Q := by
  refine ⟨G, ρ, ds, hs, hR, ht, h1, fun J G1 H1 g1 wk => ⟨ht.ext g1.ext P hP, fun H2 hT => ?_⟩⟩
  have g2 : Gr L G H G1 H2 := g1.trans (.of g1.sub (.tabbed (ht.ext g1.ext P hP) hT))
  have e12 : Ext L H1 H2 := .tabbed (ht.ext g1.ext P hP) hT
  refine ⟨fun i m acc H' => m = ds.length - i ∧ i ≤ ds.length ∧ ∃ Gi, Gr L G H Gi H' ∧ Ext L H1 H' ∧ (∀ a o, G1 a = some o → Gi a = some o) ∧ R acc (ds.drop i) = some d, ⟨ds.length, by simp, Nat.zero_le _, G1, g2, e12, fun _ _ e => e, by rw [List.drop_zero]; exact hr0⟩, ?_⟩
  rintro i m acc H' ⟨rfl, hi, Gi, gi, e1, up, hr⟩
  by_cases hlt : i < ds.length
  · refine .inr ?_
    obtain ⟨w1, _⟩ := wk H' (fun a o e => gi.sub a o (up a o e))
    obtain ⟨go, yl⟩ := w1 i ds[i] (List.getElem?_eq_getElem hlt)
    refine ⟨go, fun acc' H5 => ∃ Gi, Gr L G H Gi H5 ∧ Ext L H1 H5 ∧ (∀ a o, G1 a = some o → Gi a = some o) ∧ R acc' (ds.drop (i + 1)) = some d, fun acc' H5 h5 => ⟨_, by omega, rfl, hlt, h5⟩, fun x H3 hy => ?_⟩
    obtain ⟨G3, g3, a3⟩ := yl x H3 hy Gi gi.sub up
    have hR3 : Rep K G3 (capt σ n is) (captD ρ n is) := (hR.capt n is).mono fun a o e => g3.up a o (gi.up a o e)
    rw [List.drop_eq_getElem_cons hlt] at hr
    obtain ⟨ρ1, b, k1, k2, kF, kT⟩ := hturn acc ds[i] _ hr
    refine hg G3 H3 (capt σ n is) (captD ρ n is) ρ1 ds[i] x _ g3.sub hR3 a3 k1 fun σ1 hR1 hl1 hw1 => ⟨by rw [hw1, wipe_capt], G3, ρ1, b, g3.sub, hR1, ht.ext (gi.trans g3).ext, k2, fun G4 H4 g4 => ?_⟩
    have g34 := g3.trans g4
    cases b with
    | false =>
      simp only [Bool.false_eq_true, if_false]
      exact ⟨G4, gi.trans g34, e1.trans g34.ext, fun a o e => g34.up a o (up a o e), kF rfl⟩
    | true =>
      simp only [if_true]
      obtain ⟨y, k3, kS⟩ := kT rfl
      refine ⟨G4, ρ1, y, g4.sub, hR1.mono g4.up, ht.ext (gi.trans g34).ext, k3, fun v G5 H5 g5 a5 => ?_⟩
      exact kS G5 H5 v _ ((gi.trans g34).trans g5) a5 fun acc' hr' => ⟨G5, (gi.trans g34).trans g5, e1.trans (g34.trans g5).ext, fun a o e => (g34.trans g5).up a o (up a o e), hr'⟩
  · have hi' : i = ds.length := by omega
    subst hi'
    obtain ⟨_, w2⟩ := wk H' (fun a o e => gi.sub a o (up a o e))
    rw [List.drop_of_length_le (Nat.le_refl _)] at hr
    exact .inl ⟨w2 _ (Nat.le_refl _), hend acc Gi H' hr gi⟩
theorem any_parts {neg : Bool} {ρ0 : Env} {e d : D} {ds : List D} (h : anyGo neg bd tt me ρ0 (e :: ds) = some d) : ∃ ρ1 b, bd e ρ0 = some ρ1 ∧ tt ρ1 = some b ∧ (b = false → anyGo neg bd tt me ρ0 ds = some d) ∧ (b = true → ∃ y, dB me ρ1 = some y ∧ (y = neg → anyGo neg bd tt me ρ0 ds = some d) ∧ (y ≠ neg → d = .bl y)) := by
  unfold anyGo at h
  cases h1 : bd e ρ0 with
  | none => rw [h1] at h; cases h
  | some ρ1 =>
    cases h2 : tt ρ1 with
    | none => simp [h1, h2] at h
    | some b =>
      refine ⟨ρ1, b, rfl, h2, fun hb => ?_, fun hb => ?_⟩
      · subst hb; simpa [h1, h2] using h
      · subst hb
        simp only [h1, h2, Option.bind_some, if_true] at h
        cases h3 : dB me ρ1 with
        | none => rw [h3] at h; cases h
        | some y =>
          rw [h3] at h
          refine ⟨y, rfl, fun hy => ?_, fun hy => ?_⟩
          · simpa [hy] using h
          · simp only [Option.bind_some, if_neg hy, Option.some.injEq] at h
            exact h.symm
theorem dB_parts {ρ1 : Env} {y : Bool} (h : dB me ρ1 = some y) : me ρ1 = some (.bl y) := by
  unfold dB at h
  cases h1 : me ρ1 with
  | none => rw [h1] at h; cases h
  | some d =>
    rw [h1] at h
    cases d <;> simp only [Option.bind_some, toB, Option.some.injEq, reduceCtorEq] at h
    rw [h]
theorem all_imp (hP : P ∈ L) (hg : GdOk K (List.range n) g bd) : ∀ σ H Q, tP K L (dQ true n is mi bd tt me) σ H Q → tAll P (tI K L mi) g (tPT K L tt) (tP K L me) n is σ H Q := fun σ H Q ⟨G, ρ, d, hs, hR, ht, hm, q⟩ => by
  unfold dQ at hm
  cases h1 : mi ρ with
  | none => rw [h1] at hm; cases hm
  | some ds =>
    rw [h1] at hm
    refine gen_at (R := fun _ ds => anyGo true bd tt me (captD ρ n is) ds) hP hg hs hR ht h1 hm q (fun acc G' H' hr g => ?_) (fun acc e es hr => ?_)
    · cases hr
      exact q _ G' H' g rfl
    · obtain ⟨ρ1, b, k1, k2, k3, k4⟩ := any_parts hr
      refine ⟨ρ1, b, k1, k2, k3, fun hb => ?_⟩
      obtain ⟨y, k5, k6, k7⟩ := k4 hb
      refine ⟨_, dB_parts k5, fun G' H' v N g a hN => ⟨y, a, ?_⟩⟩
      cases y with
      | true => exact hN () (k6 rfl)
      | false =>
        have e := k7 (by decide)
        subst e
        exact q _ G' H' g rfl
theorem any_imp (hP : P ∈ L) (hg : GdOk K (List.range n) g bd) : ∀ σ H Q, tP K L (dQ false n is mi bd tt me) σ H Q → tAny P (tI K L mi) g (tPT K L tt) (tP K L me) n is σ H Q := fun σ H Q ⟨G, ρ, d, hs, hR, ht, hm, q⟩ => by
  unfold dQ at hm
  cases h1 : mi ρ with
  | none => rw [h1] at hm; cases hm
  | some ds =>
    rw [h1] at hm
    refine gen_at (R := fun _ ds => anyGo false bd tt me (captD ρ n is) ds) hP hg hs hR ht h1 hm q (fun acc G' H' hr g => ?_) (fun acc e es hr => ?_)
    · cases hr
      exact q _ G' H' g rfl
    · obtain ⟨ρ1, b, k1, k2, k3, k4⟩ := any_parts hr
      refine ⟨ρ1, b, k1, k2, k3, fun hb => ?_⟩
      obtain ⟨y, k5, k6, k7⟩ := k4 hb
      refine ⟨_, dB_parts k5, fun G' H' v N g a hN => ⟨y, a, ?_⟩⟩
      cases y with
      | false => exact hN () (k6 rfl)
      | true =>
        have e := k7 (by decide)
        subst e
        exact q _ G' H' g rfl
theorem sum_imp (hP : P ∈ L) (hg : GdOk K (List.range n) g bd) : ∀ σ H Q, tP K L (dSum n is mi bd tt me) σ H Q → tSum P (tI K L mi) g (tPT K L tt) (tP K L me) n is σ H Q := fun σ H Q ⟨G, ρ, d, hs, hR, ht, hm, q⟩ => by
  unfold dSum at hm
  cases h1 : mi ρ with
  | none => rw [h1] at hm; cases hm
  | some ds =>
    rw [h1] at hm
    refine gen_at (R := fun acc ds => sumGo bd tt me (captD ρ n is) acc ds) hP hg hs hR ht h1 hm q (fun acc G' H' hr g => ?_) (fun acc e es hr => ?_)
    · cases hr
      exact q _ G' H' g rfl
    · unfold sumGo at hr
      cases k1 : bd e (captD ρ n is) with
      | none => rw [k1] at hr; cases hr
      | some ρ1 =>
        cases k2 : tt ρ1 with
        | none => simp [k1, k2] at hr
        | some b =>
          refine ⟨ρ1, b, rfl, k2, fun hb => ?_, fun hb => ?_⟩
          · subst hb; simpa [k1, k2] using hr
          · subst hb
            simp only [k1, k2, Option.bind_some, if_true] at hr
            unfold dI0 at hr
            cases k3 : me ρ1 with
            | none => rw [k3] at hr; cases hr
            | some y =>
              rw [k3] at hr
              cases y <;> simp only [Option.bind_some, toI, Option.bind_none, reduceCtorEq] at hr
              rename_i y
              exact ⟨_, rfl, fun G' H' v N g a hN => ⟨y, a, hN _ hr⟩⟩
end
section
variable {X : Cx} {elt tg iter : Expr} {ifs : List Expr} {scope : Scope} {p pos gpos : Pos} {own : List Str} {caps : List (Str × Nat)} {gt : TG} {k : Nat} {c P : Addr} {L : List Addr} {mi : Env → Option (List D)} {bd : D → Env → Option Env} {tt : Env → Option Bool} {me : DM}
theorem pd_all (hc : X.calm = true) (hr : Room (k + 1) X.A) (hg : Gl X "all") (hm : X.mg "all" = none) (TB : TabB X.base X.mg c P) (hP : P ∈ L) (hcode : X.env.code = .ref c) (ok : GScp X.N X.env.scope scope own caps) (hgd : GdOk X.K (List.range own.length) gt bd) (hi : PID X L tg iter mi)
    (hgt : ∀ A s H C cl code fp pn, Room k A → PG (gX X s H (genEnv scope cl C code builtinsNs X.env) (own ++ caps.map (·.1)) fp pn A) tg gt)
    (htt : ∀ A s H C cl code fp pn, Room k A → PTs (gX X s H (genEnv scope cl C code builtinsNs X.env) (own ++ caps.map (·.1)) fp pn A) ifs (tPT X.K L tt))
    (hte : ∀ A s H C cl code fp pn, Room k A → PD (gX X s H (genEnv scope cl C code builtinsNs X.env) (own ++ caps.map (·.1)) fp pn A) L elt me)
    (hs : ∀ v, genFold iter X.env v = pure v := by intro _; rfl)
    (he : starEach [.GeneratorExp elt [⟨tg, iter, ifs, 0⟩] scope gpos] X.env = (false, eval (.GeneratorExp elt [⟨tg, iter, ifs, 0⟩] scope gpos) X.env) :: starEach [] X.env := by rfl) :
    PD X L (.Call (.Name "all" p) [.GeneratorExp elt [⟨tg, iter, ifs, 0⟩] scope gpos] [] pos) (dQ true own.length (caps.map (·.2)) mi bd tt me) := PE.imp (pe_all (te := tP X.K L me) hc hr hg hm TB hcode ok hi hgt htt hte hs he) (all_imp hP hgd)
theorem pd_any (hc : X.calm = true) (hr : Room (k + 1) X.A) (hg : Gl X "any") (hm : X.mg "any" = none) (TB : TabB X.base X.mg c P) (hP : P ∈ L) (hcode : X.env.code = .ref c) (ok : GScp X.N X.env.scope scope own caps) (hgd : GdOk X.K (List.range own.length) gt bd) (hi : PID X L tg iter mi)
    (hgt : ∀ A s H C cl code fp pn, Room k A → PG (gX X s H (genEnv scope cl C code builtinsNs X.env) (own ++ caps.map (·.1)) fp pn A) tg gt)
    (htt : ∀ A s H C cl code fp pn, Room k A → PTs (gX X s H (genEnv scope cl C code builtinsNs X.env) (own ++ caps.map (·.1)) fp pn A) ifs (tPT X.K L tt))
    (hte : ∀ A s H C cl code fp pn, Room k A → PD (gX X s H (genEnv scope cl C code builtinsNs X.env) (own ++ caps.map (·.1)) fp pn A) L elt me)
    (hs : ∀ v, genFold iter X.env v = pure v := by intro _; rfl)
    (he : starEach [.GeneratorExp elt [⟨tg, iter, ifs, 0⟩] scope gpos] X.env = (false, eval (.GeneratorExp elt [⟨tg, iter, ifs, 0⟩] scope gpos) X.env) :: starEach [] X.env := by rfl) :
    PD X L (.Call (.Name "any" p) [.GeneratorExp elt [⟨tg, iter, ifs, 0⟩] scope gpos] [] pos) (dQ false own.length (caps.map (·.2)) mi bd tt me) := PE.imp (pe_any (te := tP X.K L me) hc hr hg hm TB hcode ok hi hgt htt hte hs he) (any_imp hP hgd)
theorem pd_sum (hc : X.calm = true) (hr : Room (k + 1) X.A) (hg : Gl X "sum") (hm : X.mg "sum" = none) (TB : TabB X.base X.mg c P) (hP : P ∈ L) (hcode : X.env.code = .ref c) (ok : GScp X.N X.env.scope scope own caps) (hgd : GdOk X.K (List.range own.length) gt bd) (hi : PID X L tg iter mi)
    (hgt : ∀ A s H C cl code fp pn, Room k A → PG (gX X s H (genEnv scope cl C code builtinsNs X.env) (own ++ caps.map (·.1)) fp pn A) tg gt)
    (htt : ∀ A s H C cl code fp pn, Room k A → PTs (gX X s H (genEnv scope cl C code builtinsNs X.env) (own ++ caps.map (·.1)) fp pn A) ifs (tPT X.K L tt))
    (hte : ∀ A s H C cl code fp pn, Room k A → PD (gX X s H (genEnv scope cl C code builtinsNs X.env) (own ++ caps.map (·.1)) fp pn A) L elt me)
    (hs : ∀ v, genFold iter X.env v = pure v := by intro _; rfl)
    (he : starEach [.GeneratorExp elt [⟨tg, iter, ifs, 0⟩] scope gpos] X.env = (false, eval (.GeneratorExp elt [⟨tg, iter, ifs, 0⟩] scope gpos) X.env) :: starEach [] X.env := by rfl) :
    PD X L (.Call (.Name "sum" p) [.GeneratorExp elt [⟨tg, iter, ifs, 0⟩] scope gpos] [] pos) (dSum own.length (caps.map (·.2)) mi bd tt me) := PE.imp (pe_sum (te := tP X.K L me) hc hr hg hm TB hcode ok hi hgt htt hte hs he) (sum_imp hP hgd)
end
end DN

set_option Elab.async false
set_option linter.all false
set_option maxRecDepth 100000
set_option maxHeartbeats 2000000
/-! Lists that a def owns. -/
namespace DN
open PySem PySem.Spec PyProof.Rows L2 GxR GX
def Scal : D → Bool
  | .non => true
  | .bl _ => true
  | .int _ => true
  | .str _ => true
  | _ => false
def Flat : D → Bool
  | .lst ds => ds.all Scal
  | d => Scal d
theorem scal_move {K : PySem.W.Frag} {G G1 : Hp} {d : D} {v : V} (h : Scal d = true) (a : At K G d v) : At K G1 d v := by
  cases d <;> first | exact a | cases h
theorem scals_move {K : PySem.W.Frag} {G G1 : Hp} : ∀ {ds : List D} {xs : List V}, ds.all Scal = true → Ats K G ds xs → Ats K G1 ds xs
  | [], _, _, a => a
  | d :: ds, _, h, ⟨x, r, e, a, t⟩ => by
    rw [List.all_cons, Bool.and_eq_true] at h
    exact ⟨x, r, e, scal_move h.1 a, scals_move h.2 t⟩
mutual
/-- v is d; the objects at A are the def's own. dp: all of its lists and tuples are -/
def Own (K : PySem.W.Frag) (G H : Hp) (dp : Bool) : D → V → List Addr → Prop
  | .lst ds, v, A => (dp = false ∧ A = [] ∧ At K G (.lst ds) v) ∨ ∃ a xs B, v = .ref a ∧ H a = some (.lst xs) ∧ A = a :: B ∧ Owns K G H dp ds xs B
  | .tup ds, v, A => (dp = false ∧ A = [] ∧ At K G (.tup ds) v) ∨ ∃ a xs B, v = .ref a ∧ H a = some (.tup xs) ∧ A = a :: B ∧ Owns K G H dp ds xs B
  | .non, v, A => A = [] ∧ At K G .non v
  | .bl b, v, A => A = [] ∧ At K G (.bl b) v
  | .int b, v, A => A = [] ∧ At K G (.int b) v
  | .str b, v, A => A = [] ∧ At K G (.str b) v
  | .dct, v, A => dp = false ∧ A = [] ∧ At K G .dct v
  | .scr ns, v, A => dp = false ∧ A = [] ∧ At K G (.scr ns) v
def Owns (K : PySem.W.Frag) (G H : Hp) (dp : Bool) : List D → List V → List Addr → Prop
  | [], xs, A => xs = [] ∧ A = []
  | d :: ds, xs, A => ∃ x r B C, xs = x :: r ∧ A = B ++ C ∧ Own K G H dp d x B ∧ Owns K G H dp ds r C
end
section
variable {K : PySem.W.Frag} {L : List Addr} {G G1 H H1 : Hp}
mutual
theorem Own.at {dp : Bool} (u : ∀ a o, G a = some o → G1 a = some o) : ∀ {d : D} {v : V} {A : List Addr}, (∀ a ∈ A, G1 a = H a) → Own K G H dp d v A → At K G1 d v
  | .lst _, _, _, e, h => by
    rcases h with ⟨_, _, h⟩ | ⟨a, xs, B, h1, h2, rfl, h3⟩
    · exact h.mono u
    · exact ⟨a, xs, h1, (e a List.mem_cons_self).trans h2, Owns.at u (fun b hb => e b (List.mem_cons_of_mem _ hb)) h3⟩
  | .tup _, _, _, e, h => by
    rcases h with ⟨_, _, h⟩ | ⟨a, xs, B, h1, h2, rfl, h3⟩
    · exact h.mono u
    · exact ⟨a, xs, h1, (e a List.mem_cons_self).trans h2, Owns.at u (fun b hb => e b (List.mem_cons_of_mem _ hb)) h3⟩
  | .non, _, _, _, h => h.2
  | .bl _, _, _, _, h => h.2
  | .int _, _, _, _, h => h.2
  | .str _, _, _, _, h => h.2
  | .dct, _, _, _, h => h.2.2.mono u
  | .scr _, _, _, _, h => h.2.2.mono u
theorem Owns.at {dp : Bool} (u : ∀ a o, G a = some o → G1 a = some o) : ∀ {ds : List D} {xs : List V} {A : List Addr}, (∀ a ∈ A, G1 a = H a) → Owns K G H dp ds xs A → Ats K G1 ds xs
  | [], _, _, _, h => h.1
  | _ :: _, _, _, e, h => by
    obtain ⟨x, r, B, C, rfl, rfl, h1, h2⟩ := h
    exact ⟨x, r, rfl, Own.at u (fun a ha => e a (List.mem_append_left _ ha)) h1, Owns.at u (fun a ha => e a (List.mem_append_right _ ha)) h2⟩
end
mutual
theorem Own.some {dp : Bool} : ∀ {d : D} {v : V} {A : List Addr}, Own K G H dp d v A → ∀ a ∈ A, ∃ o, H a = some o ∧ ∀ ps, o ≠ .tbl ps
  | .lst _, _, _, h, b, hb => by
    rcases h with ⟨_, rfl, _⟩ | ⟨a, xs, B, h1, h2, rfl, h3⟩
    · cases hb
    · rcases List.mem_cons.mp hb with rfl | hb
      · exact ⟨_, h2, fun ps z => by cases z⟩
      · exact Owns.some h3 b hb
  | .tup _, _, _, h, b, hb => by
    rcases h with ⟨_, rfl, _⟩ | ⟨a, xs, B, h1, h2, rfl, h3⟩
    · cases hb
    · rcases List.mem_cons.mp hb with rfl | hb
      · exact ⟨_, h2, fun ps z => by cases z⟩
      · exact Owns.some h3 b hb
  | .non, _, _, h, _, hb => by rw [h.1] at hb; cases hb
  | .bl _, _, _, h, _, hb => by rw [h.1] at hb; cases hb
  | .int _, _, _, h, _, hb => by rw [h.1] at hb; cases hb
  | .str _, _, _, h, _, hb => by rw [h.1] at hb; cases hb
  | .dct, _, _, h, _, hb => by rw [h.2.1] at hb; cases hb
  | .scr _, _, _, h, _, hb => by rw [h.2.1] at hb; cases hb
theorem Owns.some {dp : Bool} : ∀ {ds : List D} {xs : List V} {A : List Addr}, Owns K G H dp ds xs A → ∀ a ∈ A, ∃ o, H a = some o ∧ ∀ ps, o ≠ .tbl ps
  | [], _, _, h, _, hb => by rw [h.2] at hb; cases hb
  | _ :: _, _, _, h, b, hb => by
    obtain ⟨x, r, B, C, rfl, rfl, h1, h2⟩ := h
    rcases List.mem_append.mp hb with hb | hb
    · exact Own.some h1 b hb
    · exact Owns.some h2 b hb
end
mutual
theorem Own.keep {dp : Bool} (u : ∀ a o, G a = .some o → G1 a = .some o) : ∀ {d : D} {v : V} {A : List Addr}, (∀ a ∈ A, ∀ o, H a = .some o → (∀ ps, o ≠ .tbl ps) → H1 a = .some o) → Own K G H dp d v A → Own K G1 H1 dp d v A
  | .lst _, _, _, e, h => by
    rcases h with ⟨h0, h1, h⟩ | ⟨a, xs, B, h1, h2, rfl, h3⟩
    · exact .inl ⟨h0, h1, h.mono u⟩
    · exact .inr ⟨a, xs, B, h1, e a List.mem_cons_self _ h2 (fun ps z => by cases z), rfl, Owns.keep u (fun b hb => e b (List.mem_cons_of_mem _ hb)) h3⟩
  | .tup _, _, _, e, h => by
    rcases h with ⟨h0, h1, h⟩ | ⟨a, xs, B, h1, h2, rfl, h3⟩
    · exact .inl ⟨h0, h1, h.mono u⟩
    · exact .inr ⟨a, xs, B, h1, e a List.mem_cons_self _ h2 (fun ps z => by cases z), rfl, Owns.keep u (fun b hb => e b (List.mem_cons_of_mem _ hb)) h3⟩
  | .non, _, _, _, h => h
  | .bl _, _, _, _, h => h
  | .int _, _, _, _, h => h
  | .str _, _, _, _, h => h
  | .dct, _, _, _, h => ⟨h.1, h.2.1, h.2.2.mono u⟩
  | .scr _, _, _, _, h => ⟨h.1, h.2.1, h.2.2.mono u⟩
theorem Owns.keep {dp : Bool} (u : ∀ a o, G a = .some o → G1 a = .some o) : ∀ {ds : List D} {xs : List V} {A : List Addr}, (∀ a ∈ A, ∀ o, H a = .some o → (∀ ps, o ≠ .tbl ps) → H1 a = .some o) → Owns K G H dp ds xs A → Owns K G1 H1 dp ds xs A
  | [], _, _, _, h => h
  | _ :: _, _, _, e, h => by
    obtain ⟨x, r, B, C, rfl, rfl, h1, h2⟩ := h
    exact ⟨x, r, B, C, rfl, rfl, Own.keep u (fun a ha => e a (List.mem_append_left _ ha)) h1, Owns.keep u (fun a ha => e a (List.mem_append_right _ ha)) h2⟩
end
mutual
theorem Own.move : ∀ {d : D} {v : V} {A : List Addr}, Own K G H true d v A → Own K G1 H true d v A
  | .lst _, _, _, h => by
    rcases h with ⟨h0, _, _⟩ | ⟨a, xs, B, h1, h2, rfl, h3⟩
    · cases h0
    · exact .inr ⟨a, xs, B, h1, h2, rfl, Owns.move h3⟩
  | .tup _, _, _, h => by
    rcases h with ⟨h0, _, _⟩ | ⟨a, xs, B, h1, h2, rfl, h3⟩
    · cases h0
    · exact .inr ⟨a, xs, B, h1, h2, rfl, Owns.move h3⟩
  | .non, _, _, h => h
  | .bl _, _, _, h => h
  | .int _, _, _, h => h
  | .str _, _, _, h => h
  | .dct, _, _, h => nomatch h.1
  | .scr _, _, _, h => nomatch h.1
theorem Owns.move : ∀ {ds : List D} {xs : List V} {A : List Addr}, Owns K G H true ds xs A → Owns K G1 H true ds xs A
  | [], _, _, h => h
  | _ :: _, _, _, h => by
    obtain ⟨x, r, B, C, rfl, rfl, h1, h2⟩ := h
    exact ⟨x, r, B, C, rfl, rfl, Own.move h1, Owns.move h2⟩
end
mutual
theorem Own.weak {dp : Bool} : ∀ {d : D} {v : V} {A : List Addr}, Own K G H dp d v A → Own K G H false d v A
  | .lst _, _, _, h => by
    rcases h with ⟨_, h1, h⟩ | ⟨a, xs, B, h1, h2, h4, h3⟩
    · exact .inl ⟨rfl, h1, h⟩
    · exact .inr ⟨a, xs, B, h1, h2, h4, Owns.weak h3⟩
  | .tup _, _, _, h => by
    rcases h with ⟨_, h1, h⟩ | ⟨a, xs, B, h1, h2, h4, h3⟩
    · exact .inl ⟨rfl, h1, h⟩
    · exact .inr ⟨a, xs, B, h1, h2, h4, Owns.weak h3⟩
  | .non, _, _, h => h
  | .bl _, _, _, h => h
  | .int _, _, _, h => h
  | .str _, _, _, h => h
  | .dct, _, _, h => ⟨rfl, h.2⟩
  | .scr _, _, _, h => ⟨rfl, h.2⟩
theorem Owns.weak {dp : Bool} : ∀ {ds : List D} {xs : List V} {A : List Addr}, Owns K G H dp ds xs A → Owns K G H false ds xs A
  | [], _, _, h => h
  | _ :: _, _, _, h => by
    obtain ⟨x, r, B, C, rfl, rfl, h1, h2⟩ := h
    exact ⟨x, r, B, C, rfl, rfl, Own.weak h1, Owns.weak h2⟩
end
theorem own_scal {dp : Bool} {d : D} {v : V} (h : Scal d = true) (a : At K G d v) : Own K G H dp d v [] := by
  cases d <;> first | exact ⟨rfl, a⟩ | cases h
theorem own_plain {d : D} {v : V} (a : At K G d v) : Own K G H false d v [] := by
  cases d <;> first | exact ⟨rfl, a⟩ | exact .inl ⟨rfl, rfl, a⟩ | exact ⟨rfl, rfl, a⟩
theorem owns_scal {dp : Bool} : ∀ {ds : List D} {xs : List V}, ds.all Scal = true → Ats K G ds xs → Owns K G H dp ds xs []
  | [], _, _, a => ⟨a, rfl⟩
  | d :: ds, _, h, ⟨x, r, e, a, t⟩ => by
    rw [List.all_cons, Bool.and_eq_true] at h
    exact ⟨x, r, [], [], e, rfl, own_scal h.1 a, owns_scal h.2 t⟩
theorem owns_plain : ∀ {ds : List D} {xs : List V}, Ats K G ds xs → Owns K G H false ds xs []
  | [], _, a => ⟨a, rfl⟩
  | d :: ds, _, ⟨x, r, e, a, t⟩ => ⟨x, r, [], [], e, rfl, own_plain a, owns_plain t⟩
theorem Owns.app {dp : Bool} : ∀ {ds es : List D} {xs ys : List V} {A B : List Addr}, Owns K G H dp ds xs A → Owns K G H dp es ys B → Owns K G H dp (ds ++ es) (xs ++ ys) (A ++ B)
  | [], _, _, _, _, _, h, t => by
    obtain ⟨rfl, rfl⟩ := h
    exact t
  | _ :: _, _, _, _, _, _, h, t => by
    obtain ⟨x, r, B, C, rfl, rfl, h1, h2⟩ := h
    exact ⟨x, r ++ _, B, C ++ _, rfl, by rw [List.append_assoc], h1, Owns.app h2 t⟩
theorem Owns.one {dp : Bool} {d : D} {v : V} {A : List Addr} (h : Own K G H dp d v A) : Owns K G H dp [d] [v] A := ⟨v, [], A, [], rfl, by rw [List.append_nil], h, rfl, rfl⟩
theorem Owns.length {dp : Bool} : ∀ {ds : List D} {xs : List V} {A : List Addr}, Owns K G H dp ds xs A → xs.length = ds.length
  | [], _, _, h => by rw [h.1]; rfl
  | _ :: _, _, _, h => by
    obtain ⟨x, r, B, C, rfl, rfl, h1, h2⟩ := h
    rw [List.length_cons, List.length_cons, Owns.length h2]
/-- the addresses are out of what is seen, and were none at H0 -/
structure Fresh (H0 G : Hp) (A : List Addr) : Prop where
  nd : A.Nodup
  out : ∀ a ∈ A, G a = none
  nw : ∀ a ∈ A, H0 a = none
theorem Fresh.nil {H0 G : Hp} : Fresh H0 G [] := ⟨List.nodup_nil, fun a h => (nomatch h), fun a h => (nomatch h)⟩
/-- a list itself, if it is one, is owned -/
def Held (d : D) (A : List Addr) : Prop := ∀ ds, d = .lst ds → A ≠ []
theorem Own.list {dp : Bool} {ds : List D} {v : V} {A : List Addr} (h : Own K G H dp (.lst ds) v A) (n : Held (.lst ds) A) : ∃ a xs B, v = .ref a ∧ H a = .some (.lst xs) ∧ A = a :: B ∧ Owns K G H dp ds xs B := by
  rcases h with ⟨_, rfl, _⟩ | h
  · exact absurd rfl (n ds rfl)
  · exact h
end
end DN

set_option Elab.async false
set_option linter.all false
set_option maxRecDepth 100000
set_option maxHeartbeats 2000000
/-! Statements over plain data; lists that a def owns may grow. -/
namespace DN
open PySem PySem.Spec PyProof.Rows L2 GxR GX
/-! ### owned slots: each with whether all of its lists are owned -/
abbrev Ow := List (Nat × Bool)
def ks (O : Ow) : List Nat := O.map (·.1)
def rm (i : Nat) : Ow → Ow
  | [] => []
  | p :: r => bif Nat.beq i p.1 then rm i r else p :: rm i r
theorem mem_rm {i : Nat} {p : Nat × Bool} : ∀ {O : Ow}, p ∈ rm i O ↔ p ∈ O ∧ i ≠ p.1
  | [] => by simp [rm]
  | q :: r => by
    unfold rm
    by_cases h : i = q.1
    · rw [h, show Nat.beq q.1 q.1 = true from Nat.beq_refl _, cond_true, ← h, mem_rm (O := r), List.mem_cons]
      constructor
      · exact fun ⟨a, b⟩ => ⟨.inr a, b⟩
      · exact fun ⟨a, b⟩ => ⟨a.resolve_left fun z => b (by rw [z]; exact h), b⟩
    · have hb : Nat.beq i q.1 = false := by
        cases e : Nat.beq i q.1 with
        | false => rfl
        | true => exact absurd (Nat.eq_of_beq_eq_true e) h
      rw [hb, cond_false, List.mem_cons, List.mem_cons, mem_rm (O := r)]
      constructor
      · rintro (z | ⟨a, b⟩)
        · exact ⟨.inl z, fun y => h (by rw [y, z])⟩
        · exact ⟨.inr a, b⟩
      · rintro ⟨z | a, b⟩
        · exact .inl z
        · exact .inr ⟨a, b⟩
theorem mem_ks {i : Nat} {b : Bool} {O : Ow} (h : (i, b) ∈ O) : i ∈ ks O := List.mem_map.mpr ⟨_, h, rfl⟩
theorem of_ks {i : Nat} {O : Ow} (h : i ∈ ks O) : ∃ b, (i, b) ∈ O := by
  obtain ⟨⟨j, b⟩, h1, rfl⟩ := List.mem_map.mp h
  exact ⟨b, h1⟩
structure RepO (K : PySem.W.Frag) (H0 G H : Hp) (O : Ow) (σ : L2.St) (ρ : Env) : Prop where
  len : σ.length = ρ.length
  pl : ∀ (i : Nat) (d : D), i ∉ ks O → ρ[i]? = some (some d) → ∃ v, σ[i]? = some (some v) ∧ At K G d v
  ow : ∃ ft : Nat → List Addr, (∀ p ∈ O, ∀ d, ρ[p.1]? = some (some d) → ∃ v, σ[p.1]? = some (some v) ∧ Own K G H p.2 d v (ft p.1) ∧ Held d (ft p.1)) ∧ (∀ p ∈ O, Fresh H0 G (ft p.1) ∧ ∀ a ∈ ft p.1, ∃ o, H a = some o ∧ ∀ ps, o ≠ .tbl ps) ∧ ∀ p ∈ O, ∀ q ∈ O, p.1 ≠ q.1 → ∀ a ∈ ft p.1, a ∉ ft q.1
theorem wipeD_at (ρ : Env) : ∀ (vs : List Nat) (j : Nat), (wipeD ρ vs)[j]? = if j ∈ vs then (ρ[j]?).map fun _ => none else ρ[j]?
  | [], j => by simp [wipeD]
  | v :: vs, j => by
    show ((wipeD ρ vs).set v none)[j]? = _
    have hl : ∀ us : List Nat, (wipeD ρ us).length = ρ.length := fun us => by
      induction us with
      | nil => rfl
      | cons u us ih => show ((wipeD ρ us).set u none).length = _; rw [List.length_set, ih]
    by_cases h : v = j
    · subst h
      rw [if_pos List.mem_cons_self, List.getElem?_set]
      rw [if_pos rfl]
      by_cases hv : v < ρ.length
      · rw [if_pos (by rw [hl]; exact hv), List.getElem?_eq_getElem hv]; rfl
      · rw [if_neg (by rw [hl]; exact hv), List.getElem?_eq_none (Nat.le_of_not_lt hv)]; rfl
    · rw [List.getElem?_set_ne h, wipeD_at ρ vs j]
      have e : (j ∈ v :: vs) = (j ∈ vs) := by
        apply propext
        constructor
        · intro hm
          rcases List.mem_cons.mp hm with z | z
          · exact absurd z.symm h
          · exact z
        · exact List.mem_cons_of_mem _
      simp only [e]
theorem wipeD_len (ρ : Env) : ∀ us : List Nat, (wipeD ρ us).length = ρ.length
  | [] => rfl
  | u :: us => by show ((wipeD ρ us).set u none).length = _; rw [List.length_set, wipeD_len ρ us]
section
variable {K : PySem.W.Frag} {L : List Addr} {H0 G0 G H G1 H1 : Hp} {O : Ow} {σ : L2.St} {ρ : Env}
theorem RepO.gr (R : RepO K H0 G H O σ ρ) (g : Gr L G H G1 H1) : RepO K H0 G1 H1 O σ ρ := by
  obtain ⟨ft, h1, h2, h3⟩ := R.ow
  refine ⟨R.len, fun i d hi e => let ⟨v, k1, k2⟩ := R.pl i d hi e; ⟨v, k1, k2.mono g.up⟩, ft, fun p hp d e => ?_, fun p hp => ?_, h3⟩
  · obtain ⟨v, k1, k2, k3⟩ := h1 p hp d e
    exact ⟨v, k1, Own.keep g.up (fun a ha o e1 n => g.ext.keep a o e1 n) k2, k3⟩
  · obtain ⟨f, s⟩ := h2 p hp
    refine ⟨⟨f.nd, fun a ha => ?_, f.nw⟩, fun a ha => ?_⟩
    · obtain ⟨o, ho, _⟩ := s a ha
      cases z : G1 a with
      | none => rfl
      | some u =>
        rcases g.new a (by rw [z]; simp) with y | y
        · exact absurd (f.out a ha) y
        · rw [ho] at y; cases y
    · obtain ⟨o, ho, n⟩ := s a ha
      exact ⟨o, g.ext.keep a o ho n, n⟩
theorem RepO.plain (R : RepO K H0 G H O σ ρ) : Rep K G σ (wipeD ρ (ks O)) := ⟨by rw [wipeD_len]; exact R.len, fun i d e => by
  rw [wipeD_at] at e
  by_cases hi : i ∈ ks O
  · rw [if_pos hi] at e
    cases z : ρ[i]? with
    | none => rw [z] at e; cases e
    | some o => rw [z] at e; cases e
  · rw [if_neg hi] at e
    exact R.pl i d hi e⟩
theorem RepO.of (R : Rep K G σ ρ) : RepO K H0 G H [] σ ρ := ⟨R.1, fun i d _ e => R.2 i d e, ⟨fun _ => [], ⟨fun p h => (List.not_mem_nil h).elim, fun p h => (List.not_mem_nil h).elim, fun p h => (List.not_mem_nil h).elim⟩⟩⟩
theorem RepO.nil (R : RepO K H0 G H [] σ ρ) : Rep K G σ ρ := ⟨R.len, fun i d e => R.pl i d (by simp [ks]) e⟩
open Classical in
noncomputable def seen (G H : Hp) (A : Addr → Prop) : Hp := fun a => if A a then H a else G a
/-- owned lists shown -/
theorem RepO.frz (R : RepO K H0 G H O σ ρ) (g : Gr L G0 H0 G H) (O2 : Ow) (hsub : ∀ p ∈ O2, p ∈ O) : ∃ Gv, Gr L G0 H0 Gv H ∧ RepO K H0 Gv H O2 σ ρ ∧ ∀ a o, G a = some o → Gv a = some o := by
  obtain ⟨ft, h1, h2, h3⟩ := R.ow
  let A : Addr → Prop := fun a => ∃ p ∈ O, p.1 ∉ ks O2 ∧ a ∈ ft p.1
  have hA : ∀ a, A a → G a = none ∧ H0 a = none ∧ ∃ o, H a = some o ∧ ∀ ps, o ≠ .tbl ps := fun a ⟨p, hp, _, ha⟩ => ⟨(h2 p hp).1.out a ha, (h2 p hp).1.nw a ha, (h2 p hp).2 a ha⟩
  have up : ∀ a o, G a = some o → seen G H A a = some o := fun a o e => by
    unfold seen
    by_cases h : A a
    · rw [(hA a h).1] at e; cases e
    · rw [if_neg h]; exact e
  refine ⟨seen G H A, ⟨fun a o e => ?_, fun a o e => up a o (g.up a o e), g.ext, fun a e => ?_⟩, ⟨R.len, fun i d hi e => ?_, ft, fun p hp d e => ?_, fun p hp => ?_, fun p hp q hq => h3 p (hsub p hp) q (hsub q hq)⟩, up⟩
  · unfold seen at e
    by_cases h : A a
    · rw [if_pos h] at e
      obtain ⟨_, _, o', hx, n⟩ := hA a h
      rw [hx] at e
      cases e
      exact ⟨hx, n⟩
    · rw [if_neg h] at e
      exact g.sub a o e
  · unfold seen at e
    by_cases h : A a
    · exact .inr (hA a h).2.1
    · rw [if_neg h] at e
      exact g.new a e
  · by_cases hO : i ∈ ks O
    · obtain ⟨b, hb⟩ := of_ks hO
      obtain ⟨v, k1, k2, _⟩ := h1 (i, b) hb d e
      refine ⟨v, k1, Own.at up (fun a ha => ?_) k2⟩
      unfold seen
      rw [if_pos (show A a from ⟨(i, b), hb, hi, ha⟩)]
    · obtain ⟨v, k1, k2⟩ := R.pl i d hO e
      exact ⟨v, k1, k2.mono up⟩
  · obtain ⟨v, k1, k2, k3⟩ := h1 p (hsub p hp) d e
    exact ⟨v, k1, Own.keep up (fun a _ o e1 _ => e1) k2, k3⟩
  · obtain ⟨f, s⟩ := h2 p (hsub p hp)
    refine ⟨⟨f.nd, fun a ha => ?_, f.nw⟩, s⟩
    unfold seen
    by_cases h : A a
    · obtain ⟨q, hq, hq2, ha2⟩ := h
      have hne : p.1 ≠ q.1 := fun z => hq2 (by rw [← z]; exact List.mem_map.mpr ⟨p, hp, rfl⟩)
      exact absurd ha2 (h3 p (hsub p hp) q hq hne a ha)
    · rw [if_neg h]; exact f.out a ha
theorem RepO.view (R : RepO K H0 G H O σ ρ) (g : Gr L G0 H0 G H) : ∃ Gv, Gr L G0 H0 Gv H ∧ Rep K Gv σ ρ ∧ ∀ a o, G a = some o → Gv a = some o := by
  obtain ⟨Gv, h1, h2, h3⟩ := R.frz g [] (fun i h => by simp at h)
  exact ⟨Gv, h1, h2.nil, h3⟩
theorem getset {α : Type} {l : List α} {i j : Nat} {x y : α} (h : (l.set i x)[j]? = some y) : (i = j ∧ x = y ∧ i < l.length) ∨ (i ≠ j ∧ l[j]? = some y) := by
  by_cases hij : i = j
  · subst hij
    by_cases hl : i < l.length
    · rw [List.getElem?_set_self hl] at h
      exact .inl ⟨rfl, Option.some.inj h, hl⟩
    · rw [List.getElem?_eq_none (by simpa using Nat.le_of_not_lt hl)] at h
      cases h
  · rw [List.getElem?_set_ne hij] at h
    exact .inr ⟨hij, h⟩
theorem RepO.setP {d : D} {v : V} {i : Nat} (R : RepO K H0 G H O σ ρ) (a : At K G d v) : RepO K H0 G H (rm i O) (σ.set i (some v)) (ρ.set i (some d)) := by
  obtain ⟨ft, h1, h2, h3⟩ := R.ow
  refine ⟨by rw [List.length_set, List.length_set]; exact R.len, fun j e hj h => ?_, ft, fun p hp e h => ?_, fun p hp => h2 p (mem_rm.mp hp).1, fun p hp q hq => h3 p (mem_rm.mp hp).1 q (mem_rm.mp hq).1⟩
  · rcases getset h with ⟨rfl, e1, hl⟩ | ⟨hij, h⟩
    · cases e1
      exact ⟨v, List.getElem?_set_self (by rw [R.len]; exact hl), a⟩
    · rw [List.getElem?_set_ne hij]
      refine R.pl j e (fun z => hj ?_) h
      obtain ⟨b, hb⟩ := of_ks z
      exact mem_ks (mem_rm.mpr ⟨hb, hij⟩)
  · obtain ⟨k1, hij⟩ := mem_rm.mp hp
    rw [List.getElem?_set_ne hij] at h ⊢
    exact h1 p k1 e h
/-- the slots of O out of ρ, the others out of ρ1 -/
def mrg : List Nat → Env → Env → Env
  | [], _, ρ1 => ρ1
  | i :: O, ρ, ρ1 => (mrg O ρ ρ1).set i (ρ[i]?).join
theorem mrg_len (ρ ρ1 : Env) : ∀ O, (mrg O ρ ρ1).length = ρ1.length
  | [] => rfl
  | i :: O => by show ((mrg O ρ ρ1).set i _).length = _; rw [List.length_set, mrg_len ρ ρ1 O]
theorem mrg_out {ρ ρ1 : Env} {j : Nat} : ∀ {O}, j ∉ O → (mrg O ρ ρ1)[j]? = ρ1[j]?
  | [], _ => rfl
  | i :: O, h => by
    show ((mrg O ρ ρ1).set i _)[j]? = _
    rw [List.getElem?_set_ne fun z => h (by rw [z]; exact List.mem_cons_self)]
    exact mrg_out fun z => h (List.mem_cons_of_mem _ z)
theorem mrg_in {ρ ρ1 : Env} {j : Nat} {d : D} : ∀ {O}, j ∈ O → (mrg O ρ ρ1)[j]? = some (some d) → ρ[j]? = some (some d)
  | [], h, _ => by simp at h
  | i :: O, h, e => by
    have e : ((mrg O ρ ρ1).set i (ρ[i]?).join)[j]? = some (some d) := e
    rcases getset e with ⟨rfl, e1, _⟩ | ⟨hij, e⟩
    · cases z : ρ[i]? with
      | none => rw [z] at e1; cases e1
      | some o => rw [z] at e1; exact congrArg some e1
    · rcases List.mem_cons.mp h with z | z
      · exact absurd z.symm hij
      · exact mrg_in z e
theorem RepO.bind {vs : List Nat} {σ1 : L2.St} {ρ1 : Env} (R : RepO K H0 G H O σ ρ) (hv : ∀ i ∈ ks O, i ∉ vs) (R1 : Rep K G σ1 ρ1) (hw : wipe σ1 vs = wipe σ vs) : RepO K H0 G H O σ1 (mrg (ks O) ρ ρ1) := by
  obtain ⟨ft, h1, h2, h3⟩ := R.ow
  have same : ∀ j, j ∉ vs → σ1[j]? = σ[j]? := fun j hj => by
    have e : (wipe σ1 vs)[j]? = (wipe σ vs)[j]? := congrArg (fun l : L2.St => l[j]?) hw
    rw [wipe_at, wipe_at, if_neg hj, if_neg hj] at e
    exact e
  refine ⟨by rw [mrg_len]; exact R1.1, fun j d hj e => ?_, ft, fun p hp d e => ?_, h2, h3⟩
  · rw [mrg_out hj] at e
    exact R1.2 j d e
  · have hm : p.1 ∈ ks O := List.mem_map.mpr ⟨p, hp, rfl⟩
    obtain ⟨v, k1, k2⟩ := h1 p hp d (mrg_in hm e)
    exact ⟨v, by rw [same p.1 (hv p.1 hm)]; exact k1, k2⟩
theorem Gr.base {G' H' : Hp} (g : Gr L G0 H0 G1 H1) (g' : Gr L G1 H0 G' H') : Gr L G0 H0 G' H' := ⟨g'.sub, fun a o e => g'.up a o (g.up a o e), g'.ext, fun a e => (g'.new a e).elim (fun z => g.new a z) .inr⟩
theorem Gr.self (g : Gr L G0 H0 G1 H1) : Gr L G1 H0 G1 H1 := ⟨g.sub, fun _ _ e => e, g.ext, fun _ e => .inl e⟩
/-- what is at an owned slot -/
theorem RepO.get {i : Nat} {b : Bool} {d : D} (R : RepO K H0 G H O σ ρ) (hi : (i, b) ∈ O) (e : ρ[i]? = some (some d)) : ∃ v A, σ[i]? = some (some v) ∧ Own K G H b d v A ∧ Held d A ∧ Fresh H0 G A := by
  obtain ⟨ft, h1, h2, _⟩ := R.ow
  obtain ⟨v, k1, k2, k3⟩ := h1 (i, b) hi d e
  exact ⟨v, _, k1, k2, k3, (h2 (i, b) hi).1⟩
/-- an owned list grows by what is plain -/
theorem RepO.put {i : Nat} {b : Bool} {a : Addr} {ds : List D} {xs : List V} {d : D} {y : V} (R : RepO K H0 G H O σ ρ) (hO : (ks O).Nodup) (hi : (i, b) ∈ O) (e : ρ[i]? = some (some (.lst ds))) (ha : σ[i]? = some (some (.ref a))) (hx : H a = some (.lst xs)) (t : Own K G H b d y []) : RepO K H0 G (upd H a (.lst (xs ++ [y]))) O σ (ρ.set i (some (.lst (ds ++ [d])))) := by
  obtain ⟨ft, h1, h2, h3⟩ := R.ow
  obtain ⟨v, k1, k2, k3⟩ := h1 (i, b) hi _ e
  rw [ha] at k1
  cases k1
  obtain ⟨a', xs', B, e1, e2, e3, e4⟩ := k2.list k3
  cases e1
  rw [hx] at e2
  cases e2
  have hl : i < ρ.length := (List.getElem?_eq_some_iff.mp e).1
  have f := (h2 (i, b) hi).1
  have e3' : ft i = a :: B := e3
  have nB : a ∉ B := fun z => by
    have := f.nd
    rw [e3'] at this
    exact (List.nodup_cons.mp this).1 z
  have hH : ∀ x, x ≠ a → upd H a (.lst (xs ++ [y])) x = H x := fun x hx => upd_ne hx
  have uniq : ∀ p ∈ O, p.1 = i → p = (i, b) := fun p hp hpi => by
    have : ∀ (O : Ow), (ks O).Nodup → ∀ p ∈ O, ∀ q ∈ O, p.1 = q.1 → p = q := fun O => by
      induction O with
      | nil => exact fun _ p hp => by cases hp
      | cons r O ih =>
        intro nd p hp q hq hpq
        have nd' := List.nodup_cons.mp nd
        rcases List.mem_cons.mp hp with rfl | hp'
        · rcases List.mem_cons.mp hq with rfl | hq
          · rfl
          · exact absurd (show p.1 ∈ ks O from by rw [hpq]; exact List.mem_map.mpr ⟨q, hq, rfl⟩) nd'.1
        · rcases List.mem_cons.mp hq with rfl | hq
          · exact absurd (show q.1 ∈ ks O from by rw [← hpq]; exact List.mem_map.mpr ⟨p, hp', rfl⟩) nd'.1
          · exact ih nd'.2 p hp' q hq hpq
    exact this O hO p hp (i, b) hi hpi
  refine ⟨by rw [List.length_set]; exact R.len, fun j d' hj h => ?_, ft, fun p hp d' h => ?_, fun p hp => ?_, h3⟩
  · rw [List.getElem?_set_ne fun z => hj (by rw [← z]; exact mem_ks hi)] at h
    exact R.pl j d' hj h
  · rcases getset h with ⟨hpi, q1, _⟩ | ⟨hij, h⟩
    · cases q1
      have := uniq p hp hpi.symm
      subst this
      refine ⟨.ref a, ha, .inr ⟨a, xs ++ [y], B, rfl, upd_same, e3', ?_⟩, fun ds' _ z => by rw [e3'] at z; cases z⟩
      have := (Owns.keep (G1 := G) (H1 := upd H a (.lst (xs ++ [y]))) (fun _ _ z => z) (fun x hxB o ho _ => by rw [hH x fun z => nB (by rw [← z]; exact hxB)]; exact ho) e4).app (.one (Own.keep (G1 := G) (H1 := upd H a (.lst (xs ++ [y]))) (fun _ _ z => z) (fun x hx' => by cases hx') t))
      rw [List.append_nil] at this
      exact this
    · obtain ⟨v, q1, q2, q3⟩ := h1 p hp d' h
      have nA : a ∉ ft p.1 := fun z => h3 (i, b) hi p hp hij a (by rw [e3']; exact List.mem_cons_self) z
      exact ⟨v, q1, Own.keep (fun _ _ z => z) (fun x hxA o ho _ => by rw [hH x fun z => nA (by rw [← z]; exact hxA)]; exact ho) q2, q3⟩
  · refine ⟨(h2 p hp).1, fun x hxA => ?_⟩
    by_cases hxa : x = a
    · subst hxa
      exact ⟨_, upd_same, fun ps z => by cases z⟩
    · rw [hH x hxa]
      exact (h2 p hp).2 x hxA
theorem Gr.put {a : Addr} {ys : List V} (g : Gr L G0 H0 G H) (h4 : G a = none) (h5 : H0 a = none) : Gr L G0 H0 G (upd H a (.lst ys)) :=
  ⟨fun b o e => ⟨by rw [upd_ne fun z => by rw [z, h4] at e; cases e]; exact (g.sub b o e).1, (g.sub b o e).2⟩, g.up, g.ext.mut h5, g.new⟩
end

/-! ### statements -/
/-- how a statement ends -/
inductive Out where
  | nx (ρ : Env) | rt (d : D) | bk (ρ : Env) | ct (ρ : Env)
  /-- an own error of that name -/
  | ex (n : Str)
abbrev SM := Env → Option Out
/-- what is wanted of an own error, by its name -/
abbrev WN := Str → L2.St → Hp → Prop
def W0 : WN := fun _ _ _ => False
/-- the names' values are ρ, the lists of O owned -/
def StO (K : PySem.W.Frag) (L : List Addr) (G0 H0 : Hp) (O : Ow) (σ : L2.St) (H : Hp) (ρ : Env) : Prop := ∃ G, Gr L G0 H0 G H ∧ RepO K H0 G H O σ ρ
theorem StO.frz {K : PySem.W.Frag} {L : List Addr} {G0 H0 : Hp} {O O2 : Ow} {σ : L2.St} {H : Hp} {ρ : Env} (h : StO K L G0 H0 O σ H ρ) (hs : ∀ i ∈ O2, i ∈ O) : StO K L G0 H0 O2 σ H ρ := by
  obtain ⟨G, g, R⟩ := h
  obtain ⟨Gv, h1, h2, _⟩ := R.frz g O2 hs
  exact ⟨Gv, h1, h2⟩
theorem StO.base {K : PySem.W.Frag} {L : List Addr} {G0 H0 G1 H1 : Hp} {O : Ow} {σ : L2.St} {H : Hp} {ρ : Env} (g : Gr L G0 H0 G1 H1) (h : StO K L G1 H0 O σ H ρ) : StO K L G0 H0 O σ H ρ := let ⟨G, g', R⟩ := h; ⟨G, g.base g', R⟩
def post (K : PySem.W.Frag) (L : List Addr) (nw : Bool) (G0 H0 : Hp) (W : WN) (Ol O' : Ow) (Dn : Ends) : Out → Prop
  | .nx ρ => ∀ σ' H', StO K L G0 H0 O' σ' H' ρ → Dn.nx σ' H'
  | .rt d => if nw = true then ∀ v G' H' A, Gr L G0 H0 G' H' → Own K G' H' true d v A → Held d A → Fresh H0 G' A → Dn.rt v H' else ∀ v G' H', Gr L G0 H0 G' H' → At K G' d v → Dn.rt v H'
  | .bk ρ => ∀ σ' H', StO K L G0 H0 Ol σ' H' ρ → Dn.bk σ' H'
  | .ct ρ => ∀ σ' H', StO K L G0 H0 Ol σ' H' ρ → Dn.ct σ' H'
  | .ex n => ∀ σ' G' H', Gr L G0 H0 G' H' → W n σ' H'
def tS (K : PySem.W.Frag) (L : List Addr) (nw : Bool) (W : WN) (Ol O O' : Ow) (m : SM) : TS := fun Dn σ H => ∃ G0 H0 ρ o, StO K L G0 H0 O σ H ρ ∧ Tabs L H0 ∧ m ρ = some o ∧ post K L nw G0 H0 W Ol O' Dn o
def PSO (X : Cx) (L : List Addr) (nw : Bool) (W : WN) (Ol O O' : Ow) (st : Stmt) (m : SM) : Prop := PS X st (tS X.K L nw W Ol O O' m)
def PSsO (X : Cx) (L : List Addr) (nw : Bool) (W : WN) (Ol O O' : Ow) (sts : List Stmt) (m : SM) : Prop := PSs X sts (tS X.K L nw W Ol O O' m)
def ev (vw : Bool) (O : List Nat) (m : DM) : DM := fun ρ => if vw = true then (m ρ).bind fun d => if Scal d = true then some d else none else m (wipeD ρ O)
def sNx : SM := fun ρ => some (.nx ρ)
def sSeq (a b : SM) : SM := fun ρ => (a ρ).bind fun | .nx ρ' => b ρ' | o => some o
def sSet (i : Nat) (m : DM) : SM := fun ρ => (m ρ).bind fun d => some (.nx (ρ.set i (some d)))
def sNew (i : Nat) (m : DM) : SM := fun ρ => (m ρ).bind fun d => if Flat d = true then some (.nx (ρ.set i (some d))) else none
def sLst (i : Nat) (O : List Nat) (m : Env → Option (List D)) : SM := fun ρ => (m (wipeD ρ O)).bind fun ds => some (.nx (ρ.set i (some (.lst ds))))
def sAsg (O : List Nat) (bd : D → Env → Option Env) (m : DM) : SM := fun ρ => (m (wipeD ρ O)).bind fun d => (bd d (wipeD ρ O)).bind fun ρ' => some (.nx (mrg O ρ ρ'))
def sRet (m : DM) : SM := fun ρ => (m ρ).bind fun d => some (.rt d)
def sRetF (m : DM) : SM := fun ρ => (m ρ).bind fun d => if Flat d = true then some (.rt d) else none
def sLstN (i : Nat) (m : DM) : SM := fun ρ => (m ρ).bind fun d => if Flat d = true then some (.nx (ρ.set i (some (.lst [d])))) else none
def sAppS (i : Nat) (m : DM) : SM := fun ρ => (m ρ).bind fun d => if Scal d = true then ((ρ[i]?).join).bind fun (d2 : D) => match d2 with | .lst ds => if ds.length < 1000000 then some (.nx (ρ.set i (some (.lst (ds ++ [d]))))) else none | _ => none else none
def sAppO (i j : Nat) : SM := fun ρ => ((ρ[j]?).join).bind fun d => ((ρ[i]?).join).bind fun (d2 : D) => match d2 with | .lst ds => if ds.length < 1000000 then some (.nx ((ρ.set j none).set i (some (.lst (ds ++ [d]))))) else none | _ => none
def sRetN : SM := fun _ => some (.rt .non)
def sIf (c : Env → Option Bool) (a b : SM) : SM := fun ρ => (c ρ).bind fun x => if x = true then a ρ else b ρ
def sDrop (m : DM) : SM := fun ρ => (m ρ).bind fun _ => some (.nx ρ)
def sBk : SM := fun ρ => some (.bk ρ)
def sCt : SM := fun ρ => some (.ct ρ)
def sEx (n : Str) : SM := fun _ => some (.ex n)
def sApp (i : Nat) (m : DM) : SM := fun ρ => (m ρ).bind fun d => ((ρ[i]?).join).bind fun (d2 : D) => match d2 with | .lst ds => if ds.length < 1000000 then some (.nx (ρ.set i (some (.lst (ds ++ [d]))))) else none | _ => none
def forGo (O : List Nat) (bd : D → Env → Option Env) (b : SM) : List D → Env → Option Out
  | [], ρ => some (.nx ρ)
  | d :: ds, ρ => (bd d (wipeD ρ O)).bind fun ρ1 => (b (mrg O ρ ρ1)).bind fun
    | .nx ρ2 => forGo O bd b ds ρ2
    | .ct ρ2 => forGo O bd b ds ρ2
    | .bk ρ2 => some (.nx ρ2)
    | o => some o
def sFor (O : List Nat) (mi : Env → Option (List D)) (bd : D → Env → Option Env) (b : SM) : SM := fun ρ => (mi (wipeD ρ O)).bind fun ds => forGo O bd b ds ρ
section
variable {X : Cx} {L : List Addr} {nw : Bool} {W : WN} {Ol O O' O1 O2 : Ow} {st : Stmt} {rest : List Stmt} {a b : SM} {pos : Pos} {e : Expr} {m : DM}
theorem sso_nil : PSsO X L nw W Ol O O [] sNx := PSs.imp pss_nil fun Dn σ H ⟨G0, H0, ρ, o, hs, ht, hm, q⟩ => by cases hm; exact q σ H hs
theorem sso_cons (h1 : PSO X L nw W Ol O O1 st a) (h2 : PSsO X L nw W Ol O1 O' rest b) : PSsO X L nw W Ol O O' (st :: rest) (sSeq a b) := PSs.imp (pss_cons h1 h2) fun Dn σ H ⟨G0, H0, ρ, o, hs, ht, hm, q⟩ => by
  unfold sSeq at hm
  cases k1 : a ρ with
  | none => rw [k1] at hm; cases hm
  | some o1 =>
    rw [k1] at hm
    refine ⟨G0, H0, ρ, o1, hs, ht, k1, ?_⟩
    cases o1 with
    | nx ρ' => exact fun σ' H' hs' => ⟨G0, H0, ρ', o, hs', ht, hm, q⟩
    | _ => cases hm; exact q
theorem sso_one (h1 : PSO X L nw W Ol O O' st a) : PSsO X L nw W Ol O O' [st] a := pss_one h1
/-- owned lists shown ahead -/
theorem sso_frz (h : PSsO X L nw W Ol O2 O' rest a) (hs : ∀ i ∈ O2, i ∈ O := by decide) : PSsO X L nw W Ol O O' rest a := PSs.imp h fun Dn σ H ⟨G0, H0, ρ, o, hh, ht, hm, q⟩ => ⟨G0, H0, ρ, o, hh.frz hs, ht, hm, q⟩
/-- owned lists shown behind -/
theorem sso_end (h : PSsO X L nw W Ol O O2 rest a) (hs : ∀ i ∈ O', i ∈ O2 := by decide) : PSsO X L nw W Ol O O' rest a := PSs.imp h fun Dn σ H ⟨G0, H0, ρ, o, hh, ht, hm, q⟩ => ⟨G0, H0, ρ, o, hh, ht, hm, by
  cases o with
  | nx ρ' => exact fun σ' H' h => q σ' H' (h.frz hs)
  | _ => exact q⟩
theorem so_pass : PSO X L nw W Ol O O (.Pass pos) sNx := PS.imp ps_pass fun Dn σ H ⟨G0, H0, ρ, o, hs, ht, hm, q⟩ => by cases hm; exact q σ H hs
theorem so_break (hs : ∀ i ∈ Ol, i ∈ O := by decide) : PSO X L nw W Ol O O' (.Break pos) sBk := PS.imp ps_break fun Dn σ H ⟨G0, H0, ρ, o, hh, ht, hm, q⟩ => by cases hm; exact q σ H (hh.frz hs)
theorem so_continue (hs : ∀ i ∈ Ol, i ∈ O := by decide) : PSO X L nw W Ol O O' (.Continue pos) sCt := PS.imp ps_continue fun Dn σ H ⟨G0, H0, ρ, o, hh, ht, hm, q⟩ => by cases hm; exact q σ H (hh.frz hs)
theorem so_doc {x : Str} {j : Nat} {pos' : Pos} : PSO X L nw W Ol O O (.Expr (.Constant (.str x) j pos) pos') sNx := PS.imp ps_doc fun Dn σ H ⟨G0, H0, ρ, o, hs, ht, hm, q⟩ => by cases hm; exact q σ H hs
def PDN (X : Cx) (L : List Addr) (e : Expr) (m : DM) : Prop := PE X e (tPN X.K L m)
theorem pdn_weak (h : PDN X L e m) : PD X L e m := PE.imp h fun σ H Q ⟨G, ρ, d, hs, hR, ht, hm, q⟩ => ⟨G, ρ, d, hs, hR, ht, hm, fun v G' H' g a _ => q v G' H' g a⟩
/-- the worth of e where lists are owned: e sees none of them, or all and tells no list -/
theorem evP {K : PySem.W.Frag} {G0 H0 G H : Hp} {σ : L2.St} {ρ : Env} {vw : Bool} {d : D} {Q : VK} (g : Gr L G0 H0 G H) (R : RepO K H0 G H O σ ρ) (ht : Tabs L H0) (hm : ev vw (ks O) m ρ = some d) (q : ∀ v G1 H1, Gr L G H G1 H1 → At K G1 d v → Q v H1) : tP K L m σ H Q := by
  unfold ev at hm
  cases vw with
  | false => exact ⟨G, wipeD ρ (ks O), d, g.sub, R.plain, ht.ext g.ext, hm, q⟩
  | true =>
    simp only [if_true] at hm
    cases k1 : m ρ with
    | none => rw [k1] at hm; cases hm
    | some d' =>
      simp only [k1, Option.bind_some, Option.ite_none_right_eq_some, Option.some.injEq] at hm
      obtain ⟨hsc, rfl⟩ := hm
      obtain ⟨Gv, gv, Rv, _⟩ := R.view g
      exact ⟨Gv, ρ, d', gv.sub, Rv, ht.ext g.ext, k1, fun v G1 H1 g1 a1 => q v G H1 (.of g.sub g1.ext) (scal_move hsc a1)⟩
theorem viewP {K : PySem.W.Frag} {G0 H0 G H : Hp} {σ : L2.St} {ρ : Env} {d : D} {Q : VK} (g : Gr L G0 H0 G H) (R : RepO K H0 G H O σ ρ) (ht : Tabs L H0) (hm : m ρ = some d) (q : ∀ v G1 H1, Gr L G0 H0 G1 H1 → Gr L G H G H1 → At K G1 d v → Q v H1) : tP K L m σ H Q := by
  obtain ⟨Gv, gv, Rv, _⟩ := R.view g
  exact ⟨Gv, ρ, d, gv.sub, Rv, ht.ext g.ext, hm, fun v G1 H1 g1 a1 => q v G1 H1 (gv.trans g1) (.of g.sub g1.ext) a1⟩
theorem viewT {K : PySem.W.Frag} {G0 H0 G H : Hp} {σ : L2.St} {ρ : Env} {c : Env → Option Bool} {k : Bool} {Q : Bool → Hp → Prop} (g : Gr L G0 H0 G H) (R : RepO K H0 G H O σ ρ) (ht : Tabs L H0) (hm : c ρ = some k) (q : ∀ H1, Gr L G H G H1 → Q k H1) : tPT K L c σ H Q := by
  obtain ⟨Gv, gv, Rv, _⟩ := R.view g
  exact ⟨Gv, ρ, k, gv.sub, Rv, ht.ext g.ext, hm, fun G1 H1 g1 => q H1 (.of g.sub g1.ext)⟩
theorem viewA {K : PySem.W.Frag} {G0 H0 G H : Hp} {σ : L2.St} {ρ : Env} {ml : Env → Option (List D)} {ds : List D} {Q : List V → Hp → Prop} (g : Gr L G0 H0 G H) (R : RepO K H0 G H O σ ρ) (ht : Tabs L H0) (hm : ml ρ = some ds) (q : ∀ vs G1 H1, Gr L G0 H0 G1 H1 → Gr L G H G H1 → Ats K G1 ds vs → Q vs H1) : tPA K L ml σ H Q := by
  obtain ⟨Gv, gv, Rv, _⟩ := R.view g
  exact ⟨Gv, ρ, ds, gv.sub, Rv, ht.ext g.ext, hm, fun v G1 H1 g1 a1 => q v G1 H1 (gv.trans g1) (.of g.sub g1.ext) a1⟩
def Fr0 (K : PySem.W.Frag) (G1 H1 Hs : Hp) (d : D) (v : V) : Prop := ∃ A, Own K G1 H1 true d v A ∧ Held d A ∧ Fresh Hs G1 A
/-- a new flat list is owned -/
theorem flat_own {K : PySem.W.Frag} {G H Gs Hs G1 H1 : Hp} {d : D} {v : V} (s0 : Sub Gs Hs) (s1 : Sub G1 H1) (a1 : At K G1 d v) (n1 : New Hs d v) (hf : Flat d = true) : ∃ A, Own K Gs H1 true d v A ∧ Held d A ∧ (∀ x ∈ A, Hs x = none) ∧ A.Nodup := by
  by_cases hl : ∃ ds, d = .lst ds
  · obtain ⟨ds, rfl⟩ := hl
    obtain ⟨p, e2, e3⟩ := n1 ds rfl
    obtain ⟨p', xs, e4, e5, t⟩ := a1
    rw [e4] at e2
    cases e2
    refine ⟨[p], .inr ⟨p, xs, [], e4, (s1 _ _ e5).1, rfl, Owns.move (G := G1) (owns_scal hf t)⟩, (fun _ _ z => by cases z), fun x hx => ?_, List.nodup_cons.mpr ⟨List.not_mem_nil, List.nodup_nil⟩⟩
    rw [List.mem_singleton.mp hx]; exact e3
  · have hsc : Scal d = true := by
      cases d with
      | lst ds => exact absurd ⟨ds, rfl⟩ hl
      | _ => exact hf
    exact ⟨[], own_scal hsc (scal_move hsc a1), fun ds e => absurd ⟨ds, e⟩ hl, fun x hx => (List.not_mem_nil hx).elim, List.nodup_nil⟩
theorem so_retNew (he : PDN X L e m) : PSO X L true W Ol O O' (.Return (some e) pos) (sRetF m) := PS.imp (ps_ret he) fun Dn σ H ⟨G0, H0, ρ, o, ⟨G, g, R⟩, ht, hm, q⟩ => by
  unfold sRetF at hm
  cases k1 : m ρ with
  | none => rw [k1] at hm; cases hm
  | some d =>
    simp only [k1, Option.bind_some, Option.ite_none_right_eq_some, Option.some.injEq] at hm
    obtain ⟨hfl, rfl⟩ := hm
    obtain ⟨Gv, gv, Rv, _⟩ := R.view g
    refine ⟨Gv, ρ, d, gv.sub, Rv, ht.ext g.ext, k1, fun v G1 H1 g1 a1 n => ?_⟩
    obtain ⟨A, o1, o2, o3, o4⟩ := flat_own (G := G) (H := H) g.sub g1.sub a1 n hfl
    have q' : ∀ v G' H' A, Gr L G0 H0 G' H' → Own X.K G' H' true d v A → Held d A → Fresh H0 G' A → Dn.rt v H' := q
    exact q' v G H1 A (g.trans (.of g.sub g1.ext)) o1 o2 ⟨o4, fun x hx => g.sub.none (o3 x hx), fun x hx => g.ext.dom x (o3 x hx)⟩
/-- e is worth m, all its lists new -/
def tPW (K : PySem.W.Frag) (L : List Addr) (m : DM) : TE := fun σ H Q => ∃ G ρ d, Sub G H ∧ Rep K G σ ρ ∧ Tabs L H ∧ m ρ = some d ∧ ∀ v G1 H1 A, Gr L G H G1 H1 → Own K G1 H1 true d v A → Held d A → Fresh H G1 A → Q v H1
def PDW (X : Cx) (L : List Addr) (e : Expr) (m : DM) : Prop := PE X e (tPW X.K L m)
theorem so_retW (he : PDW X L e m) : PSO X L true W Ol O O' (.Return (some e) pos) (sRet m) := PS.imp (ps_ret he) fun Dn σ H ⟨G0, H0, ρ, o, ⟨G, g, R⟩, ht, hm, q⟩ => by
  unfold sRet at hm
  cases k1 : m ρ with
  | none => rw [k1] at hm; cases hm
  | some d =>
    rw [k1] at hm
    cases hm
    obtain ⟨Gv, gv, Rv, _⟩ := R.view g
    refine ⟨Gv, ρ, d, gv.sub, Rv, ht.ext g.ext, k1, fun v G1 H1 A g1 o1 o2 f1 => ?_⟩
    have q' : ∀ v G' H' A, Gr L G0 H0 G' H' → Own X.K G' H' true d v A → Held d A → Fresh H0 G' A → Dn.rt v H' := q
    exact q' v G H1 A (g.trans (.of g.sub g1.ext)) o1.move o2 ⟨f1.nd, fun x hx => g.sub.none (f1.nw x hx), fun x hx => g.ext.dom x (f1.nw x hx)⟩
theorem so_ret (he : PD X L e m) : PSO X L false W Ol O O' (.Return (some e) pos) (sRet m) := PS.imp (ps_ret he) fun Dn σ H ⟨G0, H0, ρ, o, ⟨G, g, R⟩, ht, hm, q⟩ => by
  unfold sRet at hm
  cases k1 : m ρ with
  | none => rw [k1] at hm; cases hm
  | some d => rw [k1] at hm; cases hm; exact viewP g R ht k1 fun v G1 H1 g1 _ a1 => (show ∀ v G' H', Gr L G0 H0 G' H' → At X.K G' d v → Dn.rt v H' from q) v G1 H1 g1 a1
theorem so_retN : PSO X L nw W Ol O O' (.Return none pos) sRetN := PS.imp ps_retN fun Dn σ H ⟨G0, H0, ρ, o, ⟨G, g, R⟩, ht, hm, q⟩ => by
  cases hm
  cases nw with
  | true => exact (show ∀ v G' H' A, Gr L G0 H0 G' H' → Own X.K G' H' true .non v A → Held .non A → Fresh H0 G' A → Dn.rt v H' from q) .non G H [] g ⟨rfl, rfl⟩ (fun ds e => nomatch e) .nil
  | false => exact (show ∀ v G' H', Gr L G0 H0 G' H' → At X.K G' .non v → Dn.rt v H' from q) .non G H g rfl
/-- return name, the name's list owned -/
theorem so_retO {i : Nat} {b : Bool} {x : Str} {pos' : Pos} (hi : (i, b) ∈ O) (hb : nw = true → b = true) (hN : X.N[i]? = some x) (hv : Vis X.env.scope x) (hd : (x == ("__debug__" : Str)) = false := by decide) (hcd : (x == ("__classdict__" : Str)) = false := by decide) : PSO X L nw W Ol O O' (.Return (some (.Name x pos')) pos) (sRet (dVar i)) := PS.imp (ps_ret (pe_var hN hv hd hcd)) fun Dn σ H ⟨G0, H0, ρ, o, ⟨G, g, R⟩, ht, hm, q⟩ => by
  unfold sRet dVar at hm
  cases k1 : (ρ[i]?).join with
  | none => rw [k1] at hm; cases hm
  | some d =>
    rw [k1] at hm
    cases hm
    have e : ρ[i]? = some (some d) := by
      cases z : ρ[i]? with
      | none => rw [z] at k1; cases k1
      | some o => rw [z] at k1; exact congrArg some k1
    obtain ⟨v, A, h1, h2, h3, h4⟩ := R.get hi e
    cases nw with
    | true =>
      cases hb rfl
      exact ⟨v, h1, (show ∀ v G' H' A, Gr L G0 H0 G' H' → Own X.K G' H' true d v A → Held d A → Fresh H0 G' A → Dn.rt v H' from q) v G H A g h2 h3 h4⟩
    | false =>
      obtain ⟨Gv, gv, Rv, _⟩ := R.view g
      obtain ⟨v', h1', h2'⟩ := Rv.2 i d e
      rw [h1] at h1'
      cases h1'
      exact ⟨v, h1, (show ∀ v G' H', Gr L G0 H0 G' H' → At X.K G' d v → Dn.rt v H' from q) v Gv H gv h2'⟩
theorem so_expr (he : PD X L e m) (hs : swapsWith e none pos.line X.env = pure false := by rfl) : PSO X L nw W Ol O O (.Expr e pos) (sDrop m) := PS.imp (ps_expr he hs) fun Dn σ H ⟨G0, H0, ρ, o, ⟨G, g, R⟩, ht, hm, q⟩ => by
  unfold sDrop at hm
  cases k1 : m ρ with
  | none => rw [k1] at hm; cases hm
  | some d => rw [k1] at hm; cases hm; exact viewP g R ht k1 fun v G1 H1 _ g2 a1 => q σ H1 ⟨G, g.trans g2, R.gr g2⟩
theorem so_set {i : Nat} {x : Str} {pos' : Pos} {vw : Bool} (hN : X.N.Nodup) (hi : X.N[i]? = some x) (hx : Loc X.env.scope x) (he : PD X L e m) (hs : swapsWith e (some (.Name x pos')) pos.line X.env = pure false := by rfl) (hf : X.fn x = true ∨ X.env.scope.names.lookup x = some .local := by first | exact .inl rfl | exact .inr rfl | assumption) :
    PSO X L nw W Ol O (rm i O) (.Assign [.Name x pos'] e pos) (sSet i (ev vw (ks O) m)) := PS.imp (ps_set hN hi hx he hs hf) fun Dn σ H ⟨G0, H0, ρ, o, ⟨G, g, R⟩, ht, hm, q⟩ => by
  unfold sSet at hm
  cases k1 : ev vw (ks O) m ρ with
  | none => rw [k1] at hm; cases hm
  | some d => rw [k1] at hm; cases hm; exact evP g R ht k1 fun v G1 H1 g1 a1 => q _ H1 ⟨G1, g.trans g1, (R.gr g1).setP a1⟩
theorem newO {K : PySem.W.Frag} {G0 H0 G H H1 : Hp} {σ : L2.St} {ρ : Env} {d : D} {v : V} {i : Nat} {b : Bool} {A : List Addr} (g : Gr L G0 H0 G H) (R : RepO K H0 G H O σ ρ) (e1 : Ext L H H1) (a1 : Own K G H1 b d v A) (hh : Held d A) (nd : A.Nodup) (nw : ∀ x ∈ A, H x = none) : StO K L G0 H0 ((i, b) :: rm i O) (σ.set i (some v)) H1 (ρ.set i (some d)) := by
  have g2 : Gr L G H G H1 := .of g.sub e1
  obtain ⟨ft, h1, h2, h3⟩ := R.ow
  have R1 := R.gr g2
  obtain ⟨ft', q1, q2, q3⟩ := R1.ow
  refine ⟨G, g.trans g2, ?_⟩
  have R2 : RepO K H0 G H1 O σ ρ := ⟨R1.len, R1.pl, ft, fun p hp d hd => ?_, fun p hp => ⟨(h2 p hp).1, fun a ha => ?_⟩, h3⟩
  · refine ⟨by rw [List.length_set, List.length_set]; exact R.len, fun j e hj h => ?_, fun j => if j = i then A else ft j, fun p hp e h => ?_, fun p hp => ?_, fun p hp q hq hpq x hx hx2 => ?_⟩
    · have hij : i ≠ j := fun z => hj (by rw [z]; exact mem_ks List.mem_cons_self)
      rw [List.getElem?_set_ne hij] at h ⊢
      refine R1.pl j e (fun z => hj ?_) h
      obtain ⟨c, hc⟩ := of_ks z
      exact mem_ks (List.mem_cons_of_mem _ (mem_rm.mpr ⟨hc, hij⟩))
    · rcases List.mem_cons.mp hp with rfl | hp
      · rcases getset h with ⟨_, e1, hl⟩ | ⟨hij, _⟩
        · cases e1
          refine ⟨v, List.getElem?_set_self (by rw [R.len]; exact hl), ?_, ?_⟩
          · simp only [if_true]; exact a1
          · simp only [if_true]; exact hh
        · exact absurd rfl hij
      · obtain ⟨k1, hij⟩ := mem_rm.mp hp
        rw [List.getElem?_set_ne hij] at h ⊢
        simp only [if_neg (Ne.symm hij)]
        obtain ⟨u, w1, w2, w3⟩ := h1 p k1 e h
        exact ⟨u, w1, Own.keep (fun _ _ z => z) (fun a _ o ho n => e1.keep a o ho n) w2, w3⟩
    · rcases List.mem_cons.mp hp with rfl | hp
      · simp only [if_true]
        exact ⟨⟨nd, fun x hx => g.sub.none (nw x hx), fun x hx => g.ext.dom x (nw x hx)⟩, fun x hx => Own.some a1 x hx⟩
      · obtain ⟨k1, hij⟩ := mem_rm.mp hp
        simp only [if_neg (Ne.symm hij)]
        refine ⟨(h2 p k1).1, fun x hx => ?_⟩
        obtain ⟨o, ho, n⟩ := (h2 p k1).2 x hx
        exact ⟨o, e1.keep x o ho n, n⟩
    · have far : ∀ x ∈ A, ∀ p ∈ O, x ∉ ft p.1 := fun x hx p hp z => by
        obtain ⟨o, ho, _⟩ := (h2 p hp).2 x z
        rw [nw x hx] at ho
        cases ho
      rcases List.mem_cons.mp hp with rfl | hp
      · rcases List.mem_cons.mp hq with rfl | hq
        · exact hpq rfl
        · obtain ⟨k1, hij⟩ := mem_rm.mp hq
          simp only [if_true, if_neg (Ne.symm hij)] at hx hx2
          exact far x hx q k1 hx2
      · obtain ⟨k1, hij⟩ := mem_rm.mp hp
        rcases List.mem_cons.mp hq with rfl | hq
        · simp only [if_true, if_neg (Ne.symm hij)] at hx hx2
          exact far x hx2 p k1 hx
        · obtain ⟨k2, hik⟩ := mem_rm.mp hq
          simp only [if_neg (Ne.symm hij), if_neg (Ne.symm hik)] at hx hx2
          exact h3 p k1 q k2 hpq x hx hx2
  · obtain ⟨u, w1, w2, w3⟩ := h1 p hp d hd
    exact ⟨u, w1, Own.keep (fun _ _ z => z) (fun a _ o ho n => e1.keep a o ho n) w2, w3⟩
  · obtain ⟨o, ho, n⟩ := (h2 p hp).2 a ha
    exact ⟨o, e1.keep a o ho n, n⟩
/-- name = e, e a new list that holds no lists -/
theorem so_new {i : Nat} {x : Str} {pos' : Pos} (hN : X.N.Nodup) (hi : X.N[i]? = some x) (hx : Loc X.env.scope x) (he : PDN X L e m) (hs : swapsWith e (some (.Name x pos')) pos.line X.env = pure false := by rfl) (hf : X.fn x = true ∨ X.env.scope.names.lookup x = some .local := by first | exact .inl rfl | exact .inr rfl | assumption) :
    PSO X L nw W Ol O ((i, true) :: rm i O) (.Assign [.Name x pos'] e pos) (sNew i m) := PS.imp (ps_set hN hi hx he hs hf) fun Dn σ H ⟨G0, H0, ρ, o, ⟨G, g, R⟩, ht, hm, q⟩ => by
  unfold sNew at hm
  cases k1 : m ρ with
  | none => rw [k1] at hm; cases hm
  | some d =>
    simp only [k1, Option.bind_some, Option.ite_none_right_eq_some, Option.some.injEq] at hm
    obtain ⟨hfl, rfl⟩ := hm
    obtain ⟨Gv, gv, Rv, _⟩ := R.view g
    refine ⟨Gv, ρ, d, gv.sub, Rv, ht.ext g.ext, k1, fun v G1 H1 g1 a1 n1 => ?_⟩
    obtain ⟨A, o1, o2, o3, o4⟩ := flat_own (G := G) (H := H) g.sub g1.sub a1 n1 hfl
    exact q _ H1 (newO g R g1.ext o1 o2 o4 o3)
/-- name = e, all lists of e new -/
theorem so_newW {i : Nat} {x : Str} {pos' : Pos} (hN : X.N.Nodup) (hi : X.N[i]? = some x) (hx : Loc X.env.scope x) (he : PDW X L e m) (hs : swapsWith e (some (.Name x pos')) pos.line X.env = pure false := by rfl) (hf : X.fn x = true ∨ X.env.scope.names.lookup x = some .local := by first | exact .inl rfl | exact .inr rfl | assumption) :
    PSO X L nw W Ol O ((i, true) :: rm i O) (.Assign [.Name x pos'] e pos) (sSet i m) := PS.imp (ps_set hN hi hx he hs hf) fun Dn σ H ⟨G0, H0, ρ, o, ⟨G, g, R⟩, ht, hm, q⟩ => by
  unfold sSet at hm
  cases k1 : m ρ with
  | none => rw [k1] at hm; cases hm
  | some d =>
    rw [k1] at hm
    cases hm
    obtain ⟨Gv, gv, Rv, _⟩ := R.view g
    exact ⟨Gv, ρ, d, gv.sub, Rv, ht.ext g.ext, k1, fun v G1 H1 A g1 o1 o2 f1 => q _ H1 (newO g R g1.ext o1.move o2 f1.nd f1.nw)⟩
/-- name = [e, ..] -/
theorem so_lst {i : Nat} {x : Str} {pos' lpos : Pos} {es : List Expr} {ml : Env → Option (List D)} (hN : X.N.Nodup) (hi : X.N[i]? = some x) (hx : Loc X.env.scope x) (he : PAD X L es ml) (hl : ∀ ρ ds, ml ρ = some ds → ds.length ≤ sizeLine) (hs : swapsWith (.List es lpos) (some (.Name x pos')) pos.line X.env = pure false := by rfl)
    (hf : X.fn x = true ∨ X.env.scope.names.lookup x = some .local := by first | exact .inl rfl | exact .inr rfl | assumption) :
    PSO X L nw W Ol O ((i, false) :: rm i O) (.Assign [.Name x pos'] (.List es lpos) pos) (sLst i (ks O) ml) := PS.imp (ps_set hN hi hx (pe_lst he) hs hf) fun Dn σ H ⟨G0, H0, ρ, o, ⟨G, g, R⟩, ht, hm, q⟩ => by
  unfold sLst at hm
  cases k1 : ml (wipeD ρ (ks O)) with
  | none => rw [k1] at hm; cases hm
  | some ds =>
    rw [k1] at hm
    cases hm
    refine ⟨G, wipeD ρ (ks O), ds, g.sub, R.plain, ht.ext g.ext, k1, fun xs G1 H1 g1 a1 => ⟨by rw [a1.length]; exact hl _ ds k1, fun p hp => q _ _ ?_⟩⟩
    exact newO (g.trans g1) (R.gr g1) (.new hp) (A := [p]) (.inr ⟨p, xs, [], rfl, upd_same, rfl, owns_plain a1⟩) (fun _ _ z => by cases z) (List.nodup_cons.mpr ⟨List.not_mem_nil, List.nodup_nil⟩) fun x hx => by rw [List.mem_singleton.mp hx]; exact hp
/-- name = [e], e a new list that holds no lists -/
theorem so_lstN {i : Nat} {x : Str} {pos' lpos : Pos} (hN : X.N.Nodup) (hi : X.N[i]? = some x) (hx : Loc X.env.scope x) (he : PDN X L e m) (h1 : starEach [e] X.env = (false, eval e X.env) :: starEach [] X.env := by rfl) (hs : swapsWith (.List [e] lpos) (some (.Name x pos')) pos.line X.env = pure false := by rfl)
    (hf : X.fn x = true ∨ X.env.scope.names.lookup x = some .local := by first | exact .inl rfl | exact .inr rfl | assumption) :
    PSO X L nw W Ol O ((i, true) :: rm i O) (.Assign [.Name x pos'] (.List [e] lpos) pos) (sLstN i m) := PS.imp (ps_set hN hi hx (pe_lst (pa_cons he pa_nil h1)) hs hf) fun Dn σ H ⟨G0, H0, ρ, o, ⟨G, g, R⟩, ht, hm, q⟩ => by
  unfold sLstN at hm
  cases k1 : m ρ with
  | none => rw [k1] at hm; cases hm
  | some d =>
    simp only [k1, Option.bind_some, Option.ite_none_right_eq_some, Option.some.injEq] at hm
    obtain ⟨hfl, rfl⟩ := hm
    obtain ⟨Gv, gv, Rv, _⟩ := R.view g
    refine ⟨Gv, ρ, d, gv.sub, Rv, ht.ext g.ext, k1, fun v G1 H1 g1 a1 n1 => ⟨(by show 1 ≤ sizeLine; decide), fun p hp => q _ _ ?_⟩⟩
    obtain ⟨A, o1, o2, o3, o4⟩ := flat_own (G := G) (H := H) g.sub g1.sub a1 n1 hfl
    have nA : p ∉ A := fun z => by
      obtain ⟨o, ho, _⟩ := Own.some o1 p z
      rw [hp] at ho
      cases ho
    refine newO g R (g1.ext.trans (.new hp)) (A := p :: A) (.inr ⟨p, [v], A, rfl, upd_same, rfl, .one (Own.keep (fun _ _ z => z) (fun a ha o ho _ => ?_) o1)⟩) (fun _ _ z => by cases z) (List.nodup_cons.mpr ⟨nA, o4⟩) fun x hx => ?_
    · rw [upd_ne fun z => nA (by rw [← z]; exact ha)]; exact ho
    · rcases List.mem_cons.mp hx with rfl | hx
      · exact g1.ext.dom x hp
      · exact o3 x hx
theorem so_asg {tg : Expr} {g : TG} {bd : D → Env → Option Env} {vs : List Nat} (hgd : GdOk X.K vs g bd) (he : PD X L e m) (hg : PG X tg g) (hv : ∀ i ∈ ks O, i ∉ vs := by decide) (hs : swapsWithSole [tg] e pos.line X.env = pure false := by rfl) (hw : swappedStores [tg] e X.env = pure none := by rfl)
    (h1 : (assignEach [tg] X.env).map (·.2) = [assign tg X.env] := by rfl) : PSO X L nw W Ol O O (.Assign [tg] e pos) (sAsg (ks O) bd m) := PS.imp (ps_asg he hg hs hw h1) fun Dn σ H ⟨G0, H0, ρ, o, ⟨G, g, R⟩, ht, hm, q⟩ => by
  unfold sAsg at hm
  cases k1 : m (wipeD ρ (ks O)) with
  | none => rw [k1] at hm; cases hm
  | some d =>
    rw [k1] at hm
    cases k2 : bd d (wipeD ρ (ks O)) with
    | none => simp [k2] at hm
    | some ρ' =>
      simp only [k2, Option.bind_some, Option.some.injEq] at hm
      subst hm
      exact ⟨G, wipeD ρ (ks O), d, g.sub, R.plain, ht.ext g.ext, k1, fun v G1 H1 g1 a => hgd G1 H1 σ (wipeD ρ (ks O)) ρ' d v _ g1.sub (R.plain.mono g1.up) a k2 fun σ1 r1 _ hw1 => q σ1 H1 ⟨G1, g.trans g1, (R.gr g1).bind hv r1 hw1⟩⟩
/-- name = [..], a statement of its own -/
theorem so_setLc {i : Nat} {y : Str} {py : Pos} {elt tg iter : Expr} {ifs : List Expr} {scope : Scope} {own : List (Str × Nat)} {lpos spos : Pos} {mi : Env → Option (List D)} {bd : D → Env → Option Env} {tt : Env → Option Bool} {me : DM} {g : TG} (hc : X.calm = true) (hN : X.N.Nodup) (hy : X.N[i]? = some y) (hyl : X.env.scope.names.lookup y = some .local)
    (hsw : swapsWith (.ListComp elt [⟨tg, iter, ifs, 0⟩] scope lpos) (some (.Name y py)) spos.line X.env = pure true) (hi : PID X L tg iter mi) (ok : BlkOk X.N X.env.scope scope own) (hgd : GdOk X.K (own.map (·.2)) g bd)
    (hg : ∀ (s : Shared) (H : Hp) (C : Addr) (cl : List (Str × Addr)) (fp : List Addr), PG (X.blk s H scope (compEnvC scope cl C X.env) fp) tg g) (ht : ∀ (s : Shared) (H : Hp) (C : Addr) (cl : List (Str × Addr)) (fp : List Addr), PTs (X.blk s H scope (compEnvC scope cl C X.env) fp) ifs (tPT X.K L tt))
    (he : ∀ (s : Shared) (H : Hp) (C : Addr) (cl : List (Str × Addr)) (fp : List Addr), PD (X.blk s H scope (compEnvC scope cl C X.env) fp) L elt me) (hs : ∀ x, foldedSetIterable iter X.env x = pure x := by intro _; rfl) :
    PSO X L nw W Ol O (rm i O) (.Assign [.Name y py] (.ListComp elt [⟨tg, iter, ifs, 0⟩] scope lpos) spos) (sSet i (ev false (ks O) (dLc (own.map (·.2)) mi bd tt me))) := PS.imp (ps_setLc (te := tP X.K L me) hc hN hy hyl hsw hi ok hg ht he hs) fun Dn σ H ⟨G0, H0, ρ, o, ⟨G, g, R⟩, ht, hm, q⟩ => by
  unfold sSet at hm
  cases k1 : ev false (ks O) (dLc (own.map (·.2)) mi bd tt me) ρ with
  | none => rw [k1] at hm; cases hm
  | some d => rw [k1] at hm; cases hm; exact lc_imp hgd σ H _ (evP g R ht k1 fun v G1 H1 g1 a1 => q _ H1 ⟨G1, g.trans g1, (R.gr g1).setP a1⟩)
theorem so_newLc {i : Nat} {y : Str} {py : Pos} {elt tg iter : Expr} {ifs : List Expr} {scope : Scope} {own : List (Str × Nat)} {lpos spos : Pos} {mi : Env → Option (List D)} {bd : D → Env → Option Env} {tt : Env → Option Bool} {me : DM} {g : TG} (hc : X.calm = true) (hN : X.N.Nodup) (hy : X.N[i]? = some y) (hyl : X.env.scope.names.lookup y = some .local)
    (hsw : swapsWith (.ListComp elt [⟨tg, iter, ifs, 0⟩] scope lpos) (some (.Name y py)) spos.line X.env = pure true) (hi : PID X L tg iter mi) (ok : BlkOk X.N X.env.scope scope own) (hgd : GdOk X.K (own.map (·.2)) g bd)
    (hg : ∀ (s : Shared) (H : Hp) (C : Addr) (cl : List (Str × Addr)) (fp : List Addr), PG (X.blk s H scope (compEnvC scope cl C X.env) fp) tg g) (ht : ∀ (s : Shared) (H : Hp) (C : Addr) (cl : List (Str × Addr)) (fp : List Addr), PTs (X.blk s H scope (compEnvC scope cl C X.env) fp) ifs (tPT X.K L tt))
    (he : ∀ (s : Shared) (H : Hp) (C : Addr) (cl : List (Str × Addr)) (fp : List Addr), PD (X.blk s H scope (compEnvC scope cl C X.env) fp) L elt me) (hs : ∀ x, foldedSetIterable iter X.env x = pure x := by intro _; rfl) :
    PSO X L nw W Ol O ((i, true) :: rm i O) (.Assign [.Name y py] (.ListComp elt [⟨tg, iter, ifs, 0⟩] scope lpos) spos) (sNew i (dLc (own.map (·.2)) mi bd tt me)) := PS.imp (ps_setLc (te := tP X.K L me) hc hN hy hyl hsw hi ok hg ht he hs) fun Dn σ H ⟨G0, H0, ρ, o, ⟨G, g, R⟩, ht, hm, q⟩ => by
  unfold sNew at hm
  cases k1 : dLc (own.map (·.2)) mi bd tt me ρ with
  | none => rw [k1] at hm; cases hm
  | some d =>
    simp only [k1, Option.bind_some, Option.ite_none_right_eq_some, Option.some.injEq] at hm
    obtain ⟨hfl, rfl⟩ := hm
    obtain ⟨Gv, gv, Rv, _⟩ := R.view g
    refine lc_impN hgd σ H _ ⟨Gv, ρ, d, gv.sub, Rv, ht.ext g.ext, k1, fun v G1 H1 g1 a1 n1 => ?_⟩
    obtain ⟨A, o1, o2, o3, o4⟩ := flat_own (G := G) (H := H) g.sub g1.sub a1 n1 hfl
    exact q _ H1 (newO g R g1.ext o1 o2 o4 o3)
theorem so_if {c : Expr} {tc : Env → Option Bool} {x y : List Stmt} (hc : PTD X L c tc) (ha : PSsO X L nw W Ol O O' x a) (hb : PSsO X L nw W Ol O O' y b) : PSO X L nw W Ol O O' (.If c x y pos) (sIf tc a b) := PS.imp (ps_if hc ha hb) fun Dn σ H ⟨G0, H0, ρ, o, ⟨G, g, R⟩, ht, hm, q⟩ => by
  unfold sIf at hm
  cases k1 : tc ρ with
  | none => rw [k1] at hm; cases hm
  | some k =>
    rw [k1] at hm
    refine viewT g R ht k1 fun H1 g1 => ?_
    cases k with
    | true => exact ⟨G0, H0, ρ, o, ⟨G, g.trans g1, R.gr g1⟩, ht, hm, q⟩
    | false => exact ⟨G0, H0, ρ, o, ⟨G, g.trans g1, R.gr g1⟩, ht, hm, q⟩
/-- name.append(e), the name's list owned -/
theorem so_app {i : Nat} {x : Str} {p' apos cpos : Pos} {vw : Bool} (hO : (ks O).Nodup) (hi : (i, false) ∈ O) (hx : PE X (.Name x p') (tVar i)) (he : PD X L e m) (hbase : attributeBase (.Name x p') "append" X.env (eval (.Name x p') X.env) = eval (.Name x p') X.env := by rfl)
    (hfew : ((backTo cpos (starEach (e :: []) X.env)).all (fun x => !x.1) && (backToKw cpos (keywordEach [] X.env)).all (fun x => x.1.isSome) && decide ((e :: []).length + ([] : List Keyword).length + (if ([] : List Keyword).isEmpty then 0 else 1) < 30)) = true := by rfl)
    (hline : (apos.endLine == cpos.line) = true := by rfl) (hs : starEach (e :: []) X.env = (false, eval e X.env) :: starEach [] X.env := by rfl) (hsw : swapsWith (.Call (.Attribute (.Name x p') "append" apos) [e] [] cpos) none pos.line X.env = pure false := by rfl) :
    PSO X L nw W Ol O O (.Expr (.Call (.Attribute (.Name x p') "append" apos) [e] [] cpos) pos) (sApp i (ev vw (ks O) m)) :=
  PS.imp (ps_expr (pe_bm PySem.F.plainAttrs_list PySem.F.slot_list_append PySem.F.type_list_append mt_append hx (pa_cons he pa_nil hs) hbase hfew hline hs rfl) hsw) fun Dn σ H ⟨G0, H0, ρ, o, ⟨G, g, R⟩, ht, hm, q⟩ => by
    unfold sApp at hm
    cases k1 : ev vw (ks O) m ρ with
    | none => rw [k1] at hm; cases hm
    | some d =>
      cases k2 : (ρ[i]?).join with
      | none => simp [k1, k2] at hm
      | some dl =>
        simp only [k1, k2, Option.bind_some] at hm
        cases dl <;> simp only [reduceCtorEq, Option.ite_none_right_eq_some, Option.some.injEq] at hm
        rename_i ds
        obtain ⟨hl, rfl⟩ := hm
        have er : ρ[i]? = some (some (.lst ds)) := by
          cases z : ρ[i]? with
          | none => rw [z] at k2; cases k2
          | some o => rw [z] at k2; exact congrArg some k2
        obtain ⟨v, A, h1, h2, h3, h4⟩ := R.get hi er
        obtain ⟨a, xs, B, rfl, h6, h7, h8⟩ := h2.list h3
        refine ⟨.ref a, h1, .inl ⟨rfl, xs, .inl (.inl h6)⟩, evP g R ht k1 fun y G1 H1 g1 a1 => ?_⟩
        obtain ⟨v', A', h1', h2', h3', h4'⟩ := (R.gr g1).get hi er
        rw [h1] at h1'
        cases h1'
        obtain ⟨a', xs', B', e', h6', h7', h8'⟩ := h2'.list h3'
        cases e'
        refine ⟨a, xs', y, rfl, rfl, h6', ?_, q σ _ ⟨G1, (g.trans g1).put (h4'.out a (by rw [h7']; exact List.mem_cons_self)) (h4'.nw a (by rw [h7']; exact List.mem_cons_self)), (R.gr g1).put hO hi er h1 h6' (own_plain a1)⟩⟩
        rw [h8'.length]
        exact Nat.lt_of_lt_of_le hl (by decide)
/-- name.append(e), e no list -/
theorem so_appS {i : Nat} {x : Str} {p' apos cpos : Pos} {vw b : Bool} (hO : (ks O).Nodup) (hi : (i, b) ∈ O) (hx : PE X (.Name x p') (tVar i)) (he : PD X L e m) (hbase : attributeBase (.Name x p') "append" X.env (eval (.Name x p') X.env) = eval (.Name x p') X.env := by rfl)
    (hfew : ((backTo cpos (starEach (e :: []) X.env)).all (fun x => !x.1) && (backToKw cpos (keywordEach [] X.env)).all (fun x => x.1.isSome) && decide ((e :: []).length + ([] : List Keyword).length + (if ([] : List Keyword).isEmpty then 0 else 1) < 30)) = true := by rfl)
    (hline : (apos.endLine == cpos.line) = true := by rfl) (hs : starEach (e :: []) X.env = (false, eval e X.env) :: starEach [] X.env := by rfl) (hsw : swapsWith (.Call (.Attribute (.Name x p') "append" apos) [e] [] cpos) none pos.line X.env = pure false := by rfl) :
    PSO X L nw W Ol O O (.Expr (.Call (.Attribute (.Name x p') "append" apos) [e] [] cpos) pos) (sAppS i (ev vw (ks O) m)) :=
  PS.imp (ps_expr (pe_bm PySem.F.plainAttrs_list PySem.F.slot_list_append PySem.F.type_list_append mt_append hx (pa_cons he pa_nil hs) hbase hfew hline hs rfl) hsw) fun Dn σ H ⟨G0, H0, ρ, o, ⟨G, g, R⟩, ht, hm, q⟩ => by
    unfold sAppS at hm
    cases k1 : ev vw (ks O) m ρ with
    | none => rw [k1] at hm; cases hm
    | some d =>
      cases k2 : (ρ[i]?).join with
      | none => simp [k1, k2] at hm
      | some dl =>
        simp only [k1, k2, Option.bind_some, Option.ite_none_right_eq_some] at hm
        obtain ⟨hsc, hm⟩ := hm
        cases dl <;> simp only [reduceCtorEq, Option.ite_none_right_eq_some, Option.some.injEq] at hm
        rename_i ds
        obtain ⟨hl, rfl⟩ := hm
        have er : ρ[i]? = some (some (.lst ds)) := by
          cases z : ρ[i]? with
          | none => rw [z] at k2; cases k2
          | some o => rw [z] at k2; exact congrArg some k2
        obtain ⟨v, A, h1, h2, h3, h4⟩ := R.get hi er
        obtain ⟨a, xs, B, rfl, h6, h7, h8⟩ := h2.list h3
        refine ⟨.ref a, h1, .inl ⟨rfl, xs, .inl (.inl h6)⟩, evP g R ht k1 fun y G1 H1 g1 a1 => ?_⟩
        obtain ⟨v', A', h1', h2', h3', h4'⟩ := (R.gr g1).get hi er
        rw [h1] at h1'
        cases h1'
        obtain ⟨a', xs', B', e', h6', h7', h8'⟩ := h2'.list h3'
        cases e'
        refine ⟨a, xs', y, rfl, rfl, h6', ?_, q σ _ ⟨G1, (g.trans g1).put (h4'.out a (by rw [h7']; exact List.mem_cons_self)) (h4'.nw a (by rw [h7']; exact List.mem_cons_self)), (R.gr g1).put hO hi er h1 h6' (own_scal hsc a1)⟩⟩
        rw [h8'.length]
        exact Nat.lt_of_lt_of_le hl (by decide)
theorem so_for {tg iter : Expr} {body : List Stmt} {mi : Env → Option (List D)} {bd : D → Env → Option Env} {vs : List Nat} {g : TG} (hgd : GdOk X.K vs g bd) (hp : PassesOwn (model X.prog X.w) X.A X.env X.xe) (hc : X.calm = true) (hi : PID X L tg iter mi) (hg : PG X tg g) (hb : PSsO X L nw W O O O body b) (hv : ∀ i ∈ ks O, i ∉ vs := by decide)
    (hs : ∀ x, foldedSetIterable iter X.env x = pure x := by intro _; rfl) : PSO X L nw W Ol O O (.For tg iter body [] pos) (sFor (ks O) mi bd b) := PS.imp (ps_for hp hc hi hg hb hs) fun Dn σ H ⟨G0, H0, ρ, o, ⟨G, g0, R⟩, ht, hm, q⟩ => by
  unfold sFor at hm
  cases h1 : mi (wipeD ρ (ks O)) with
  | none => rw [h1] at hm; cases hm
  | some ds =>
    rw [h1] at hm
    refine ⟨G, wipeD ρ (ks O), ds, g0.sub, R.plain, ht.ext g0.ext, h1, fun J G1 H1 g1 wk => ?_⟩
    have g01 := g0.trans g1
    refine ⟨fun i mm σ' H' => mm = ds.length - i ∧ i ≤ ds.length ∧ ∃ ρi, StO X.K L G1 H0 O σ' H' ρi ∧ forGo (ks O) bd b (ds.drop i) ρi = some o, ⟨ds.length, by simp, Nat.zero_le _, ρ, ⟨G1, g01.self, R.gr g1⟩, by rw [List.drop_zero]; exact hm⟩, ?_⟩
    rintro i mm σ' H' ⟨rfl, hi, ρi, ⟨Gi, gi, Ri⟩, hgo⟩
    have s1 : Sub G1 H' := fun a o e => gi.sub a o (gi.up a o e)
    obtain ⟨w1, w2⟩ := wk H' s1
    by_cases hlt : i < ds.length
    · refine .inr ?_
      obtain ⟨go, yl⟩ := w1 i ds[i] (List.getElem?_eq_getElem hlt)
      refine ⟨go, fun σ5 H5 => ∃ ρi, StO X.K L G1 H0 O σ5 H5 ρi ∧ forGo (ks O) bd b (ds.drop (i + 1)) ρi = some o, fun σ5 H5 h5 => ⟨_, by omega, rfl, hlt, h5⟩, fun x H3 hy => ?_⟩
      obtain ⟨G3, g3, a3⟩ := yl x H3 hy Gi gi.sub gi.up
      rw [List.drop_eq_getElem_cons hlt] at hgo
      unfold forGo at hgo
      cases k1 : bd ds[i] (wipeD ρi (ks O)) with
      | none => rw [k1] at hgo; cases hgo
      | some ρ1 =>
        cases k2 : b (mrg (ks O) ρi ρ1) with
        | none => simp [k1, k2] at hgo
        | some o1 =>
          simp only [k1, k2, Option.bind_some] at hgo
          refine hgd G3 H3 σ' (wipeD ρi (ks O)) ρ1 ds[i] x _ g3.sub (Ri.plain.mono g3.up) a3 k1 fun σ1 hR1 hl1 hw1 => ⟨G1, H0, mrg (ks O) ρi ρ1, o1, ⟨G3, gi.trans g3, (Ri.gr g3).bind hv hR1 hw1⟩, ht, k2, ?_⟩
          cases o1 with
          | nx ρ2 => exact fun σ4 H4 h4 => ⟨ρ2, h4, hgo⟩
          | ct ρ2 => exact fun σ4 H4 h4 => ⟨ρ2, h4, hgo⟩
          | bk ρ2 =>
            cases hgo
            exact fun σ4 H4 h4 => q σ4 H4 (h4.base g01)
          | rt d =>
            cases hgo
            cases nw with
            | true => exact fun v G4 H4 A g4 a4 n f => (show ∀ v G' H' A, Gr L G0 H0 G' H' → Own X.K G' H' true d v A → Held d A → Fresh H0 G' A → Dn.rt v H' from q) v G4 H4 A (g01.base g4) a4 n f
            | false => exact fun v G4 H4 g4 a4 => (show ∀ v G' H', Gr L G0 H0 G' H' → At X.K G' d v → Dn.rt v H' from q) v G4 H4 (g01.base g4) a4
          | ex n =>
            cases hgo
            exact fun σ4 G4 H4 g4 => q σ4 G4 H4 (g01.base g4)
    · have hi' : i = ds.length := by omega
      subst hi'
      rw [List.drop_of_length_le (Nat.le_refl _)] at hgo
      cases hgo
      exact .inl ⟨w2 _ (Nat.le_refl _), q σ' H' ((show StO X.K L G1 H0 O σ' H' ρi from ⟨Gi, gi, Ri⟩).base g01)⟩
end
end DN

set_option Elab.async false
set_option linter.all false
set_option maxRecDepth 100000
set_option maxHeartbeats 2000000
/-! Raising calls and defs over plain data. -/
namespace DN
open PySem PySem.Spec PyProof.Rows L2 GxR GX
/-- what is wanted of an own error, by its class -/
def WofN (cls : Str → Addr) (W : WX) : WN := fun n σ H => W (.ref (cls n)) none σ H
/-- what a def gives that may raise -/
inductive Res where
  | ok (d : D) | er (n : Str)
def spR (K : PySem.W.Frag) (L : List Addr) (nwc : Bool) (cls : Str → Addr) (n : Nat) (g : List D → Option Res) : Sp := fun vs H Q E => ∃ G ds r, Sub G H ∧ Tabs L H ∧ ds.length = n ∧ Ats K G ds vs ∧ g ds = some r ∧
  match r with
  | .ok d => if nwc = true then ∀ v G' H' A, Gr L G H G' H' → Own K G' H' true d v A → Held d A → Fresh H G' A → Q v H' else ∀ v G' H', Gr L G H G' H' → At K G' d v → Q v H'
  | .er n => ∀ G' H', Gr L G H G' H' → E (.ref (cls n)) none H'
/-- a def's promise over data; nw: a list that it tells is new -/
def spPN (K : PySem.W.Frag) (L : List Addr) (nw : Bool) (n : Nat) (g : List D → Option D) : Sp := fun vs H Q _ => ∃ G ds d, Sub G H ∧ Tabs L H ∧ ds.length = n ∧ Ats K G ds vs ∧ g ds = some d ∧ if nw = true then ∀ v G' H' A, Gr L G H G' H' → Own K G' H' true d v A → Held d A → Fresh H G' A → Q v H' else ∀ v G' H', Gr L G H G' H' → At K G' d v → Q v H'
/-- what is owned may be seen -/
theorem Gr.show {L : List Addr} {K : PySem.W.Frag} {G H G' H' : Hp} {d : D} {v : V} {A : List Addr} (g : Gr L G H G' H') (o : Own K G' H' true d v A) (f : Fresh H G' A) : ∃ G2, Gr L G H G2 H' ∧ At K G2 d v := by
  have up : ∀ a o, G' a = some o → seen G' H' (· ∈ A) a = some o := fun a o e => by
    unfold seen
    by_cases h : a ∈ A
    · rw [f.out a h] at e; cases e
    · rw [if_neg h]; exact e
  refine ⟨seen G' H' (· ∈ A), ⟨fun a u e => ?_, fun a u e => up a u (g.up a u e), g.ext, fun a e => ?_⟩, Own.at up (fun a ha => ?_) o⟩
  · unfold seen at e
    by_cases h : a ∈ A
    · rw [if_pos h] at e
      obtain ⟨u', hu, n⟩ := Own.some o a h
      rw [hu] at e
      cases e
      exact ⟨hu, n⟩
    · rw [if_neg h] at e
      exact g.sub a u e
  · unfold seen at e
    by_cases h : a ∈ A
    · exact .inr (f.nw a h)
    · rw [if_neg h] at e
      exact g.new a e
  · unfold seen
    rw [if_pos ha]
theorem FnOk.weak {P : Program} {w : World} {K : PySem.W.Frag} {mg : Str → Option Value} {base : Heap} {k n : Nat} {f : Addr} {fd : FuncData} {ps : List Str} {L : List Addr} {nw : Bool} {g : List D → Option D} (F : FnOk P w K mg base CX0 k f fd ps (spPN K L nw n g)) : FnOk P w K mg base CX0 k f fd ps (spP K L n g) :=
  F.imp fun vs H Q E ⟨G, ds, d, hs, ht, hn, ha, hg, q⟩ => ⟨G, ds, d, hs, ht, hn, ha, hg, by
    cases nw with
    | true => exact fun v G' H' A g o _ f => let ⟨G2, g2, a2⟩ := g.show o f; q v G2 H' g2 a2
    | false => exact fun v G' H' g a => q v G' H' g a⟩
/-- an own error of a call -/
def xEx (a : Env → Option (List D)) (g : List D → Option Res) : SM := fun ρ => (a ρ).bind fun ds => (g ds).bind fun | .ok _ => some (.nx ρ) | .er n => some (.ex n)
def xSet (i : Nat) (vw : Bool) (O : List Nat) (a : Env → Option (List D)) (g : List D → Option Res) : SM := fun ρ => (if vw = true then a ρ else a (wipeD ρ O)).bind fun ds => (g ds).bind fun | .ok d => if vw = true ∧ Scal d = false then none else some (.nx (ρ.set i (some d))) | .er n => some (.ex n)
def xNew (i : Nat) (a : Env → Option (List D)) (g : List D → Option Res) : SM := fun ρ => (a ρ).bind fun ds => (g ds).bind fun | .ok d => some (.nx (ρ.set i (some d))) | .er n => some (.ex n)
def xRet (a : Env → Option (List D)) (g : List D → Option Res) : SM := fun ρ => (a ρ).bind fun ds => (g ds).bind fun | .ok d => some (.rt d) | .er n => some (.ex n)
section
variable {X : Cx} {L : List Addr} {nw : Bool} {Ol O O' : Ow} {pos : Pos} {e : Expr}
theorem so_raise {cls : Str → Addr} {Wx : WX} {x ms : Str} {j : Nat} {p p2 ppos : Pos} {bmB : List Value} {B newId initId : String} (F : PySem.ExcBaseFacts B newId initId bmB) (hc : X.calm = true) (tk : Takes X Wx) (q : PySem.W.excIn X.K (cls x) bmB newId = true) (gC : X.mg x = some (.ref (cls x))) (kC : PySem.W.keepIn X.K (.ref (cls x)) = true) (r : Raises X (.ref (cls x))) (hg : Gl X x)
    (hdb : (x == ("__debug__" : Str)) = false := by decide) : PSO X L nw (WofN cls Wx) Ol O O' (.Raise (some (.Call (.Name x p) [.Constant (.str ms) j p2] [] ppos)) none pos) (sEx x) :=
  PS.imp (ps_raise hc tk (pmk_own F q gC kC r hg hdb)) fun Dn σ H ⟨G0, H0, ρ, o, ⟨G, g, R⟩, ht, hm, q⟩ => by cases hm; exact q σ G H g
variable {nwc : Bool} {cls : Str → Addr} {Wx : WX} {k n : Nat} {f : Addr} {fd : FuncData} {ps : List Str} {g : List D → Option Res} {x : Str} {p ppos : Pos} {es : List Expr} {ml : _root_.DN.Env → Option (List D)}
theorem callO {σ : L2.St} {G H : Hp} {Q : VK} {ds : List D} {r : Res} {G0 H0 : Hp} {ρ : _root_.DN.Env} (g0 : Gr L G0 H0 G H) (R : RepO X.K H0 G H O σ ρ) (ht : Tabs L H0) (hn : ds.length = n) (vw : Bool) (h1 : (if vw = true then ml ρ else ml (wipeD ρ (ks O))) = some ds) (h2 : g ds = some r)
    (q : match r with
      | .ok d => if nwc = true then ∀ v H1 A, Ext L H H1 → Own X.K G H1 true d v A → Held d A → A.Nodup → (∀ x ∈ A, H x = none) → Q v H1 else ∀ v G1 H1, Gr L G0 H0 G1 H1 → Gr L G H (if vw = true then G else G1) H1 → At X.K G1 d v → Q v H1
      | .er nn => ∀ G1 H1, Gr L G0 H0 G1 H1 → WofN cls Wx nn σ H1) : tCallS (spR X.K L nwc cls n g) (WE Wx) (tPA X.K L ml) σ H Q := by
  cases vw with
  | true =>
    simp only [if_true] at h1
    obtain ⟨Gv, gv, Rv, _⟩ := R.view g0
    refine ⟨Gv, ρ, ds, gv.sub, Rv, ht.ext g0.ext, h1, fun xs G1 H1 g1 a1 => ⟨G1, ds, r, g1.sub, (ht.ext g0.ext).ext g1.ext, hn, a1, h2, ?_⟩⟩
    cases r with
    | ok d =>
      cases nwc with
      | true => exact fun v G2 H2 A g2 o2 hh f => (show ∀ v H1 A, Ext L H H1 → Own X.K G H1 true d v A → Held d A → A.Nodup → (∀ x ∈ A, H x = none) → Q v H1 from q) v H2 A (g1.trans g2).ext o2.move hh f.nd fun x hx => g1.ext.dom x (f.nw x hx)
      | false => exact fun v G2 H2 g2 a2 => (show ∀ v G1 H1, Gr L G0 H0 G1 H1 → Gr L G H G H1 → At X.K G1 d v → Q v H1 from q) v G2 H2 (gv.trans (g1.trans g2)) (.of g0.sub (g1.trans g2).ext) a2
    | er nn => exact fun G2 H2 g2 => q G2 H2 (gv.trans (g1.trans g2))
  | false =>
    simp only [Bool.false_eq_true, if_false] at h1
    refine ⟨G, wipeD ρ (ks O), ds, g0.sub, R.plain, ht.ext g0.ext, h1, fun xs G1 H1 g1 a1 => ⟨G1, ds, r, g1.sub, (ht.ext g0.ext).ext g1.ext, hn, a1, h2, ?_⟩⟩
    cases r with
    | ok d =>
      cases nwc with
      | true => exact fun v G2 H2 A g2 o2 hh f => (show ∀ v H1 A, Ext L H H1 → Own X.K G H1 true d v A → Held d A → A.Nodup → (∀ x ∈ A, H x = none) → Q v H1 from q) v H2 A (g1.trans g2).ext o2.move hh f.nd fun x hx => g1.ext.dom x (f.nw x hx)
      | false => exact fun v G2 H2 g2 a2 => (show ∀ v G1 H1, Gr L G0 H0 G1 H1 → Gr L G H G1 H1 → At X.K G1 d v → Q v H1 from q) v G2 H2 (g0.trans (g1.trans g2)) (g1.trans g2) a2
    | er nn => exact fun G2 H2 g2 => q G2 H2 (g0.trans (g1.trans g2))
theorem so_exprX (F : FnOk X.prog X.w X.K X.mg X.base (L2.CX X.prog X.w) k f fd ps (spR X.K L nwc cls n g)) (hr : Room k X.A) (tk : Takes X Wx) (hg : Gl X x) (hm : X.mg x = some (.ref f)) (hk : PySem.W.keepIn X.K (.ref f) = true) (hb : Binds X.K fd ps []) (ha : PAD X L (e :: es) ml) (hn : ∀ ρ ds, ml ρ = some ds → ds.length = n)
    (hs : swapsWith (.Call (.Name x p) (e :: es) [] ppos) none pos.line X.env = pure false := by rfl) (hdb : (x == ("__debug__" : Str)) = false := by decide) (he : starEach (e :: es) X.env = (false, eval e X.env) :: starEach es X.env := by rfl) (hpl : (backTo ppos (starEach es X.env)).any (·.1) = false := by rfl) :
    PSO X L nw (WofN cls Wx) Ol O O (.Expr (.Call (.Name x p) (e :: es) [] ppos) pos) (xEx ml g) :=
  PS.imp (ps_expr (pe_callS F hr hg hm hk hb (fun σ => passAt tk σ) ha hdb he hpl) hs) fun Dn σ H ⟨G0, H0, ρ, o, ⟨G, g0, R⟩, ht, hmm, q⟩ => by
    unfold xEx at hmm
    cases k1 : ml ρ with
    | none => rw [k1] at hmm; cases hmm
    | some ds =>
      cases k2 : g ds with
      | none => simp [k1, k2] at hmm
      | some r =>
        simp only [k1, k2, Option.bind_some] at hmm
        refine callO g0 R ht (hn _ _ k1) true (by simpa using k1) k2 ?_
        cases r with
        | ok d =>
          cases hmm
          cases nwc with
          | true => exact fun v H1 A e _ _ _ _ => q σ H1 ⟨G, g0.trans (.of g0.sub e), R.gr (.of g0.sub e)⟩
          | false => exact fun v G1 H1 _ g2 _ => q σ H1 ⟨G, g0.trans g2, R.gr g2⟩
        | er nn => cases hmm; exact fun G1 H1 g1 => q σ G1 H1 g1
theorem so_setX {i : Nat} {y : Str} {py : Pos} {vw : Bool} (F : FnOk X.prog X.w X.K X.mg X.base (L2.CX X.prog X.w) k f fd ps (spR X.K L false cls n g)) (hr : Room k X.A) (tk : Takes X Wx) (hg : Gl X x) (hm : X.mg x = some (.ref f)) (hk : PySem.W.keepIn X.K (.ref f) = true) (hb : Binds X.K fd ps []) (ha : PAD X L (e :: es) ml) (hn : ∀ ρ ds, ml ρ = some ds → ds.length = n)
    (hN : X.N.Nodup) (hi : X.N[i]? = some y) (hx : Loc X.env.scope y) (hs : swapsWith (.Call (.Name x p) (e :: es) [] ppos) (some (.Name y py)) pos.line X.env = pure false := by rfl) (hf : X.fn y = true ∨ X.env.scope.names.lookup y = some .local := by first | exact .inl rfl | exact .inr rfl | assumption)
    (hdb : (x == ("__debug__" : Str)) = false := by decide) (he : starEach (e :: es) X.env = (false, eval e X.env) :: starEach es X.env := by rfl) (hpl : (backTo ppos (starEach es X.env)).any (·.1) = false := by rfl) :
    PSO X L nw (WofN cls Wx) Ol O (rm i O) (.Assign [.Name y py] (.Call (.Name x p) (e :: es) [] ppos) pos) (xSet i vw (ks O) ml g) :=
  PS.imp (ps_set hN hi hx (pe_callS F hr hg hm hk hb (fun σ => passAt tk σ) ha hdb he hpl) hs hf) fun Dn σ H ⟨G0, H0, ρ, o, ⟨G, g0, R⟩, ht, hmm, q⟩ => by
    unfold xSet at hmm
    cases k1 : (if vw = true then ml ρ else ml (wipeD ρ (ks O))) with
    | none => rw [k1] at hmm; cases hmm
    | some ds =>
      cases k2 : g ds with
      | none => simp [k1, k2] at hmm
      | some r =>
        simp only [k1, k2, Option.bind_some] at hmm
        refine callO (nwc := false) g0 R ht (by cases vw <;> exact hn _ _ (by simpa using k1)) vw k1 k2 ?_
        cases r with
        | ok d =>
          simp only at hmm
          split at hmm
          · cases hmm
          · rename_i hc
            cases hmm
            show ∀ v G1 H1, Gr L G0 H0 G1 H1 → Gr L G H (if vw = true then G else G1) H1 → At X.K G1 d v → _
            intro v G1 H1 g1 g2 a1
            cases vw with
            | false => exact q _ H1 ⟨G1, g1, (R.gr (by simpa using g2)).setP a1⟩
            | true =>
              have hsc : Scal d = true := by
                cases z : Scal d with
                | true => rfl
                | false => exact absurd ⟨rfl, z⟩ hc
              have g2' : Gr L G H G H1 := by simpa using g2
              exact q _ H1 ⟨G, g0.trans g2', (R.gr g2').setP (scal_move hsc a1)⟩
        | er nn => cases hmm; exact fun G1 H1 g1 => q σ G1 H1 g1
theorem so_newX {i : Nat} {y : Str} {py : Pos} (F : FnOk X.prog X.w X.K X.mg X.base (L2.CX X.prog X.w) k f fd ps (spR X.K L true cls n g)) (hr : Room k X.A) (tk : Takes X Wx) (hg : Gl X x) (hm : X.mg x = some (.ref f)) (hk : PySem.W.keepIn X.K (.ref f) = true) (hb : Binds X.K fd ps []) (ha : PAD X L (e :: es) ml) (hn : ∀ ρ ds, ml ρ = some ds → ds.length = n)
    (hN : X.N.Nodup) (hi : X.N[i]? = some y) (hx : Loc X.env.scope y) (hs : swapsWith (.Call (.Name x p) (e :: es) [] ppos) (some (.Name y py)) pos.line X.env = pure false := by rfl) (hf : X.fn y = true ∨ X.env.scope.names.lookup y = some .local := by first | exact .inl rfl | exact .inr rfl | assumption)
    (hdb : (x == ("__debug__" : Str)) = false := by decide) (he : starEach (e :: es) X.env = (false, eval e X.env) :: starEach es X.env := by rfl) (hpl : (backTo ppos (starEach es X.env)).any (·.1) = false := by rfl) :
    PSO X L nw (WofN cls Wx) Ol O ((i, true) :: rm i O) (.Assign [.Name y py] (.Call (.Name x p) (e :: es) [] ppos) pos) (xNew i ml g) :=
  PS.imp (ps_set hN hi hx (pe_callS F hr hg hm hk hb (fun σ => passAt tk σ) ha hdb he hpl) hs hf) fun Dn σ H ⟨G0, H0, ρ, o, ⟨G, g0, R⟩, ht, hmm, q⟩ => by
    unfold xNew at hmm
    cases k1 : ml ρ with
    | none => rw [k1] at hmm; cases hmm
    | some ds =>
      cases k2 : g ds with
      | none => simp [k1, k2] at hmm
      | some r =>
        simp only [k1, k2, Option.bind_some] at hmm
        refine callO (nwc := true) g0 R ht (hn _ _ k1) true (by simpa using k1) k2 ?_
        cases r with
        | ok d =>
          cases hmm
          exact fun v H1 A e o1 hh nd f => q _ H1 (newO g0 R e o1 hh nd f)
        | er nn => cases hmm; exact fun G1 H1 g1 => q σ G1 H1 g1
theorem so_retX (hnw : nw = true → nwc = true) (F : FnOk X.prog X.w X.K X.mg X.base (L2.CX X.prog X.w) k f fd ps (spR X.K L nwc cls n g)) (hr : Room k X.A) (tk : Takes X Wx) (hg : Gl X x) (hm : X.mg x = some (.ref f)) (hk : PySem.W.keepIn X.K (.ref f) = true) (hb : Binds X.K fd ps []) (ha : PAD X L (e :: es) ml) (hn : ∀ ρ ds, ml ρ = some ds → ds.length = n)
    (hdb : (x == ("__debug__" : Str)) = false := by decide) (he : starEach (e :: es) X.env = (false, eval e X.env) :: starEach es X.env := by rfl) (hpl : (backTo ppos (starEach es X.env)).any (·.1) = false := by rfl) :
    PSO X L nw (WofN cls Wx) Ol O O' (.Return (some (.Call (.Name x p) (e :: es) [] ppos)) pos) (xRet ml g) :=
  PS.imp (ps_ret (pe_callS F hr hg hm hk hb (fun σ => passAt tk σ) ha hdb he hpl)) fun Dn σ H ⟨G0, H0, ρ, o, ⟨G, g0, R⟩, ht, hmm, q⟩ => by
    unfold xRet at hmm
    cases k1 : ml ρ with
    | none => rw [k1] at hmm; cases hmm
    | some ds =>
      cases k2 : g ds with
      | none => simp [k1, k2] at hmm
      | some r =>
        simp only [k1, k2, Option.bind_some] at hmm
        refine callO g0 R ht (hn _ _ k1) true (by simpa using k1) k2 ?_
        cases r with
        | ok d =>
          cases hmm
          cases nw with
          | true =>
            cases hnw rfl
            exact fun v H1 A e o1 hh nd f => (show ∀ v G' H' A, Gr L G0 H0 G' H' → Own X.K G' H' true d v A → Held d A → Fresh H0 G' A → Dn.rt v H' from q) v G H1 A (g0.trans (.of g0.sub e)) o1 hh ⟨nd, fun x hx => g0.sub.none (f x hx), fun x hx => g0.ext.dom x (f x hx)⟩
          | false =>
            cases nwc with
            | true =>
              refine fun v H1 A e o1 hh nd f => ?_
              have g2 : Gr L G H G H1 := .of g0.sub e
              obtain ⟨G2, g3, a3⟩ := g2.show o1 ⟨nd, fun x hx => g0.sub.none (f x hx), f⟩
              exact (show ∀ v G' H', Gr L G0 H0 G' H' → At X.K G' d v → Dn.rt v H' from q) v G2 H1 (g0.trans g3) a3
            | false => exact fun v G1 H1 g1 _ a1 => (show ∀ v G' H', Gr L G0 H0 G' H' → At X.K G' d v → Dn.rt v H' from q) v G1 H1 g1 a1
        | er nn => cases hmm; exact fun G1 H1 g1 => q σ G1 H1 g1
end
/-! ### defs -/
/-- a def of the text as it stands behind the top, its code object at c -/
structure FunC (K : PySem.W.Frag) (x qual : Str) (st : Stmt) (f : Addr) (fd : FuncData) (c : Addr) : Prop where
  ex : ∃ (oc : Value) (od : Option Addr) (kV doc pm : Value) (an : Option Addr) (ct : Value) (osl : Array (Option Value)),
    fd = PySem.W.fnOf x qual (defArgs st) (defBody st) (defScope st) .none kV doc pm an (.ref c) ct ∧ K.lookup f = some ⟨oc, od, .func fd, osl⟩ ∧ PySem.W.codeIn K (.ref c) qual = true
  kp : PySem.W.keepIn K (.ref f) = true
theorem FunC.F {K : PySem.W.Frag} {x qual : Str} {st : Stmt} {f c : Addr} {fd : FuncData} (F : FunC K x qual st f fd c) : Fun K x qual st f fd := by
  obtain ⟨oc, od, kV, doc, pm, an, ct, osl, h1, h2, h3⟩ := F.ex
  exact ⟨⟨oc, od, kV, doc, pm, an, _, ct, osl, h1, h2, h3⟩, F.kp⟩
theorem funC_mk {K : PySem.W.Frag} {x qual : Str} {st : Stmt} {f c : Addr} {oc : Value} {od an : Option Addr} {osl : Array (Option Value)} {kV doc pm ct : Value} (l : K.lookup f = some ⟨oc, od, .func (PySem.W.fnOf x qual (defArgs st) (defBody st) (defScope st) .none kV doc pm an (.ref c) ct), osl⟩)
    (h : PySem.W.codeIn K (.ref c) qual = true) (k : PySem.W.keepIn K (.ref f) = true) : FunC K x qual st f (PySem.W.fnOf x qual (defArgs st) (defBody st) (defScope st) .none kV doc pm an (.ref c) ct) c := ⟨⟨oc, od, kV, doc, pm, an, ct, osl, rfl, l, h⟩, k⟩
def startD (N : Nat) (ds : List D) : Env := ds.map some ++ List.replicate (N - ds.length) none
theorem rep_start {K : PySem.W.Frag} {G : Hp} {ds : List D} {vs : List V} (N : List Str) (h : Ats K G ds vs) : Rep K G (L2.start N vs) (startD N.length ds) := by
  have hl := h.length
  refine ⟨by unfold L2.start startD; simp [hl], fun i d hi => ?_⟩
  unfold startD at hi
  unfold L2.start
  by_cases hlt : i < ds.length
  · rw [List.getElem?_append_left (by simpa using hlt), List.getElem?_map] at hi
    cases q : ds[i]? with
    | none => rw [q] at hi; cases hi
    | some d' =>
      rw [q] at hi
      cases hi
      obtain ⟨v, h1, h2⟩ := h.get q
      exact ⟨v, by rw [List.getElem?_append_left (by simp [hl]; exact hlt), List.getElem?_map, h1]; rfl, h2⟩
  · rw [List.getElem?_append_right (by simpa using Nat.le_of_not_lt hlt), List.getElem?_replicate] at hi
    split at hi <;> cases hi
def outD : Out → Option D
  | .nx _ => some .non
  | .rt d => some d
  | _ => none
def outR : Out → Option Res
  | .nx _ => some (.ok .non)
  | .rt d => some (.ok d)
  | .ex n => some (.er n)
  | _ => none
def fnD (N : Nat) (m : SM) : List D → Option D := fun ds => (m (startD N ds)).bind outD
def fnR (N : Nat) (m : SM) : List D → Option Res := fun ds => (m (startD N ds)).bind outR
section
variable {P : Program} {w : World} {K : PySem.W.Frag} {mg : Str → Option Value} {base : Heap} {x qual : Str} {st : Stmt} {f c : Addr} {fd : FuncData} {N ps : List Str} {k : Nat} {L : List Addr} {nw : Bool} {m : SM} {O' : Ow}
theorem FunC.okD (F : FunC K x qual st f fd c) (S : FnScope N ps (defScope st))
    (hbody : ∀ (A : Around) (outer : List _root_.PySem.Env) (s : Shared) (H : Hp) (E : XK), Room k (A.deeper (envOfC qual (defScope st) s.heap.objs.size f (.ref c))) →
      PSsO (cxOf CX0 P w K mg base N qual (defScope st) f (.ref c) A outer s H E).nox L nw W0 [] [] O' (defBody st) m) : FnOk P w K mg base CX0 (k + 1) f fd ps (spPN K L nw ps.length (fnD N.length m)) := by
  obtain ⟨oc, od, kV, doc, pm, an, ct, osl, rfl, lk, hcd⟩ := F.ex
  refine fn_of lk hcd S (fun vs H Q E ⟨G, ds, d, _, _, hn, ha, _, _⟩ => by rw [ha.length, hn]) fun A outer s H vs Q E hr hsp => ⟨_, PSs.nox (hbody A outer s H E hr), ?_⟩
  obtain ⟨G, ds, d, hs, ht, hn, ha, hg, q⟩ := hsp
  unfold fnD at hg
  cases k1 : m (startD N.length ds) with
  | none => rw [k1] at hg; cases hg
  | some o =>
    rw [k1] at hg
    refine ⟨G, H, startD N.length ds, o, ⟨G, .refl hs, .of (rep_start N ha)⟩, ht, k1, ?_⟩
    cases o with
    | nx ρ =>
      cases hg
      cases nw with
      | true => exact fun σ' H' ⟨G', g, _⟩ => (show ∀ v G' H' A, Gr L G H G' H' → Own K G' H' true .non v A → Held .non A → Fresh H G' A → Q v H' from q) .non G' H' [] g ⟨rfl, rfl⟩ (fun ds e => nomatch e) .nil
      | false => exact fun σ' H' ⟨G', g, _⟩ => (show ∀ v G' H', Gr L G H G' H' → At K G' .non v → Q v H' from q) .non G' H' g rfl
    | rt d' => cases hg; exact q
    | bk ρ => cases hg
    | ct ρ => cases hg
    | ex n => cases hg
theorem FunC.okR {cls : Str → Addr} (F : FunC K x qual st f fd c) (S : FnScope N ps (defScope st))
    (hbody : ∀ (A : Around) (outer : List _root_.PySem.Env) (s : Shared) (H : Hp) (E : XK), Room k (A.deeper (envOfC qual (defScope st) s.heap.objs.size f (.ref c))) →
      PSsO (cxOf (L2.CX P w) P w K mg base N qual (defScope st) f (.ref c) A outer s H E) L nw (WofN cls fun cv d _ H' => E cv d H') [] [] O' (defBody st) m) : FnOk P w K mg base (L2.CX P w) (k + 1) f fd ps (spR K L nw cls ps.length (fnR N.length m)) := by
  obtain ⟨oc, od, kV, doc, pm, an, ct, osl, rfl, lk, hcd⟩ := F.ex
  refine fn_of lk hcd S (fun vs H Q E ⟨G, ds, d, _, _, hn, ha, _, _⟩ => by rw [ha.length, hn]) fun A outer s H vs Q E hr hsp => ⟨_, hbody A outer s H E hr, ?_⟩
  obtain ⟨G, ds, r, hs, ht, hn, ha, hg, q⟩ := hsp
  unfold fnR at hg
  cases k1 : m (startD N.length ds) with
  | none => rw [k1] at hg; cases hg
  | some o =>
    rw [k1] at hg
    refine ⟨G, H, startD N.length ds, o, ⟨G, .refl hs, .of (rep_start N ha)⟩, ht, k1, ?_⟩
    cases o with
    | nx ρ =>
      cases hg
      cases nw with
      | true => exact fun σ' H' ⟨G', g, _⟩ => (show ∀ v G' H' A, Gr L G H G' H' → Own K G' H' true .non v A → Held .non A → Fresh H G' A → Q v H' from q) .non G' H' [] g ⟨rfl, rfl⟩ (fun ds e => nomatch e) .nil
      | false => exact fun σ' H' ⟨G', g, _⟩ => (show ∀ v G' H', Gr L G H G' H' → At K G' .non v → Q v H' from q) .non G' H' g rfl
    | rt d' => cases hg; exact q
    | bk ρ => cases hg
    | ct ρ => cases hg
    | ex n => cases hg; exact fun σ' G' H' g => q G' H' g
end

/-! ### new lists -/
section
variable {X : Cx} {L : List Addr} {e : Expr} {pos : Pos} {m : DM}
theorem pdw_call {k n : Nat} {f : Addr} {fd : FuncData} {ps : List Str} {g : List D → Option D} {x : Str} {p : Pos} {es : List Expr} {m : _root_.DN.Env → Option (List D)} (F : FnOk X.prog X.w X.K X.mg X.base CX0 k f fd ps (spPN X.K L true n g)) (hr : Room k X.A) (hg : Gl X x) (hm : X.mg x = some (.ref f)) (hk : PySem.W.keepIn X.K (.ref f) = true) (hb : Binds X.K fd ps [])
    (ha : PAD X L (e :: es) m) (hn : ∀ ρ ds, m ρ = some ds → ds.length = n) (hdb : (x == ("__debug__" : Str)) = false := by decide) (he : starEach (e :: es) X.env = (false, eval e X.env) :: starEach es X.env := by rfl) (hpl : (backTo pos (starEach es X.env)).any (·.1) = false := by rfl) :
    PDW X L (.Call (.Name x p) (e :: es) [] pos) (dFn g m) :=
  PE.imp (pe_call (dvs := []) (E := E0) F hr hg hm hk hb .nil pass0 ha hdb he hpl) fun σ H Q ⟨G, ρ, d, hs, hR, ht, hmm, q⟩ => by
    unfold dFn at hmm
    cases h1 : m ρ with
    | none => rw [h1] at hmm; cases hmm
    | some ds =>
      rw [h1] at hmm
      refine ⟨G, ρ, ds, hs, hR, ht, h1, fun xs G1 H1 g1 a1 => ?_⟩
      show spPN X.K L true n g (xs ++ []) H1 Q E0
      rw [List.append_nil]
      exact ⟨G1, ds, d, g1.sub, ht.ext g1.ext, hn ρ ds h1, a1, hmm, fun v G3 H3 A g3 o3 hh f3 => q v G3 H3 A (g1.trans g3) o3 hh ⟨f3.nd, f3.out, fun x hx => g1.ext.dom x (f3.nw x hx)⟩⟩
theorem pdn_lc {tg iter elt : Expr} {ifs : List Expr} {scope : Scope} {own : List (Str × Nat)} {mi : _root_.DN.Env → Option (List D)} {bd : D → _root_.DN.Env → Option _root_.DN.Env} {tt : _root_.DN.Env → Option Bool} {me : DM} {g : TG} (hc : X.calm = true) (hN : X.N.Nodup) (hi : PID X L tg iter mi) (ok : BlkOk X.N X.env.scope scope own) (hgd : GdOk X.K (own.map (·.2)) g bd)
    (hg : ∀ (s : Shared) (H : Hp) (C : Addr) (cl : List (Str × Addr)) (fp : List Addr), PG (X.blk s H scope (compEnvC scope cl C X.env) fp) tg g) (ht : ∀ (s : Shared) (H : Hp) (C : Addr) (cl : List (Str × Addr)) (fp : List Addr), PTs (X.blk s H scope (compEnvC scope cl C X.env) fp) ifs (tPT X.K L tt))
    (he : ∀ (s : Shared) (H : Hp) (C : Addr) (cl : List (Str × Addr)) (fp : List Addr), PD (X.blk s H scope (compEnvC scope cl C X.env) fp) L elt me) (hs : ∀ x, foldedSetIterable iter X.env x = pure x := by intro _; rfl) :
    PDN X L (.ListComp elt [⟨tg, iter, ifs, 0⟩] scope pos) (dLc (own.map (·.2)) mi bd tt me) := PE.imp (pe_lc (te := tP X.K L me) hc hN hi ok hg ht he hs) (lc_impN hgd)
theorem pdn_non {j : Nat} : PDN X L (.Constant .none j pos) (dC .non) := PE.imp pe_non fun σ H Q ⟨G, ρ, d, hs, hr, ht, hm, q⟩ => by cases hm; exact q _ G H (.refl hs) rfl fun ds e => nomatch e
theorem pdn_lst {es : List Expr} {m : _root_.DN.Env → Option (List D)} (ha : PAD X L es m) (hl : ∀ ρ ds, m ρ = some ds → ds.length ≤ sizeLine) : PDN X L (.List es pos) (dFn (fun ds => some (.lst ds)) m) :=
  PE.imp (pe_lst ha) fun σ H Q ⟨G, ρ, d, hs, hR, ht, hm, q⟩ => by
    unfold dFn at hm
    cases h1 : m ρ with
    | none => rw [h1] at hm; cases hm
    | some ds =>
      rw [h1] at hm
      cases hm
      exact ⟨G, ρ, ds, hs, hR, ht, h1, fun xs G1 H1 g1 a1 => ⟨by rw [a1.length]; exact hl ρ ds h1, fun p hp => q _ (upd G1 p (.lst xs)) _ (g1.trans (.lay g1.sub hp fun ps z => by cases z)) ⟨p, xs, rfl, upd_same, a1.mono fun a o e => by
        rw [upd_ne (ne_of_none (g1.sub a o e).1 hp)]; exact e⟩ fun _ _ => ⟨p, rfl, g1.ext.dom p hp⟩⟩⟩
end
end DN
namespace DN
open PySem PySem.Spec PyProof.Rows L2
def okOf (g : List D → Option Res) : List D → Option D := fun ds => (g ds).bind fun | .ok d => some d | .er _ => none
/-- a def that may raise, where it does not -/
theorem FnOk.calm {P : Program} {w : World} {K : PySem.W.Frag} {mg : Str → Option Value} {base : Heap} {k n : Nat} {f : Addr} {fd : FuncData} {ps : List Str} {L : List Addr} {nw : Bool} {cls : Str → Addr} {g : List D → Option Res} (F : FnOk P w K mg base (L2.CX P w) k f fd ps (spR K L nw cls n g)) :
    FnOk P w K mg base CX0 k f fd ps (spPN K L nw n (okOf g)) := by
  have conv : ∀ vs H Q E, spPN K L nw n (okOf g) vs H Q E → spR K L nw cls n g vs H Q fun _ _ _ => False := fun vs H Q E ⟨G, ds, d, hs, ht, hn, ha, hg, q⟩ => by
    unfold okOf at hg
    cases k1 : g ds with
    | none => rw [k1] at hg; cases hg
    | some r =>
      rw [k1] at hg
      cases r with
      | er n => cases hg
      | ok d' =>
        obtain rfl : d' = d := Option.some.inj hg
        exact ⟨G, ds, .ok d', hs, ht, hn, ha, k1, q⟩
  refine ⟨fun vs H Q E h => F.len vs H Q _ (conv vs H Q E h), fun A outer s H ar us vs Q E hr e0 hb r h => codeAny_mono (F.run A outer s H ar us vs Q _ hr e0 hb r (conv vs H Q E h)) fun r s' z => ?_⟩
  cases r with
  | error e => exact let ⟨_, _, _, _, _, _, _, _, _, _, _, _, x⟩ := z; x.elim
  | ok fl => cases fl <;> exact z
end DN

set_option Elab.async false
set_option linter.all false
set_option maxRecDepth 100000
set_option maxHeartbeats 2000000
/-! More of owned lists: lists of new lists, an owned list put into another, while. -/
namespace DN
open PySem PySem.Spec PyProof.Rows L2 GxR GX
section
variable {K : PySem.W.Frag} {L : List Addr} {vs : List Nat} {mi : Env → Option (List D)} {bd : D → Env → Option Env} {tt : Env → Option Bool} {me : DM} {g : TG}
theorem lcW_imp (hg : GdOk K vs g bd) : ∀ σ H Q, tPW K L (dLc vs mi bd tt me) σ H Q → tLc (tI K L mi) g (tPT K L tt) (tPW K L me) vs σ H Q := fun σ H Q ⟨G, ρ, d, hs, hR, ht, hm, q⟩ => by
  unfold dLc at hm
  cases h1 : mi ρ with
  | none => rw [h1] at hm; cases hm
  | some ds =>
    cases h2 : lcGo bd tt me (wipeD ρ vs) ds with
    | none => simp [h1, h2] at hm
    | some es =>
      simp only [h1, h2, Option.bind_some, Option.ite_none_right_eq_some, Option.some.injEq] at hm
      obtain ⟨hlen, rfl⟩ := hm
      refine ⟨G, ρ, ds, hs, hR, ht, h1, fun J G1 H1 g1 wk Dd hD => ?_⟩
      refine ⟨fun i m H' => m = ds.length - i ∧ i ≤ ds.length ∧ ∃ Gi acc accD A rest, Ext L H1 H' ∧ Gr L G H Gi H' ∧ Gi Dd = none ∧ (∀ a o, G1 a = some o → Gi a = some o) ∧ H' Dd = some (.lst acc) ∧ Owns K Gi H' true accD acc A ∧ A.Nodup ∧ (∀ a ∈ A, H1 a = none ∧ Gi a = none ∧ a ≠ Dd) ∧ accD.length ≤ i ∧ lcGo bd tt me (wipeD ρ vs) (ds.drop i) = some rest ∧ accD ++ rest = es,
        ⟨ds.length, by simp, Nat.zero_le _, G1, [], [], [], es, .new hD, g1.trans (.of g1.sub (.new hD)), g1.sub.none hD, fun _ _ e => e, upd_same, ⟨rfl, rfl⟩, List.nodup_nil, fun a h => (List.not_mem_nil h).elim, Nat.zero_le _, by rw [List.drop_zero]; exact h2, List.nil_append _⟩, ?_⟩
      rintro i m H' ⟨rfl, hi, Gi, acc, accD, A, rest, e1, gi, nD, up, hDl, ta, nd, fr, hla, hgo, hes⟩
      have s1 : Sub G1 H' := fun a o e => gi.sub a o (up a o e)
      by_cases hlt : i < ds.length
      · refine .inr ?_
        obtain ⟨w1, _⟩ := wk H' s1
        obtain ⟨go, yl⟩ := w1 i ds[i] (List.getElem?_eq_getElem hlt)
        refine ⟨go, fun H5 => ∃ Gi acc accD A rest, Ext L H1 H5 ∧ Gr L G H Gi H5 ∧ Gi Dd = none ∧ (∀ a o, G1 a = some o → Gi a = some o) ∧ H5 Dd = some (.lst acc) ∧ Owns K Gi H5 true accD acc A ∧ A.Nodup ∧ (∀ a ∈ A, H1 a = none ∧ Gi a = none ∧ a ≠ Dd) ∧ accD.length ≤ i + 1 ∧ lcGo bd tt me (wipeD ρ vs) (ds.drop (i + 1)) = some rest ∧ accD ++ rest = es,
          fun H5 h5 => ⟨_, by omega, rfl, hlt, h5⟩, fun x H3 hy => ?_⟩
        obtain ⟨G3, g3, a3⟩ := yl x H3 hy Gi gi.sub up
        have hR3 : Rep K G3 (wipe σ vs) (wipeD ρ vs) := (hR.wipe vs).mono fun a o e => g3.up a o (gi.up a o e)
        rw [List.drop_eq_getElem_cons hlt] at hgo
        unfold lcGo at hgo
        cases k1 : bd ds[i] (wipeD ρ vs) with
        | none => rw [k1] at hgo; cases hgo
        | some ρ1 =>
          cases k2 : tt ρ1 with
          | none => simp [k1, k2] at hgo
          | some b =>
            -- what comes behind H' leaves the list and what it holds
            have outD : ∀ G4 H4, Gr L Gi H' G4 H4 → G4 Dd = none ∧ H4 Dd = some (.lst acc) ∧ Owns K G4 H4 true accD acc A ∧ ∀ a ∈ A, H1 a = none ∧ G4 a = none ∧ a ≠ Dd := fun G4 H4 g4 => by
              have out : ∀ a, Gi a = none → H' a ≠ none → G4 a = none := fun a h h' => by
                cases z : G4 a with
                | none => rfl
                | some o =>
                  rcases g4.new a (by rw [z]; simp) with y | y
                  · exact absurd h y
                  · exact absurd y h'
              refine ⟨out Dd nD (by rw [hDl]; simp), g4.ext.keep _ _ hDl (fun ps z => by cases z), Owns.keep g4.up (fun a _ o ho n => g4.ext.keep a o ho n) ta, fun a ha => ⟨(fr a ha).1, out a (fr a ha).2.1 ?_, (fr a ha).2.2⟩⟩
              obtain ⟨o, ho, _⟩ := Owns.some ta a ha
              rw [ho]; simp
            refine hg G3 H3 (wipe σ vs) (wipeD ρ vs) ρ1 ds[i] x _ g3.sub hR3 a3 k1 fun σ1 hR1 hl1 hw1 => ⟨by rw [hw1, wipe_wipe], G3, ρ1, b, g3.sub, hR1, (ht.ext g1.ext).ext (e1.trans g3.ext), k2, fun G4 H4 g4 => ?_⟩
            have g34 := g3.trans g4
            cases b with
            | false =>
              simp only [k1, k2, Option.bind_some, Bool.false_eq_true, if_false] at hgo ⊢
              obtain ⟨s3, s6, s7, s8⟩ := outD G4 H4 g34
              exact ⟨G4, acc, accD, A, rest, e1.trans g34.ext, gi.trans g34, s3, fun a o e => g34.up a o (up a o e), s6, s7, nd, s8, by omega, hgo, hes⟩
            | true =>
              simp only [k1, k2, Option.bind_some, if_true] at hgo ⊢
              cases k3 : me ρ1 with
              | none => rw [k3] at hgo; cases hgo
              | some y =>
                cases k4 : lcGo bd tt me (wipeD ρ vs) (ds.drop (i + 1)) with
                | none => simp [k3, k4] at hgo
                | some ys =>
                  simp only [k3, k4, Option.bind_some, Option.some.injEq] at hgo
                  subst hgo
                  refine ⟨G4, ρ1, y, g4.sub, hR1.mono g4.up, (ht.ext g1.ext).ext (e1.trans g34.ext), k3, fun v G5 H5 A5 g5 o5 _ f5 => ?_⟩
                  have g4' : Gr L G4 H4 G4 H5 := .of g4.sub g5.ext
                  have g345 := g34.trans g4'
                  obtain ⟨s3, s6, s7, s8⟩ := outD G4 H5 g345
                  have n5 : ∀ a ∈ A5, H4 a = none := f5.nw
                  have nD5 : Dd ∉ A5 := fun z => by
                    have := (outD G4 H4 g34).2.1
                    rw [n5 Dd z] at this
                    cases this
                  have dis : ∀ a ∈ A, a ∉ A5 := fun a ha z => by
                    obtain ⟨o, ho, _⟩ := Owns.some (outD G4 H4 g34).2.2.1 a ha
                    rw [n5 a z] at ho
                    cases ho
                  have hne : ∀ a, a ≠ Dd → upd H5 Dd (.lst (acc ++ [v])) a = H5 a := fun a h => upd_ne h
                  refine ⟨acc, s6, ?_, G4, acc ++ [v], accD ++ [y], A ++ A5, ys, (e1.trans g345.ext).mut hD, ?_, s3, fun a o e => g34.up a o (up a o e), upd_same, ?_, ?_, fun a ha => ?_, by rw [List.length_append, List.length_singleton]; omega, rfl, by rw [List.append_assoc]; exact hes⟩
                  · rw [ta.length]
                    exact Nat.lt_of_le_of_lt hla (Nat.lt_trans hlt (Nat.lt_of_lt_of_le hlen (by decide)))
                  · exact (gi.trans g345).put s3 (g1.ext.dom _ hD)
                  · refine (Owns.keep (fun _ _ z => z) (fun a ha o ho _ => ?_) s7).app (.one (Own.keep (fun _ _ z => z) (fun a ha o ho _ => ?_) (Own.move o5)))
                    · rw [hne a (s8 a ha).2.2]; exact ho
                    · rw [hne a fun z => nD5 (by rw [← z]; exact ha)]; exact ho
                  · exact List.nodup_append.mpr ⟨nd, f5.nd, fun a ha b hb z => dis a ha (by rw [z]; exact hb)⟩
                  · rcases List.mem_append.mp ha with ha | ha
                    · exact s8 a ha
                    · exact ⟨(e1.trans g34.ext).dom a (n5 a ha), g4.sub.none (n5 a ha), fun z => nD5 (by rw [← z]; exact ha)⟩
      · have hi' : i = ds.length := by omega
        subst hi'
        obtain ⟨_, w2⟩ := wk H' s1
        refine .inl ⟨w2 _ (Nat.le_refl _), ?_⟩
        rw [List.drop_of_length_le (Nat.le_refl _)] at hgo
        cases hgo
        rw [List.append_nil] at hes
        subst hes
        refine q (.ref Dd) Gi H' (Dd :: A) gi (.inr ⟨Dd, acc, A, rfl, hDl, rfl, ta⟩) (fun _ _ z => by cases z) ⟨List.nodup_cons.mpr ⟨fun z => (fr Dd z).2.2 rfl, nd⟩, fun a ha => ?_, fun a ha => ?_⟩
        · rcases List.mem_cons.mp ha with rfl | ha
          · exact nD
          · exact (fr a ha).2.1
        · rcases List.mem_cons.mp ha with rfl | ha
          · exact g1.ext.dom _ hD
          · exact g1.ext.dom _ (fr a ha).1
end
section
variable {X : Cx} {L : List Addr} {nw : Bool} {W : WN} {Ol O O' : Ow} {pos : Pos} {e : Expr} {m : DM}
theorem pdw_lc {tg iter elt : Expr} {ifs : List Expr} {scope : Scope} {own : List (Str × Nat)} {mi : _root_.DN.Env → Option (List D)} {bd : D → _root_.DN.Env → Option _root_.DN.Env} {tt : _root_.DN.Env → Option Bool} {me : DM} {g : TG} (hc : X.calm = true) (hN : X.N.Nodup) (hi : PID X L tg iter mi) (ok : BlkOk X.N X.env.scope scope own) (hgd : GdOk X.K (own.map (·.2)) g bd)
    (hg : ∀ (s : Shared) (H : Hp) (C : Addr) (cl : List (Str × Addr)) (fp : List Addr), PG (X.blk s H scope (compEnvC scope cl C X.env) fp) tg g) (ht : ∀ (s : Shared) (H : Hp) (C : Addr) (cl : List (Str × Addr)) (fp : List Addr), PTs (X.blk s H scope (compEnvC scope cl C X.env) fp) ifs (tPT X.K L tt))
    (he : ∀ (s : Shared) (H : Hp) (C : Addr) (cl : List (Str × Addr)) (fp : List Addr), PDW (X.blk s H scope (compEnvC scope cl C X.env) fp) L elt me) (hs : ∀ x, foldedSetIterable iter X.env x = pure x := by intro _; rfl) :
    PDW X L (.ListComp elt [⟨tg, iter, ifs, 0⟩] scope pos) (dLc (own.map (·.2)) mi bd tt me) := PE.imp (pe_lc (te := tPW X.K L me) hc hN hi ok hg ht he hs) (lcW_imp hgd)
theorem so_newWLc {i : Nat} {y : Str} {py : Pos} {elt tg iter : Expr} {ifs : List Expr} {scope : Scope} {own : List (Str × Nat)} {lpos spos : Pos} {mi : _root_.DN.Env → Option (List D)} {bd : D → _root_.DN.Env → Option _root_.DN.Env} {tt : _root_.DN.Env → Option Bool} {me : DM} {g : TG} (hc : X.calm = true) (hN : X.N.Nodup) (hy : X.N[i]? = some y) (hyl : X.env.scope.names.lookup y = some .local)
    (hsw : swapsWith (.ListComp elt [⟨tg, iter, ifs, 0⟩] scope lpos) (some (.Name y py)) spos.line X.env = pure true) (hi : PID X L tg iter mi) (ok : BlkOk X.N X.env.scope scope own) (hgd : GdOk X.K (own.map (·.2)) g bd)
    (hg : ∀ (s : Shared) (H : Hp) (C : Addr) (cl : List (Str × Addr)) (fp : List Addr), PG (X.blk s H scope (compEnvC scope cl C X.env) fp) tg g) (ht : ∀ (s : Shared) (H : Hp) (C : Addr) (cl : List (Str × Addr)) (fp : List Addr), PTs (X.blk s H scope (compEnvC scope cl C X.env) fp) ifs (tPT X.K L tt))
    (he : ∀ (s : Shared) (H : Hp) (C : Addr) (cl : List (Str × Addr)) (fp : List Addr), PDW (X.blk s H scope (compEnvC scope cl C X.env) fp) L elt me) (hs : ∀ x, foldedSetIterable iter X.env x = pure x := by intro _; rfl) :
    PSO X L nw W Ol O ((i, true) :: rm i O) (.Assign [.Name y py] (.ListComp elt [⟨tg, iter, ifs, 0⟩] scope lpos) spos) (sSet i (dLc (own.map (·.2)) mi bd tt me)) := PS.imp (ps_setLc (te := tPW X.K L me) hc hN hy hyl hsw hi ok hg ht he hs) fun Dn σ H ⟨G0, H0, ρ, o, ⟨G, g, R⟩, ht, hm, q⟩ => by
  unfold sSet at hm
  cases k1 : dLc (own.map (·.2)) mi bd tt me ρ with
  | none => rw [k1] at hm; cases hm
  | some d =>
    rw [k1] at hm
    cases hm
    obtain ⟨Gv, gv, Rv, _⟩ := R.view g
    exact lcW_imp hgd σ H _ ⟨Gv, ρ, d, gv.sub, Rv, ht.ext g.ext, k1, fun v G1 H1 A g1 o1 o2 f1 => q _ H1 (newO g R g1.ext o1.move o2 f1.nd f1.nw)⟩
/-- list(e) is new -/
theorem pdn_listC {x : Expr} {p : Pos} {ma : DM} (hg : Gl X "list") (hm : X.mg "list" = none) (ha : PD X L x ma) (he : starEach [x] X.env = (false, eval x X.env) :: starEach [] X.env := by rfl) : PDN X L (.Call (.Name "list" p) [x] [] pos) (dFn gList (dCons ma dNil)) :=
  PE.imp (pe_callTy call_list_of hg hm (by decide +kernel) (pa_cons ha pa_nil he) (he := he)) fun σ H Q ⟨G, ρ, d, hs, hR, ht, hmm, q⟩ => by
    unfold dFn dCons dNil at hmm
    cases h1 : ma ρ with
    | none => rw [h1] at hmm; cases hmm
    | some d1 =>
      rw [h1] at hmm
      refine ⟨G, ρ, d1, hs, hR, ht, h1, fun x G1 H1 g1 a1 => ?_⟩
      have hq : ∀ ds, d = .lst ds → ∀ ys, Ats X.K G1 ds ys → ∀ l, H1 l = none → Q (.ref l) (upd H1 l (.lst ys)) := fun ds hd ys t l hl => by
        subst hd
        exact q _ (upd G1 l (.lst ys)) _ (g1.trans (.lay g1.sub hl fun ps e => by cases e)) ⟨l, ys, rfl, upd_same, t.mono fun a o e => by rw [upd_ne (ne_of_none (g1.sub a o e).1 hl)]; exact e⟩ fun _ _ => ⟨l, rfl, g1.ext.dom l hl⟩
      have hmm : hList d1 = some d := hmm
      cases d1 <;> simp only [hList, reduceCtorEq, Option.some.injEq] at hmm
      · obtain ⟨p, ys, rfl, h2, t2⟩ := a1
        exact ⟨p, ys, rfl, .inl (SqL.of (g1.sub _ _ h2).1), hq _ hmm.symm ys t2⟩
      · obtain ⟨p, ys, rfl, h2, t2⟩ := a1
        exact ⟨p, ys, rfl, .inr (SqT.of (g1.sub _ _ h2).1), hq _ hmm.symm ys t2⟩
      · obtain ⟨p, rfl, h2⟩ := a1
        exact ⟨p, _, rfl, .inl (scr_read g1.sub h2), hq _ hmm.symm _ (ats_ints _)⟩
/-! while -/
def whGo (c : _root_.DN.Env → Option Bool) (b : SM) : Nat → _root_.DN.Env → Option Out
  | 0, _ => none
  | n + 1, ρ => (c ρ).bind fun k => if k = true then (b ρ).bind fun
    | .nx ρ' => whGo c b n ρ'
    | .ct ρ' => whGo c b n ρ'
    | .bk ρ' => some (.nx ρ')
    | o => some o
    else some (.nx ρ)
theorem so_while {c : Expr} {body : List Stmt} {tc : _root_.DN.Env → Option Bool} {b : SM} {n : Nat} (hp : PassesOwn (model X.prog X.w) X.A X.env X.xe) (hc : PTD X L c tc) (hb : PSsO X L nw W O O O body b) : PSO X L nw W Ol O O (.While c body [] pos) (whGo tc b n) := PS.imp (ps_while hp hc hb) fun Dn σ H ⟨G0, H0, ρ, o, hS, ht, hm, q⟩ => by
  refine ⟨fun k σ' H' => ∃ ρ', StO X.K L G0 H0 O σ' H' ρ' ∧ whGo tc b k ρ' = some o, ⟨n, ρ, hS, hm⟩, fun k σ' H' ⟨ρ', ⟨G, g, R⟩, hk⟩ => ?_⟩
  cases k with
  | zero => cases hk
  | succ k =>
    unfold whGo at hk
    cases k1 : tc ρ' with
    | none => rw [k1] at hk; cases hk
    | some t =>
      rw [k1] at hk
      refine viewT g R ht k1 fun H1 g1 => ?_
      cases t with
      | false => cases hk; exact q σ' H1 ⟨G, g.trans g1, R.gr g1⟩
      | true =>
        simp only [Option.bind_some, if_true] at hk ⊢
        cases k2 : b ρ' with
        | none => rw [k2] at hk; cases hk
        | some o1 =>
          rw [k2] at hk
          refine ⟨fun σ5 H5 => ∃ ρ5, StO X.K L G0 H0 O σ5 H5 ρ5 ∧ whGo tc b k ρ5 = some o, fun σ5 H5 h5 => ⟨k, Nat.lt_succ_self _, h5⟩, G0, H0, ρ', o1, ⟨G, g.trans g1, R.gr g1⟩, ht, k2, ?_⟩
          cases o1 with
          | nx ρ2 => exact fun σ4 H4 h4 => ⟨ρ2, h4, hk⟩
          | ct ρ2 => exact fun σ4 H4 h4 => ⟨ρ2, h4, hk⟩
          | bk ρ2 => cases hk; exact q
          | rt d => cases hk; exact q
          | ex nn => cases hk; exact q
end
end DN

set_option Elab.async false
set_option linter.all false
set_option maxRecDepth 100000
set_option maxHeartbeats 2000000
/-! An owned list put into another; all lists of an owned list grown by one. -/
namespace DN
open PySem PySem.Spec PyProof.Rows L2 GxR GX
theorem ow_uniq : ∀ {O : Ow}, (ks O).Nodup → ∀ {p q : Nat × Bool}, p ∈ O → q ∈ O → p.1 = q.1 → p = q
  | [], _, _, _, hp, _, _ => (List.not_mem_nil hp).elim
  | r :: O, nd, p, q, hp, hq, e => by
    have nd' := List.nodup_cons.mp nd
    rcases List.mem_cons.mp hp with h1 | h1
    · rcases List.mem_cons.mp hq with h2 | h2
      · rw [h1, h2]
      · exact absurd (show r.1 ∈ ks O from by rw [← h1, e]; exact List.mem_map.mpr ⟨q, h2, rfl⟩) nd'.1
    · rcases List.mem_cons.mp hq with h2 | h2
      · exact absurd (show r.1 ∈ ks O from by rw [← h2, ← e]; exact List.mem_map.mpr ⟨p, h1, rfl⟩) nd'.1
      · exact ow_uniq nd'.2 h1 h2 e
section
variable {K : PySem.W.Frag} {L : List Addr} {H0 G0 G H G1 H1 : Hp} {O : Ow} {σ : L2.St} {ρ : Env}
/-- an owned value put behind an owned list -/
theorem RepO.mv {i j : Nat} {b c : Bool} {a : Addr} {ds : List D} {xs : List V} {d : D} {y : V} (R : RepO K H0 G H O σ ρ) (hO : (ks O).Nodup) (hi : (i, b) ∈ O) (hj : (j, c) ∈ O) (hij : i ≠ j) (hbc : b = true → c = true) (e : ρ[i]? = some (some (.lst ds))) (ej : ρ[j]? = some (some d)) (ha : σ[i]? = some (some (.ref a))) (hx : H a = some (.lst xs)) (hy : σ[j]? = some (some y)) :
    RepO K H0 G (upd H a (.lst (xs ++ [y]))) (rm j O) σ ((ρ.set j none).set i (some (.lst (ds ++ [d])))) := by
  obtain ⟨ft, h1, h2, h3⟩ := R.ow
  obtain ⟨v, k1, k2, k3⟩ := h1 (i, b) hi _ e
  rw [ha] at k1
  cases k1
  obtain ⟨a', xs', B, e1, e2, e3, e4⟩ := k2.list k3
  cases e1
  rw [hx] at e2
  cases e2
  obtain ⟨u, l1, l2, l3⟩ := h1 (j, c) hj _ ej
  rw [hy] at l1
  cases l1
  have hl : i < ρ.length := (List.getElem?_eq_some_iff.mp e).1
  have e3' : ft i = a :: B := e3
  have fi := (h2 (i, b) hi).1
  have fj := (h2 (j, c) hj).1
  have nB : a ∉ B := fun z => by
    have := fi.nd
    rw [e3'] at this
    exact (List.nodup_cons.mp this).1 z
  have nJ : a ∉ ft j := h3 (i, b) hi (j, c) hj hij a (by rw [e3']; exact List.mem_cons_self)
  have hH : ∀ x, x ≠ a → upd H a (.lst (xs ++ [y])) x = H x := fun x hx => upd_ne hx
  refine ⟨by rw [List.length_set, List.length_set]; exact R.len, fun k d' hk h => ?_, fun k => if k = i then ft i ++ ft j else ft k, fun p hp d' h => ?_, fun p hp => ?_, fun p hp q hq hpq x hx1 hx2 => ?_⟩
  · have hki : i ≠ k := fun z => hk (by rw [← z]; exact mem_ks (mem_rm.mpr ⟨hi, Ne.symm hij⟩))
    rw [List.getElem?_set_ne hki] at h
    rcases getset h with ⟨_, z, _⟩ | ⟨hjk, h⟩
    · cases z
    · refine R.pl k d' (fun z => hk ?_) h
      obtain ⟨w, hw⟩ := of_ks z
      exact mem_ks (mem_rm.mpr ⟨hw, hjk⟩)
  · obtain ⟨p1, p2⟩ := mem_rm.mp hp
    rcases getset h with ⟨hpi, q1, _⟩ | ⟨hki, h⟩
    · cases q1
      have := ow_uniq hO p1 hi hpi.symm
      subst this
      refine ⟨.ref a, ha, ?_, fun ds' _ z => ?_⟩
      · simp only [if_true]
        refine .inr ⟨a, xs ++ [y], B ++ ft j, rfl, upd_same, by rw [e3', List.cons_append], ?_⟩
        refine (Owns.keep (fun _ _ z => z) (fun x hxB o ho _ => by rw [hH x fun z => nB (by rw [← z]; exact hxB)]; exact ho) e4).app (.one (Own.keep (fun _ _ z => z) (fun x hxJ o ho _ => by rw [hH x fun z => nJ (by rw [← z]; exact hxJ)]; exact ho) ?_))
        cases b with
        | true => cases hbc rfl; exact l2
        | false => exact l2.weak
      · simp only [if_true] at z
        rw [e3'] at z
        cases z
    · rcases getset h with ⟨_, z, _⟩ | ⟨_, h⟩
      · cases z
      · obtain ⟨w, q1, q2, q3⟩ := h1 p p1 d' h
        have nA : a ∉ ft p.1 := fun z => h3 (i, b) hi p p1 hki a (by rw [e3']; exact List.mem_cons_self) z
        simp only [if_neg (Ne.symm hki)]
        exact ⟨w, q1, Own.keep (fun _ _ z => z) (fun x hxA o ho _ => by rw [hH x fun z => nA (by rw [← z]; exact hxA)]; exact ho) q2, q3⟩
  · obtain ⟨p1, p2⟩ := mem_rm.mp hp
    have some_ : ∀ x, (∃ o, H x = some o ∧ ∀ ps, o ≠ .tbl ps) → ∃ o, upd H a (.lst (xs ++ [y])) x = some o ∧ ∀ ps, o ≠ .tbl ps := fun x hx => by
      by_cases hxa : x = a
      · subst hxa; exact ⟨_, upd_same, fun ps z => by cases z⟩
      · rw [hH x hxa]; exact hx
    by_cases hpi : p.1 = i
    · simp only [if_pos hpi]
      refine ⟨⟨List.nodup_append.mpr ⟨fi.nd, fj.nd, fun x hx1 x2 hx2 z => h3 (i, b) hi (j, c) hj hij x hx1 (by rw [z]; exact hx2)⟩, fun x hx => ?_, fun x hx => ?_⟩, fun x hx => some_ x ?_⟩
      · exact (List.mem_append.mp hx).elim (fi.out x) (fj.out x)
      · exact (List.mem_append.mp hx).elim (fi.nw x) (fj.nw x)
      · exact (List.mem_append.mp hx).elim ((h2 (i, b) hi).2 x) ((h2 (j, c) hj).2 x)
    · simp only [if_neg hpi]
      exact ⟨(h2 p p1).1, fun x hx => some_ x ((h2 p p1).2 x hx)⟩
  · obtain ⟨p1, p2⟩ := mem_rm.mp hp
    obtain ⟨q1, q2⟩ := mem_rm.mp hq
    by_cases hpi : p.1 = i
    · have hqi : q.1 ≠ i := fun z => hpq (by rw [hpi, z])
      simp only [if_pos hpi, if_neg hqi] at hx1 hx2
      rcases List.mem_append.mp hx1 with z | z
      · exact h3 (i, b) hi q q1 (Ne.symm hqi) x z hx2
      · exact h3 (j, c) hj q q1 q2 x z hx2
    · by_cases hqi : q.1 = i
      · simp only [if_neg hpi, if_pos hqi] at hx1 hx2
        rcases List.mem_append.mp hx2 with z | z
        · exact h3 p p1 (i, b) hi hpi x hx1 z
        · exact h3 p p1 (j, c) hj (Ne.symm p2) x hx1 z
      · simp only [if_neg hpi, if_neg hqi] at hx1 hx2
        exact h3 p p1 q q1 hpq x hx1 hx2
end
section
variable {X : Cx} {L : List Addr} {nw : Bool} {W : WN} {Ol O : Ow} {pos : Pos}
/-- name.append(other), both owned -/
theorem so_appO {i j : Nat} {b c : Bool} {x y : Str} {p' p2 apos cpos : Pos} (hO : (ks O).Nodup) (hi : (i, b) ∈ O) (hj : (j, c) ∈ O) (hij : i ≠ j) (hbc : b = true → c = true) (hx : PE X (.Name x p') (tVar i)) (hy : PE X (.Name y p2) (tVar j)) (hbase : attributeBase (.Name x p') "append" X.env (eval (.Name x p') X.env) = eval (.Name x p') X.env := by rfl)
    (hfew : ((backTo cpos (starEach ([.Name y p2] : List Expr) X.env)).all (fun x => !x.1) && (backToKw cpos (keywordEach [] X.env)).all (fun x => x.1.isSome) && decide (([.Name y p2] : List Expr).length + ([] : List Keyword).length + (if ([] : List Keyword).isEmpty then 0 else 1) < 30)) = true := by rfl)
    (hline : (apos.endLine == cpos.line) = true := by rfl) (hs : starEach ([.Name y p2] : List Expr) X.env = (false, eval (.Name y p2) X.env) :: starEach [] X.env := by rfl) (hsw : swapsWith (.Call (.Attribute (.Name x p') "append" apos) [.Name y p2] [] cpos) none pos.line X.env = pure false := by rfl) :
    PSO X L nw W Ol O (rm j O) (.Expr (.Call (.Attribute (.Name x p') "append" apos) [.Name y p2] [] cpos) pos) (sAppO i j) :=
  PS.imp (ps_expr (pe_bm PySem.F.plainAttrs_list PySem.F.slot_list_append PySem.F.type_list_append mt_append hx (pa_cons hy pa_nil hs) hbase hfew hline hs rfl) hsw) fun Dn σ H ⟨G0, H0, ρ, o, ⟨G, g, R⟩, ht, hm, q⟩ => by
    unfold sAppO at hm
    have ent : ∀ {k : Nat} {d : D}, (ρ[k]?).join = some d → ρ[k]? = some (some d) := fun {k d} h => by
      cases z : ρ[k]? with
      | none => rw [z] at h; cases h
      | some o => rw [z] at h; exact congrArg some h
    cases k1 : (ρ[j]?).join with
    | none => rw [k1] at hm; cases hm
    | some d =>
      cases k2 : (ρ[i]?).join with
      | none => simp [k1, k2] at hm
      | some dl =>
        simp only [k1, k2, Option.bind_some] at hm
        cases dl <;> simp only [reduceCtorEq, Option.ite_none_right_eq_some, Option.some.injEq] at hm
        rename_i ds
        obtain ⟨hl, rfl⟩ := hm
        obtain ⟨v, A, h1, h2, h3, h4⟩ := R.get hi (ent k2)
        obtain ⟨a, xs, B, rfl, h6, h7, h8⟩ := h2.list h3
        obtain ⟨u, A2, l1, l2, l3, l4⟩ := R.get hj (ent k1)
        refine ⟨.ref a, h1, .inl ⟨rfl, xs, .inl (.inl h6)⟩, u, l1, a, xs, u, rfl, rfl, h6, ?_, q σ _ ⟨G, g.put (h4.out a (by rw [h7]; exact List.mem_cons_self)) (h4.nw a (by rw [h7]; exact List.mem_cons_self)), R.mv hO hi hj hij hbc (ent k2) (ent k1) h1 h6 l1⟩⟩
        rw [h8.length]
        exact Nat.lt_of_lt_of_le hl (by decide)
end
end DN

set_option Elab.async false
set_option linter.all false
set_option maxRecDepth 100000
set_option maxHeartbeats 2000000
/-! for x in xs: if c: ..; x.append(e): all lists of an owned list grow by one. -/
namespace DN
open PySem PySem.Spec PyProof.Rows L2 GxR GX
theorem Owns.split {K : PySem.W.Frag} {G H : Hp} {dp : Bool} {d : D} {ds2 : List D} : ∀ {ds1 : List D} {xs : List V} {A : List Addr}, Owns K G H dp (ds1 ++ d :: ds2) xs A → ∃ xs1 x xs2 A1 Ak A2, xs = xs1 ++ x :: xs2 ∧ xs1.length = ds1.length ∧ A = A1 ++ (Ak ++ A2) ∧ Owns K G H dp ds1 xs1 A1 ∧ Own K G H dp d x Ak ∧ Owns K G H dp ds2 xs2 A2
  | [], xs, A, h => by
    obtain ⟨x, r, B, C, rfl, rfl, h1, h2⟩ := h
    exact ⟨[], x, r, [], B, C, rfl, rfl, rfl, ⟨rfl, rfl⟩, h1, h2⟩
  | d0 :: ds1, xs, A, h => by
    obtain ⟨x, r, B, C, rfl, rfl, h1, h2⟩ := h
    obtain ⟨xs1, y, xs2, A1, Ak, A2, rfl, hl, rfl, k1, k2, k3⟩ := Owns.split h2
    exact ⟨x :: xs1, y, xs2, B ++ A1, Ak, A2, rfl, by rw [List.length_cons, List.length_cons, hl], by rw [List.append_assoc], ⟨x, xs1, B, A1, rfl, rfl, h1, k1⟩, k2, k3⟩
theorem Owns.join {K : PySem.W.Frag} {G H : Hp} {dp : Bool} {d : D} {ds1 ds2 : List D} {xs1 xs2 : List V} {x : V} {A1 Ak A2 : List Addr} (h1 : Owns K G H dp ds1 xs1 A1) (h2 : Own K G H dp d x Ak) (h3 : Owns K G H dp ds2 xs2 A2) : Owns K G H dp (ds1 ++ d :: ds2) (xs1 ++ x :: xs2) (A1 ++ (Ak ++ A2)) := h1.app ⟨x, xs2, Ak, A2, rfl, rfl, h2, h3⟩
section
variable {K : PySem.W.Frag} {L : List Addr} {H0 G0 G H : Hp} {O : Ow} {σ : L2.St} {ρ : Env}
/-- one of the lists within an owned list grows -/
theorem RepO.inner {i : Nat} {ds1 ds2 es : List D} {y : D} {v : V} {k : Nat} (R : RepO K H0 G H O σ ρ) (g : Gr L G0 H0 G H) (hO : (ks O).Nodup) (hi : (i, true) ∈ O) (hk : ds1.length = k) (e : ρ[i]? = some (some (.lst (ds1 ++ .lst es :: ds2)))) (hy : Scal y = true) (av : At K G y v) :
    ∃ a xs b ys, σ[i]? = some (some (.ref a)) ∧ H a = some (.lst xs) ∧ xs.length = (ds1 ++ D.lst es :: ds2).length ∧ xs[k]? = some (.ref b) ∧ H b = some (.lst ys) ∧ ys.length = es.length ∧ Gr L G0 H0 G (upd H b (.lst (ys ++ [v]))) ∧ RepO K H0 G (upd H b (.lst (ys ++ [v]))) O σ (ρ.set i (some (.lst (ds1 ++ .lst (es ++ [y]) :: ds2)))) := by
  obtain ⟨ft, h1, h2, h3⟩ := R.ow
  obtain ⟨u, k1, k2, k3⟩ := h1 (i, true) hi _ e
  obtain ⟨a, xs, B, rfl, e2, e3, e4⟩ := k2.list k3
  have e3' : ft i = a :: B := e3
  have hlen := e4.length
  obtain ⟨xs1, x, xs2, A1, Ak, A2, rfl, hl1, hB, s1, s2, s3⟩ := e4.split
  have fi := (h2 (i, true) hi).1
  rcases s2 with ⟨z, _⟩ | ⟨b, ys, C, rfl, y2, y3, y4⟩
  · cases z
  have hbB : b ∈ ft i := by rw [e3', hB, y3]; simp
  have nda := fi.nd
  rw [e3', hB, y3] at nda
  have hl : i < ρ.length := (List.getElem?_eq_some_iff.mp e).1
  have ne : ∀ c, c ≠ b → upd H b (.lst (ys ++ [v])) c = H c := fun c hc => upd_ne hc
  have hab : a ≠ b := fun z => by
    have := (List.nodup_cons.mp nda).1
    rw [z] at this
    exact this (by simp)
  have nd2 := (List.nodup_cons.mp nda).2
  have n1 : b ∉ A1 := fun z => (List.nodup_append.mp nd2).2.2 b z b (by simp) rfl
  have nd3 := (List.nodup_append.mp nd2).2.1
  have n2 : b ∉ C := fun z => (List.nodup_cons.mp (List.nodup_append.mp nd3).1).1 z
  have n3 : b ∉ A2 := fun z => (List.nodup_append.mp nd3).2.2 b List.mem_cons_self b z rfl
  have kp : ∀ {T : List Addr}, b ∉ T → ∀ c ∈ T, ∀ o, H c = some o → (∀ ps, o ≠ .tbl ps) → upd H b (.lst (ys ++ [v])) c = some o := fun hT c hc o ho _ => by rw [ne c fun z => hT (by rw [← z]; exact hc)]; exact ho
  refine ⟨a, _, b, ys, k1, e2, hlen, by rw [List.getElem?_append_right (by omega), hl1, hk]; simp, y2, y4.length, g.put (fi.out b hbB) (fi.nw b hbB), ⟨by rw [List.length_set]; exact R.len, fun j d' hj h => ?_, ft, fun p hp d' h => ?_, fun p hp => ⟨(h2 p hp).1, fun c hc => ?_⟩, h3⟩⟩
  · rw [List.getElem?_set_ne fun z => hj (by rw [← z]; exact mem_ks hi)] at h
    exact R.pl j d' hj h
  · rcases getset h with ⟨hpi, q1, _⟩ | ⟨hij, h⟩
    · cases q1
      have := ow_uniq hO hp hi hpi.symm
      subst this
      refine ⟨.ref a, k1, .inr ⟨a, xs1 ++ .ref b :: xs2, B, rfl, (ne a hab).trans e2, e3', ?_⟩, fun _ _ z => by rw [e3'] at z; cases z⟩
      rw [hB]
      refine Owns.join (Owns.keep (fun _ _ z => z) (kp n1) s1) (.inr ⟨b, ys ++ [v], C, rfl, upd_same, y3, ?_⟩) (Owns.keep (fun _ _ z => z) (kp n3) s3)
      have := (Owns.keep (G1 := G) (H1 := upd H b (.lst (ys ++ [v]))) (fun _ _ z => z) (kp n2) y4).app (.one (own_scal (G := G) (H := upd H b (.lst (ys ++ [v]))) hy av))
      rw [List.append_nil] at this
      exact this
    · obtain ⟨w, q1, q2, q3⟩ := h1 p hp d' h
      have nb : b ∉ ft p.1 := h3 (i, true) hi p hp hij b hbB
      exact ⟨w, q1, Own.keep (fun _ _ z => z) (kp nb) q2, q3⟩
  · by_cases hcb : c = b
    · subst hcb
      exact ⟨_, upd_same, fun ps z => by cases z⟩
    · rw [ne c hcb]
      exact (h2 p hp).2 c hc
/-- a slot that holds nothing may hold anything -/
theorem RepO.dirt {j : Nat} {v : Option V} (R : RepO K H0 G H O σ ρ) (hj : ρ[j]? = some none ∨ ρ[j]? = none) : RepO K H0 G H O (σ.set j v) ρ := by
  obtain ⟨ft, h1, h2, h3⟩ := R.ow
  have no : ∀ {k : Nat} {d : D}, ρ[k]? = some (some d) → j ≠ k := fun {k d} h z => by
    subst z
    rcases hj with hj | hj <;> rw [hj] at h <;> cases h
  refine ⟨by rw [List.length_set]; exact R.len, fun k d hk h => ?_, ft, fun p hp d h => ?_, h2, h3⟩
  · rw [List.getElem?_set_ne (no h)]
    exact R.pl k d hk h
  · rw [List.getElem?_set_ne (no h)]
    exact h1 p hp d h
theorem RepO.clear {j : Nat} (R : RepO K H0 G H O σ ρ) : RepO K H0 G H (rm j O) σ (ρ.set j none) := by
  obtain ⟨ft, h1, h2, h3⟩ := R.ow
  refine ⟨by rw [List.length_set]; exact R.len, fun k d hk h => ?_, ft, fun p hp d h => ?_, fun p hp => h2 p (mem_rm.mp hp).1, fun p hp q hq => h3 p (mem_rm.mp hp).1 q (mem_rm.mp hq).1⟩
  · rcases getset h with ⟨_, z, _⟩ | ⟨hjk, h⟩
    · cases z
    · refine R.pl k d (fun z => hk ?_) h
      obtain ⟨b, hb⟩ := of_ks z
      exact mem_ks (mem_rm.mpr ⟨hb, hjk⟩)
  · rcases getset h with ⟨_, z, _⟩ | ⟨_, h⟩
    · cases z
    · exact h1 p (mem_rm.mp hp).1 d h
end
def faGo (i j : Nat) (tc : Env → Option Bool) (me : DM) : List D → List D → Env → Option Out
  | done, [], ρ => some (.nx ((ρ.set i (some (.lst done))).set j none))
  | done, d :: rest, ρ => (tc (((ρ.set i (some (.lst (done ++ d :: rest)))).set j none).set j (some d))).bind fun k => (me (((ρ.set i (some (.lst (done ++ d :: rest)))).set j none).set j (some d))).bind fun y => match d with
    | .lst es => if k = false ∧ Scal y = true ∧ es.length < 1000000 ∧ j < ρ.length then faGo i j tc me (done ++ [.lst (es ++ [y])]) rest ρ else none
    | _ => none
def sForApp (i j : Nat) (tc : Env → Option Bool) (me : DM) : SM := fun ρ => ((ρ[i]?).join).bind fun (d : D) => match d with
  | .lst ds => faGo i j tc me [] ds ρ
  | _ => none
theorem set_as {α : Type} {l : List α} {i : Nat} {x : α} (h : l[i]? = some x) : l.set i x = l := by
  apply List.ext_getElem?
  intro k
  by_cases hk : i = k
  · subst hk
    rw [List.getElem?_set_self (List.getElem?_eq_some_iff.mp h).1, h]
  · rw [List.getElem?_set_ne hk]
theorem set_in {α : Type} {l : List α} {i j : Nat} {x y z : α} (h : i ≠ j) : ((l.set i x).set j y).set i z = (l.set i z).set j y := by
  rw [List.set_comm _ _ (Ne.symm h), List.set_set]
section
variable {X : Cx} {L : List Addr} {nw : Bool} {W : WN} {Ol O : Ow} {pos : Pos}
theorem so_forApp {i j : Nat} {xn xsn : Str} {c e : Expr} {th : List Stmt} {tc : _root_.DN.Env → Option Bool} {me : DM} {tth : TS} {p1 p2 p3 ifp epos apos cpos : Pos} (hO : (ks O).Nodup) (hi : (i, true) ∈ O) (hij : i ≠ j) (hp : PassesOwn (model X.prog X.w) X.A X.env X.xe) (hcm : X.calm = true)
    (hxs : PE X (.Name xsn p1) (tVar i)) (hg : PG X (.Name xn p2) (gName j)) (hc : PTD X L c tc) (hth : PSs X th tth) (hx : PE X (.Name xn p3) (tVar j)) (he : PD X L e me) (hs : ∀ x, foldedSetIterable (.Name xsn p1) X.env x = pure x := by intro _; rfl) (hbase : attributeBase (.Name xn p3) "append" X.env (eval (.Name xn p3) X.env) = eval (.Name xn p3) X.env := by rfl)
    (hfew : ((backTo cpos (starEach (e :: []) X.env)).all (fun x => !x.1) && (backToKw cpos (keywordEach [] X.env)).all (fun x => x.1.isSome) && decide ((e :: []).length + ([] : List Keyword).length + (if ([] : List Keyword).isEmpty then 0 else 1) < 30)) = true := by rfl)
    (hline : (apos.endLine == cpos.line) = true := by rfl) (hst : starEach (e :: []) X.env = (false, eval e X.env) :: starEach [] X.env := by rfl) (hsw : swapsWith (.Call (.Attribute (.Name xn p3) "append" apos) [e] [] cpos) none epos.line X.env = pure false := by rfl) :
    PSO X L nw W Ol O (rm j O) (.For (.Name xn p2) (.Name xsn p1) [.If c th [] ifp, .Expr (.Call (.Attribute (.Name xn p3) "append" apos) [e] [] cpos) epos] [] pos) (sForApp i j tc me) :=
  PS.imp (ps_for hp hcm (pi_list hxs) hg (pss_cons (ps_if hc hth pss_nil) (pss_one (ps_expr (pe_bm PySem.F.plainAttrs_list PySem.F.slot_list_append PySem.F.type_list_append mt_append hx (pa_cons he pa_nil hst) hbase hfew hline hst rfl) hsw))) hs) fun Dn σ H ⟨G0, H0, ρ, o, ⟨G, g, R⟩, ht, hm, q⟩ => by
    unfold sForApp at hm
    cases k1 : (ρ[i]?).join with
    | none => rw [k1] at hm; cases hm
    | some dl =>
      rw [k1] at hm
      cases dl <;> simp only [Option.bind_some, reduceCtorEq] at hm
      rename_i ds
      have er : ρ[i]? = some (some (.lst ds)) := by
        cases z : ρ[i]? with
        | none => rw [z] at k1; cases k1
        | some o => rw [z] at k1; exact congrArg some k1
      obtain ⟨v, A, h1, h2, h3, h4⟩ := R.get hi er
      obtain ⟨a, xs, B, rfl, h6, _, _⟩ := h2.list h3
      have hi' : (i, true) ∈ rm j O := mem_rm.mpr ⟨hi, Ne.symm hij⟩
      have hO' : (ks (rm j O)).Nodup := by
        have : ∀ O : Ow, (ks O).Nodup → (ks (rm j O)).Nodup := fun O => by
          induction O with
          | nil => exact fun h => h
          | cons r O ih =>
            intro nd
            have nd' := List.nodup_cons.mp nd
            unfold rm
            cases Nat.beq j r.1 with
            | true => exact ih nd'.2
            | false => exact List.nodup_cons.mpr ⟨fun z => nd'.1 (by obtain ⟨w, hw⟩ := of_ks z; exact mem_ks (mem_rm.mp hw).1), ih nd'.2⟩
        exact this O hO
      have hn : ∀ ρ0 : _root_.DN.Env, (ρ0.set j none)[j]? = some none ∨ (ρ0.set j none)[j]? = none := fun ρ0 => by
        by_cases hl : j < ρ0.length
        · exact .inl (List.getElem?_set_self hl)
        · exact .inr (List.getElem?_eq_none (by rw [List.length_set]; omega))
      have hat : ∀ (l : List D), ((ρ.set i (some (.lst l))).set j none)[i]? = some (some (.lst l)) := fun l => by
        rw [List.getElem?_set_ne (Ne.symm hij), List.getElem?_set_self (List.getElem?_eq_some_iff.mp er).1]
      refine ⟨.ref a, h1, a, rfl, ⟨xs, SqL.of h6⟩, fun k m σ' H' => m = ds.length - k ∧ k ≤ ds.length ∧ σ'[i]? = some (some (.ref a)) ∧ ∃ done rest Gi, done.length = k ∧ (done ++ rest).length = ds.length ∧ Gr L G0 H0 Gi H' ∧ RepO X.K H0 Gi H' (rm j O) σ' ((ρ.set i (some (.lst (done ++ rest)))).set j none) ∧ faGo i j tc me done rest ρ = some o,
        ⟨ds.length, by omega, Nat.zero_le _, h1, [], ds, G, rfl, rfl, g, by rw [List.nil_append, set_as er]; exact R.clear, hm⟩, ?_⟩
      rintro k m σ' H' ⟨rfl, hk, hσ, done, rest, Gi, hdl, hlen, gi, Ri, hgo⟩
      obtain ⟨v', A', w1, w2, w3, w4⟩ := Ri.get hi' (hat _)
      rw [hσ] at w1
      cases w1
      obtain ⟨a', xs', B', e1, w6, w7, w8⟩ := w2.list w3
      cases e1
      cases rest with
      | nil =>
        rw [List.append_nil] at hlen Ri w8
        refine .inl ⟨⟨xs', SqL.of w6, by rw [w8.length]; omega⟩, ?_⟩
        cases hgo
        exact q σ' H' ⟨Gi, gi, Ri⟩
      | cons d rest =>
        have hkl : k < xs'.length := by rw [w8.length, hlen]; rw [List.length_append, List.length_cons] at hlen; omega
        refine .inr ⟨⟨xs', _, SqL.of w6, List.getElem?_eq_getElem hkl⟩, fun σ5 H5 => σ5[i]? = some (some (.ref a)) ∧ ∃ done rest Gi, done.length = k + 1 ∧ (done ++ rest).length = ds.length ∧ Gr L G0 H0 Gi H5 ∧ RepO X.K H0 Gi H5 (rm j O) σ5 ((ρ.set i (some (.lst (done ++ rest)))).set j none) ∧ faGo i j tc me done rest ρ = some o, fun σ5 H5 h5 => ⟨_, by rw [List.length_append, List.length_cons] at hlen; omega, rfl, by rw [List.length_append, List.length_cons] at hlen; omega, h5⟩, fun x H3 hy => ?_⟩
        obtain ⟨rfl, hy⟩ := hy
        have hxk := hy xs' (SqL.of w6)
        unfold faGo at hgo
        cases c1 : tc (((ρ.set i (some (.lst (done ++ d :: rest)))).set j none).set j (some d)) with
        | none => rw [c1] at hgo; cases hgo
        | some kk =>
          cases c2 : me (((ρ.set i (some (.lst (done ++ d :: rest)))).set j none).set j (some d)) with
          | none =>
            rw [c1] at hgo
            simp only [Option.bind_some] at hgo
            rw [c2] at hgo
            cases hgo
          | some y =>
            rw [c1] at hgo
            simp only [Option.bind_some] at hgo
            rw [c2] at hgo
            simp only [Option.bind_some] at hgo
            cases d <;> simp only [reduceCtorEq, Option.ite_none_right_eq_some] at hgo
            rename_i es
            obtain ⟨⟨rfl, hsc, hel, hjr⟩, hgo⟩ := hgo
            obtain ⟨Gv, gv, Rv, _⟩ := Ri.view gi
            have ax : At X.K Gv (.lst es) x := by
              obtain ⟨u, u1, u2⟩ := Rv.2 i _ (hat _)
              rw [hσ] at u1
              cases u1
              obtain ⟨a2, xs2, u3, u4, u5⟩ := u2
              cases u3
              rw [(gv.sub _ _ u4).1] at w6
              cases w6
              obtain ⟨x2, u6, u7⟩ := u5.get (i := k) (d := .lst es) (by rw [List.getElem?_append_right (by omega), hdl]; simp)
              rw [hxk] at u6
              cases u6
              exact u7
            have Rv1 := Rv.set j ax
            have R1 : RepO X.K H0 Gi H3 (rm j O) (σ'.set j (some x)) ((ρ.set i (some (.lst (done ++ .lst es :: rest)))).set j none) := Ri.dirt (hn _)
            have hσ1 : (σ'.set j (some x))[i]? = some (some (.ref a)) := by rw [List.getElem?_set_ne (Ne.symm hij)]; exact hσ
            -- the test
            refine ⟨Gv, _, false, gv.sub, Rv1, ht.ext gv.ext, c1, fun G2 H2 g2 => ?_⟩
            have g2' : Gr L Gi H3 Gi H2 := .of gi.sub g2.ext
            obtain ⟨a3, xs3, b3, ys3, q1, q2, _, q4, q5, _, _, _⟩ := (R1.gr g2').inner (gi.trans g2') hO' hi' hdl (hat _) (y := .non) rfl rfl (v := .non)
            rw [hσ1] at q1
            cases q1
            have hxb : x = .ref b3 := by
              rw [g2.ext.keep _ _ w6 (fun ps z => by cases z)] at q2
              cases q2
              rw [hxk] at q4
              exact Option.some.inj q4
            subst hxb
            have hjl : j < σ'.length := by
              have := Ri.len
              rw [List.length_set, List.length_set] at this
              omega
            refine ⟨.ref b3, List.getElem?_set_self hjl, .inl ⟨rfl, ys3, SqL.of q5⟩, G2, _, y, g2.sub, Rv1.mono g2.up, (ht.ext gv.ext).ext g2.ext, c2, fun v G4 H4 g4 a4 => ?_⟩
            have g4' : Gr L Gi H2 Gi H4 := .of g2'.sub g4.ext
            obtain ⟨a5, xs5, b5, ys5, r1, r2, _, r4, r5, r6, r7, r8⟩ := ((R1.gr g2').gr g4').inner ((gi.trans g2').trans g4') hO' hi' hdl (hat _) hsc (scal_move hsc a4)
            rw [hσ1] at r1
            cases r1
            have hb : b5 = b3 := by
              rw [g4.ext.keep _ _ (g2.ext.keep _ _ w6 (fun ps z => by cases z)) (fun ps z => by cases z)] at r2
              cases r2
              rw [hxk] at r4
              exact (V.ref.inj (Option.some.inj r4)).symm
            subst hb
            refine ⟨b5, ys5, v, rfl, rfl, r5, by rw [r6]; exact Nat.lt_of_lt_of_le hel (by decide), hσ1, done ++ [.lst (es ++ [y])], rest, Gi, by rw [List.length_append, hdl]; rfl, by rw [List.length_append, List.length_append, List.length_singleton]; rw [List.length_append, List.length_cons] at hlen; omega, r7, ?_, hgo⟩
            rw [set_in hij] at r8
            rw [List.append_assoc]
            exact r8
end
end DN

set_option Elab.async false
set_option linter.all false
set_option maxRecDepth 100000
set_option maxHeartbeats 2000000
/-! A def that is handed the exception which is handled. -/
namespace DN
open PySem PySem.Spec PyProof.Rows L2 L2H
/-- what a def promises that is called while p is handled -/
structure FnP (P : Program) (w : World) (K : PySem.W.Frag) (mg : Str → Option Value) (base : Heap) (k : Nat) (f : Addr) (fd : FuncData) (ps : List Str) (sp : Addr × Obj → Sp) : Prop where
  len : ∀ p vs H Q E, sp p vs H Q E → vs.length = ps.length
  run : ∀ (p : Addr × Obj) (A : Around) (out : List _root_.PySem.Env) (s : Shared) (H : Hp) (ar : Args) (us : List Value) (vs : List V) (Q : VK) (E : XK), RoomH k A → PinOk out H s p → Env0 P w K mg base A out s H → BindsTo s fd ar (ps.zip us) → Vals vs us → sp p vs H Q E → codeAny (model P w) A (.call (.ref f) ar) (CR CX0 out P w H s Q E) s
section
variable {P : Program} {w : World} {K : PySem.W.Frag} {mg : Str → Option Value} {base : Heap} {k : Nat} {x qual : Str} {st : Stmt} {f c : Addr} {fd : FuncData} {N ps : List Str} {sp : Addr × Obj → Sp}
theorem FunC.okP (F : FunC K x qual st f fd c) (S : FnScope N ps (defScope st)) (len : ∀ p vs H Q E, sp p vs H Q E → vs.length = ps.length)
    (hb : ∀ (p : Addr × Obj) (A : Around) (out : List _root_.PySem.Env) (s : Shared) (H : Hp) (vs : List V) (Q : VK) (E : XK), RoomH k (A.deeper (envOfC qual (defScope st) s.heap.objs.size f (.ref c))) → sp p vs H Q E →
      ∃ t, PSs (cxH CX0 P w K mg base N qual (defScope st) f (.ref c) A out s H E p) (defBody st) t ∧ t { nx := fun _ H' => Q .non H', rt := Q } (L2.start N vs) H) : FnP P w K mg base (k + 1) f fd ps sp := by
  obtain ⟨oc, od, kV, doc, pm, an, ct, osl, rfl, lk, hcd⟩ := F.ex
  refine ⟨len, fun p A out s H ar us vs Q E hr pin e0 bt r q => ?_⟩
  have KX := e0.mod.kin.keeps fun b o e => (e0.bs b o e).1
  have lim := e0.mod.nolimit.keeps fun b o e => (e0.bs b o e).1
  have kinds : ∀ y ∈ ps.zip us, (defScope st).names.lookup y.1 = some .local ∨ ((defScope st).names.lookup y.1 = some .cell ∧ ((cellsFrom (s.heap.objs.size + 1) (defScope st).names []).lookup y.1).isSome = true) := fun y hy =>
    (S.par y.1 (List.of_mem_zip (show (y.1, y.2) ∈ _ from hy)).1).elim .inl fun z => .inr ⟨z, PySem.W.cellsFrom_some _ _ _ (.inl z)⟩
  refine codeAny_call_function hr.depth (KX _ _ lk) rfl S.co S.gen rfl (PySem.W.codeRec_of KX hcd) (bt _ _ _ _ (wpAny_newFunctionEnv_cells S.kind kinds fun env he s1 z => ?_))
  subst he
  refine ⟨lim.keeps z.toInCall.keep, codeAny_func ?_⟩
  obtain ⟨t, ht, hq⟩ := hb p A out s H vs Q E (hr.deeper _) q
  refine wpAny_mono (ht.run [] s1 (L2.start N vs) H _ (inv_startH S pin e0 (len _ _ _ _ _ q) r z) hq) (fun fl s' h => ?_) fun _ _ h => h
  cases fl with
  | ret u => exact let ⟨v, _, H', J, rv, q'⟩ := h; ⟨v, H', J.os, J.bare, J.base, J.hok, rv, q'⟩
  | next => exact let ⟨_, H', J, q'⟩ := h; ⟨.non, H', J.os, J.bare, J.base, J.hok, rfl, q'⟩
  | brk => exact let ⟨_, _, _, q'⟩ := h; q'.elim
  | cont => exact let ⟨_, _, _, q'⟩ := h; q'.elim
end
section
variable {X : Cx} {k : Nat} {f : Addr} {fd : FuncData} {ps : List Str} {sp : Addr × Obj → Sp} {x : Str} {q pos : Pos} {e : Expr} {es : List Expr} {t : TA} {p : Addr × Obj}
/-- such a call -/
theorem pe_callP (F : FnP X.prog X.w X.K X.mg X.base k f fd ps sp) (hr : RoomH k X.A) (hp : p ∈ X.pn) (hg : Gl X x) (hm : X.mg x = some (.ref f)) (hk : PySem.W.keepIn X.K (.ref f) = true) (hb : Binds X.K fd ps []) (ha : PA X (e :: es) t)
    (hdb : (x == ("__debug__" : Str)) = false := by decide) (he : starEach (e :: es) X.env = (false, eval e X.env) :: starEach es X.env := by rfl) (hpl : (backTo pos (starEach es X.env)).any (·.1) = false := by rfl) :
    PE X (.Call (.Name x q) (e :: es) [] pos) (tCallS (sp p) (fun _ => E0) t) := ⟨fun pins s σ H Q I h => by
  refine wpAny_Call_Name_kw (ld_glob I hg hm (PySem.W.callWith_K (h₀ := X.base) I.ok.mod.kin hk (thn (ha.run pos pins s σ H _ I h) fun us s1 ⟨vs, H1, I1, r, q1⟩ => ⟨I1.kIn, ?_⟩) he hpl) hdb)
  have b := hb s1 us I1.kIn (by rw [List.append_nil, ← r.length]; exact F.len _ _ _ _ _ q1)
  rw [List.append_nil] at b
  obtain ⟨p1, p2, p3, p4, p5⟩ := I1.pin p (List.mem_append_left _ hp)
  have pin : PinOk X.stack H1 s1 p := ⟨p1, p2, fun z => (List.mem_cons.mp (I1.stkSub p.1 z)).elim p3 p4, p5⟩
  refine wpAny_call (codeAny_mono (F.run p X.A X.stack s1 H1 ⟨us, []⟩ us vs Q E0 hr pin I1.env0 b r q1) fun r s' z => ?_)
  cases r with
  | error _ => exact False.elim z
  | ok fl =>
    cases fl with
    | ret u => exact I1.after z
    | _ => exact False.elim z⟩
/-- isinstance(e, c), e the exception that is pinned -/
theorem call_isP {a d : Addr} {oe : Obj} (hp : (a, oe) ∈ X.pn) (C : ExcC X.K d) (hz : Zc (.ref d) none oe) (hf : ∃ vs, oe.data = .fields vs) : CallR X (.builtin "isinstance") (rIsE X.K d a) := by
  rintro pins s σ H xs us Q I r ⟨c, cv, b, rfl, hcv, e, q⟩
  obtain ⟨u1, u2, rfl, rx, rt⟩ : ∃ u1 u2, us = [u1, u2] ∧ RelV (.ref a) u1 ∧ RelV c u2 := by
    cases r with
    | cons r1 r2 =>
      cases r2 with
      | cons r3 r4 => cases r4; exact ⟨_, _, rfl, r1, r3⟩
  obtain rfl : u1 = .ref a := rx
  have ec := hcv _ rt
  subst ec
  have hget := (I.pin (a, oe) (List.mem_append_left _ hp)).1
  obtain ⟨vs, hv⟩ := hf
  obtain ⟨oc, od, oda, osl⟩ := oe
  obtain ⟨h1, h2⟩ := hz
  dsimp only at h1 h2 hv
  subst h1 h2 hv
  exact PySem.W.kia_one (PySem.W.handS_kitx_exc C.hg C.hk C.hs C.hd C.ha C.hn C.ht C.hm) I.kIn ⟨hget, rfl, rfl, trivial⟩ e (fun z => nomatch z) fun tk => ⟨.bl b, H, I.kept (t' := tk) fun _ _ z => z, rfl, q⟩
end
theorem takes_len {X : Cx} {W : WX} (t : Takes X W) : Takes X (fun c d σ H => σ.length = X.N.length → W c d σ H) := fun u s' ⟨a, B, sI, pins, σ, H, cl, d, e, I, r⟩ =>
  t u s' ⟨a, B, sI, pins, σ, H, cl, d, e, I, r.1, r.2.1, r.2.2.1, r.2.2.2.1, r.2.2.2.2.1, r.2.2.2.2.2.1, r.2.2.2.2.2.2 I.len⟩
/-! ### try: body, except x as n: return f(n) -/
def sTry (names : List Str) (b : SM) (h : Str → Str) : SM := fun ρ => (b ρ).bind fun | .ex n => if n ∈ names then some (.rt (.str (h n))) else none | o => some o
/-- what the def promises that is handed the exception: a text by its class -/
def spW (cls : Str → Addr) (names : List Str) (h : Str → Str) (p : Addr × Obj) : Sp := fun vs H Q _ => ∃ n ∈ names, vs = [.ref p.1] ∧ Zc (.ref (cls n)) none p.2 ∧ (∃ vs, p.2.data = .fields vs) ∧ ∀ H', (∀ L, Ext L H H') → Q (.str (h n)) H'
section
variable {X : Cx} {L : List Addr} {nw : Bool} {Ol O : Ow} {cls : Str → Addr} {names : List Str} {h : Str → Str} {k i : Nat} {f : Addr} {fd : FuncData} {ps : List Str} {x n g : Str} {c : Value} {body : List Stmt} {b : SM} {np p' q cpos rpos pos pos' : Pos}
theorem so_tryWord (F : FnP X.prog X.w X.K X.mg X.base k f fd ps (spW cls names h)) (hr : Room k X.A) (hg : Gl X g) (hm : X.mg g = some (.ref f)) (hk : PySem.W.keepIn X.K (.ref f) = true) (hbd : Binds X.K fd ps [])
    (hs : X.stack = X.env :: X.outer) (hf : X.env.frame = some X.env.locals) (hN : X.N.Nodup) (hi : X.N[i]? = some n) (hln : X.env.kindOf n = some .local) (hc : Names X x c) (tk : Takes X fun _ _ _ _ => False)
    (hex : ∀ n ∈ names, PySem.W.exmOne X.K (.ref (cls n)) c = some true)
    (hb : ∀ (W : WX) (pn : List (Addr × Obj)) (xe : Value → Shared → Prop), Takes (X.tr pn xe) W → PassesOwn (model X.prog X.w) X.A X.env xe → PSsO (X.tr pn xe) L nw (WofN cls W) Ol O O body b)
    (hv : ∀ a pn, PE (X.suite a pn) (.Name n p') (tVar i)) (hgs : ∀ a pn, Gl (X.suite a pn) g)
    (hdb : (g == ("__debug__" : Str)) = false := by decide) (he : ∀ a pn, starEach [.Name n p'] (X.suite a pn).env = (false, eval (.Name n p') (X.suite a pn).env) :: starEach [] (X.suite a pn).env := by intro _ _; rfl) (hpl : ∀ a pn, (backTo cpos (starEach [] (X.suite a pn).env)).any (·.1) = false := by intro _ _; rfl) :
    PSO X L nw W0 Ol O O (.Try body [.ExceptHandler (some (.Name x np)) (some n) [.Return (some (.Call (.Name g q) [.Name n p'] [] cpos)) rpos] pos'] [] [] pos) (sTry names b h) := by
  have hsu : ∀ (a : Addr) (oe : Obj) (cl : Value) (d : Option Addr) (pn : List (Addr × Obj)), Zc cl d oe → (∃ vs, oe.data = .fields vs) → PSs (X.suite a ((a, oe) :: pn)) [.Return (some (.Call (.Name g q) [.Name n p'] [] cpos)) rpos] (fun Dn σ H => ∃ m ∈ names, cl = .ref (cls m) ∧ d = none ∧ σ[i]? = some (some (.ref a)) ∧ ∀ H', (∀ L, Ext L H H') → Dn.rt (.str (h m)) H') := fun a oe cl d pn hz hfl =>
    PSs.imp (pss_one (ps_ret (pe_callP (p := (a, oe)) F ⟨hr.dp, hr.un⟩ List.mem_cons_self (hgs a _) hm hk hbd (pa_cons (hv a _) pa_nil (he a _)) hdb (he a _) (hpl a _)))) fun Dn σ H ⟨m, hmn, e1, e2, e3, q⟩ => by
      subst e1 e2
      exact ⟨.ref a, e3, m, hmn, rfl, hz, hfl, q⟩
  refine PS.imp (ps_try_as (tb := fun W => tS X.K L nw (WofN cls fun c d σ H => σ.length = X.N.length → W c d σ H) Ol O O b) (Wout := fun _ _ _ _ => False) hs hf hN hi hln hc tk (fun W pn xe t1 t2 => hb _ pn xe (takes_len t1) t2) hsu) fun Dn σ H ⟨G0, H0, ρ, o, ho, ht, hmm, q⟩ => ?_
  unfold sTry at hmm
  cases k1 : b ρ with
  | none => rw [k1] at hmm; cases hmm
  | some o1 =>
    rw [k1] at hmm
    refine ⟨G0, H0, ρ, o1, ho, ht, k1, ?_⟩
    cases o1 with
    | ex m =>
      simp only [Option.bind_some, Option.ite_none_right_eq_some, Option.some.injEq] at hmm
      obtain ⟨hnm, rfl⟩ := hmm
      refine fun σ' G' H' g' hl => ⟨true, hex m hnm, fun _ a ha => ⟨m, hnm, rfl, rfl, ?_, fun H' he => ?_⟩, fun z => nomatch z⟩
      · refine List.getElem?_set_self ?_
        rw [hl]
        exact (List.getElem?_eq_some_iff.mp hi).1
      · cases nw with
        | true => exact (show ∀ v G' H' A, Gr L G0 H0 G' H' → Own X.K G' H' true (.str (h m)) v A → Held (.str (h m)) A → Fresh H0 G' A → Dn.rt v H' from q) _ G' H' [] (g'.trans (.of g'.sub (he L))) ⟨rfl, rfl⟩ (fun ds e => nomatch e) .nil
        | false => exact (show ∀ v G' H', Gr L G0 H0 G' H' → At X.K G' (.str (h m)) v → Dn.rt v H' from q) _ G' H' (g'.trans (.of g'.sub (he L))) rfl
    | _ => cases hmm; exact q
end
end DN

set_option Elab.async false
set_option linter.all false
set_option maxRecDepth 100000
set_option maxHeartbeats 2000000
/-! The text that names an own error by its class. -/
namespace DN
open PySem PySem.Spec PyProof.Rows L2 L2H
/-- e is worth v where pre holds of the names -/
def PV (X : Cx) (pre : L2.St → Prop) (e : Expr) (v : V) : Prop := PE X e fun σ H Q => pre σ ∧ Q v H
def lit (s : Str) (b : Bool) : Str := if b = true then s else Str.empty
theorem lit_len (s : Str) (b : Bool) : (lit s b).length ≤ s.length := by
  unfold lit
  cases b with
  | true => exact Nat.le_refl _
  | false => exact Nat.zero_le _
section
variable {X : Cx} {pre : L2.St → Prop} {a d : Addr} {oe : Obj} {x C : Str} {e f : Expr} {p1 p2 p3 p4 p5 pos : Pos} {b : Bool}
theorem pv_is {cv : Value} {c : V} (hp : (a, oe) ∈ X.pn) (ex : ExcC X.K d) (hz : Zc (.ref d) none oe) (hf : ∃ vs, oe.data = .fields vs) (hpre : ∀ σ, pre σ → σ[0]? = some (some (.ref a))) (hN : X.N[0]? = some x) (hv : Vis X.env.scope x)
    (hg : Gl X "isinstance") (hm : X.mg "isinstance" = none) (hc : PE X (.Name C p3) (tC c)) (hcv : ∀ u, RelV c u → u = cv) (hk : PySem.W.kitOne X.K (.ref d) cv = some b) (hd : (x == ("__debug__" : Str)) = false := by decide) (hcd : (x == ("__classdict__" : Str)) = false := by decide)
    (na : starEach [.Name x p2, .Name C p3] X.env = (false, eval (.Name x p2) X.env) :: starEach [.Name C p3] X.env := by rfl) (nb : starEach [.Name C p3] X.env = (false, eval (.Name C p3) X.env) :: starEach [] X.env := by rfl) (hpl : (backTo pos (starEach [.Name C p3] X.env)).any (·.1) = false := by rfl) :
    PV X pre (.Call (.Name "isinstance" p1) [.Name x p2, .Name C p3] [] pos) (.bl b) :=
  PE.imp (pe_callB (call_isP hp ex hz hf) hg hm (by decide +kernel) (pa_cons (pe_var (i := 0) hN hv hd hcd) (pa_cons hc pa_nil nb) na) (he := na) (hpl := hpl)) fun σ H Q ⟨h, q⟩ => ⟨.ref a, hpre σ h, c, cv, b, rfl, hcv, hk, q⟩
theorem pv_lit {s : Str} {j : Nat} (hg : Gl X "int") (hm : X.mg "int" = none) (he : PV X pre e (.bl b)) (na : starEach [e] X.env = (false, eval e X.env) :: starEach [] X.env := by rfl) : PV X pre (.BinOp (.Constant (.str s) j p1) .Mult (.Call (.Name "int" p2) [e] [] p3) pos) (.str (lit s b)) :=
  PE.imp (pe_op op_mulD pe_str (pe_callTy call_int1 hg hm (by decide +kernel) (pa_cons he pa_nil na) (he := na))) fun σ H Q ⟨h, q⟩ => by
    refine ⟨h, .inr ⟨b, rfl, .inr (.inr ⟨s, _, rfl, rfl, ?_⟩)⟩⟩
    cases b with
    | true => exact .inr ⟨rfl, q⟩
    | false => exact .inl ⟨rfl, q⟩
theorem pv_add {s t : Str} (he : PV X pre e (.str s)) (hf : PV X pre f (.str t)) (hl : s.length + t.length ≤ 1000) : PV X pre (.BinOp e .Add f pos) (.str (s ++ t)) :=
  PE.imp (pe_op op_addD he hf) fun σ H Q ⟨h, q⟩ => ⟨h, h, .inr (.inr ⟨s, t, rfl, rfl, Nat.le_trans hl (by decide), q⟩)⟩
theorem pv_at {i : Nat} {v : V} (hpre : ∀ σ, pre σ → σ[i]? = some (some v)) (hN : X.N[i]? = some x) (hv : Vis X.env.scope x) (hd : (x == ("__debug__" : Str)) = false := by decide) (hcd : (x == ("__classdict__" : Str)) = false := by decide) : PV X pre (.Name x pos) v :=
  PE.imp (pe_var hN hv hd hcd) fun σ H Q ⟨h, q⟩ => ⟨v, hpre σ h, q⟩
theorem ps_pv {i : Nat} {v : V} (hN : X.N.Nodup) (hi : X.N[i]? = some x) (hx : Loc X.env.scope x) (he : PV X pre e v) (hs : swapsWith e (some (.Name x p1)) pos.line X.env = pure false := by rfl) (hf : X.fn x = true ∨ X.env.scope.names.lookup x = some .local := by first | exact .inl rfl | exact .inr rfl | assumption) :
    PS X (.Assign [.Name x p1] e pos) (fun Dn σ H => pre σ ∧ Dn.nx (σ.set i (some v)) H) := PS.imp (ps_set hN hi hx he hs hf) fun Dn σ H h => h
/-- return [name, word][int(not e)], e True -/
theorem ps_pick {i : Nat} {s w : Str} {j : Nat} (hpre : ∀ σ, pre σ → σ[i]? = some (some (.str s))) (hN : X.N[i]? = some x) (hv : Vis X.env.scope x) (hg : Gl X "int") (hm : X.mg "int" = none) (he : PV X pre e (.bl true)) (na : starEach [.UnaryOp .Not e p4] X.env = (false, eval (.UnaryOp .Not e p4) X.env) :: starEach [] X.env := by rfl)
    (hd : (x == ("__debug__" : Str)) = false := by decide) (hcd : (x == ("__classdict__" : Str)) = false := by decide) (nl : starEach [.Name x p1, .Constant (.str w) j p2] X.env = (false, eval (.Name x p1) X.env) :: starEach [.Constant (.str w) j p2] X.env := by rfl) (nm : starEach [.Constant (.str w) j p2] X.env = (false, eval (.Constant (.str w) j p2) X.env) :: starEach [] X.env := by rfl) {p6 p7 : Pos} :
    PS X (.Return (some (.Subscript (.List [.Name x p1, .Constant (.str w) j p2] p3) (.Call (.Name "int" p5) [.UnaryOp .Not e p4] [] p6) p7)) pos) (fun Dn σ H => pre σ ∧ ∀ H', (∀ L, Ext L H H') → Dn.rt (.str s) H') :=
  PS.imp (ps_ret (pe_ix ix_list (pe_lst (pa_cons (pe_var hN hv hd hcd) (pa_cons pe_str pa_nil nm) nl)) (pe_callTy call_int1 hg hm (by decide +kernel) (pa_cons (pe_not he) pa_nil na) (he := na)) (fun _ _ => rfl))) fun Dn σ H ⟨h, q⟩ => by
    refine ⟨.str s, hpre σ h, (by show 2 ≤ sizeLine; decide), fun p hp => ⟨h, true, rfl, .inr ⟨false, rfl, p, _, 0, .str s, rfl, rfl, SqL.of upd_same, rfl, q _ fun L => .new hp⟩⟩⟩
end
def Short (s : Str) (n : Nat) : Prop := s.length ≤ n
theorem sh_lit {s : Str} {b : Bool} : Short (lit s b) s.length := lit_len s b
theorem sh_add {s t : Str} {m n : Nat} (h : Short s m) (k : Short t n) : Short (s ++ t) (m + n) := by
  show (s ++ t).length ≤ m + n
  have e : (s ++ t).length = s.length + t.length := by first | exact Str.length_append s t | simp
  rw [e]
  exact Nat.add_le_add h k
theorem lens_le {s t : Str} {m n : Nat} (h : Short s m ∧ Short t n) (k : m + n ≤ 1000) : s.length + t.length ≤ 1000 := Nat.le_trans (Nat.add_le_add h.1 h.2) k
end DN
namespace DN
open PySem PySem.Spec PyProof.Rows L2 GX
def gscpB (N : List Str) (sc scope : Scope) (caps : List (Str × Nat)) : Bool :=
  (scope.kind == .function) && (scope.isCoroutine == false) && scope.names.all (fun y => decide (y.2 ≠ .cell)) && decide (scope.names.lookup (".0" : Str) = some .local) &&
  scope.names.all (fun y => decide (y.2 ≠ .free) || decide (sc.names.lookup y.1 = some .cell) || decide (sc.names.lookup y.1 = some .free)) && caps.all fun p => decide (scope.names.lookup p.1 = some .free) && decide (N[p.2]? = some p.1)
theorem gscp_of {N : List Str} {sc scope : Scope} {own : List Str} {caps : List (Str × Nat)} (h : gscpB N sc scope caps = true) : GScp N sc scope own caps := by
  unfold gscpB at h
  simp only [Bool.and_eq_true, List.all_eq_true, decide_eq_true_eq, Bool.or_eq_true] at h
  obtain ⟨⟨⟨⟨⟨h1, h2⟩, h3⟩, h4⟩, h5⟩, h6⟩ := h
  refine ⟨by simpa using h1, by simpa using h2, h3, h4, fun y hy e => ?_, h6⟩
  rcases h5 y hy with (z | z) | z
  · exact absurd e z
  · exact .inl z
  · exact .inr z
theorem nd_of {N : List Str} (h : N.Nodup) : N.Nodup := h
end DN

set_option Elab.async false
set_option linter.all false
set_option maxRecDepth 100000
set_option maxHeartbeats 2000000
/-! The end of a row whose defs hold generator expressions. -/
namespace DN
open PySem PySem.Spec PyProof.Rows L2 GxR
/-- the tables of the defs of q are empty at h -/
def Empties (K : PySem.W.Frag) (mg : Str → Option Value) (q : Program) (h : Heap) : Prop := ∀ (x : Str) (fa c P : Addr) (o : Obj) (fd : FuncData), ((recsOf q).any fun e => e.name == x) = true → mg x = some (.ref fa) → K.lookup fa = some o → o.data = .func fd → fd.code = .ref c → PySem.W.CodeHd h c P → h.get? P = some { cls := .none, data := .fields #[] }
theorem walkN {l : PySem.W.OpenLaw} {n k : Nat} {q : Program} {loose : List Str} {XP : (Str → Option Value) → Heap → Prop} {YP : World → Heap → Prop} {d : DefRec} {K : Params → PySem.W.Frag} {CX : World → CXT} {x : Str} (hn : l.most = some n) (hn2 : n ≤ sizeLine) (hdf : d.params.defaults = []) (hr : Room k callerA) (hY : ∀ (w : World) (h : Heap), YP w h → (K w.params).In h)
    (F : ∀ (w : World) (mg : Str → Option Value) (fa : Addr) (h : Heap), YP w h → (K w.params).In h → h.Ns mainGlobals mg → mg d.name = some (.ref fa) → Empties (K w.params) mg q h → LamX.LawAtS l w (K w.params) (CX w) k n x mg fa h) (hCX : ∀ (w : World) (H : Hp) (s : Shared) (e : Value) (s' : Shared), CX w [] H s (fun _ _ _ => False) e s' → False) :
    PySem.W.WalkO q loose XP YP l.row.toRowW d [] (fun f vs => PySem.call f vs) := by
  refine Att.attach_callB hn hdf fun w s0 s1 mg mb fa o pm cd doc a vs ns G Y ho hd hcd hmg hob hi hlen hbits hg => ?_
  have KX := hY w _ Y
  have em : Empties (K w.params) mg q s1.heap := fun y fb c P ob fd hy hy2 h1 h2 h3 ⟨oc, us, f1, t1, f2, t2, b1, t3, t4, g1, _, g3, g4, _⟩ => by
    obtain ⟨dl, hm, hn1⟩ := List.any_eq_true.mp hy
    obtain ⟨a', o', fd', c', P', k1, k2, k3, k4, k5, ⟨o2, v2, e1, _, e3, e4⟩, hP⟩ := G.T.tab dl hm
    have ey : dl.name = y := beq_iff_eq.mp hn1
    obtain rfl : fb = a' := Value.ref.inj (Option.some.inj (hy2.symm.trans (by rw [← ey]; exact k1)))
    obtain rfl : ob = o' := Option.some.inj ((KX _ _ h1).symm.trans k2)
    obtain rfl : fd = fd' := Data.func.inj (h2.symm.trans k3)
    obtain rfl : c = c' := Value.ref.inj (h3.symm.trans k4)
    obtain rfl : oc = o2 := Option.some.inj (g1.symm.trans e1)
    have ev := g3.symm.trans e3
    cases ev
    obtain rfl : P = P' := Value.ref.inj (Option.some.inj (g4.symm.trans e4))
    exact hP
  obtain ⟨fd, cs, sp, hT, nT, C, hb, hsp, hF⟩ := F w mg fa _ Y KX G.T.g hmg em
  exact LamX.law_callTs KX G.T.g G.T.b G.T.builtins G.T.nolimit hg hT nT C G.T.bmain hob hi (Nat.le_trans hlen hn2) hr hF hb (fun H hH hS => hsp H a ns hlen hbits hH hS) fun H e s' => hCX w H s1 e s'
/-- what is seen of a heap: all but its tables -/
def noTab (H : Hp) : Hp := fun a => match H a with
  | some (.tbl _) => none
  | o => o
theorem sub_noTab (H : Hp) : Sub (noTab H) H := fun a o e => by
  unfold noTab at e
  cases q : H a with
  | none => rw [q] at e; cases e
  | some u =>
    rw [q] at e
    cases u <;> simp only [reduceCtorEq, Option.some.injEq] at e <;> subst e <;> exact ⟨rfl, fun ps z => by cases z⟩
theorem at_script {K : PySem.W.Frag} {H : Hp} {a : Addr} {ns : List Int} (h : SqL K H a (ns.map V.int)) : At K (noTab H) (.scr ns) (.ref a) := by
  refine ⟨a, rfl, ?_⟩
  rcases h with (h | ⟨o, h⟩) | h
  · exact .inl (.inl (by unfold noTab; rw [h]))
  · exact .inl (.inr ⟨o, by unfold noTab; rw [h]⟩)
  · exact .inr h
/-- the law's promise, from its mirror's worth -/
theorem law_sp {K : PySem.W.Frag} {cs : List (Addr × Addr)} {L : List Addr} {g : List D → Option D} (hL : ∀ P ∈ L, ∃ p ∈ cs, p.2 = P) (hg : ∀ ns : List Int, g [.scr ns] = some (.bl true)) (H : Hp) (a : Addr) (ns : List Int) (hT : ∀ p ∈ cs, H p.2 = some (.tbl #[])) (h : SqL K H a (ns.map V.int)) :
    spPN K L false 1 g [.ref a] H (fun v _ => v = .bl true) fun _ _ _ => False := by
  refine ⟨noTab H, [.scr ns], .bl true, sub_noTab H, fun P hP => ?_, rfl, .one (at_script h), hg ns, (show ∀ v G' H', Gr L (noTab H) H G' H' → At K G' (.bl true) v → v = .bl true from fun v G' H' _ av => av)⟩
  obtain ⟨p, hp, rfl⟩ := hL P hP
  exact ⟨#[], hT p hp, by simp [TriplesOk]⟩
theorem tabG_of {base : Heap} {mg : Str → Option Value} {c P : Addr} (t : LamX.TabB base mg c P) : GxR.TabB base mg c P := ⟨t.code, t.bm, t.gP⟩
end DN

set_option Elab.async false
set_option linter.all false
set_option maxRecDepth 100000
set_option maxHeartbeats 400000
namespace K02
open PySem PySem.Spec PyProof.Rows L2 L2H GxR GX DN
def topS (i : Nat) : Stmt := PySem.Challenge.pw_loopgauge_k02_ways_gone.main.body.getD i (.Pass ⟨0, 0, 0, 0⟩)
def errs : List Str := ["BadLoop", "BadState", "BadCount"]
def all6 : List Str := ["BadLoop", "BadState", "BadCount", "BadGauge", "BadTable", "BadText"]
def tellE (n : Str) : Str := (((((lit "loop " (decide (n = ("BadLoop" : Str))) ++ lit "state " (decide (n = ("BadState" : Str)))) ++ lit "count " (decide (n = ("BadCount" : Str)))) ++ lit "gauge " (decide (n = ("BadGauge" : Str)))) ++ lit "table " (decide (n = ("BadTable" : Str)))) ++ lit "text " (decide (n = ("BadText" : Str))))
theorem errs_ok : True := trivial
abbrev s_is_whole : Stmt := topS 13
theorem sc_is_whole : FnScope ["thing"] ["thing"] (defScope s_is_whole) := ⟨rfl, rfl, rfl, by decide +kernel, rfl, by decide +kernel, by decide +kernel⟩
abbrev s_is_whole_within : Stmt := topS 14
theorem sc_is_whole_within : FnScope ["thing", "low", "high"] ["thing", "low", "high"] (defScope s_is_whole_within) := ⟨rfl, rfl, rfl, by decide +kernel, rfl, by decide +kernel, by decide +kernel⟩
abbrev s_is_list_of : Stmt := topS 15
theorem sc_is_list_of : FnScope ["thing", "least", "most"] ["thing", "least", "most"] (defScope s_is_list_of) := ⟨rfl, rfl, rfl, by decide +kernel, rfl, by decide +kernel, by decide +kernel⟩
abbrev s_are_wholes : Stmt := topS 16
theorem sc_are_wholes : FnScope ["thing", "length"] ["thing", "length"] (defScope s_are_wholes) := ⟨rfl, rfl, rfl, by decide +kernel, rfl, by decide +kernel, by decide +kernel⟩
abbrev s_is_pair : Stmt := topS 17
theorem sc_is_pair : FnScope ["thing"] ["thing"] (defScope s_is_pair) := ⟨rfl, rfl, rfl, by decide +kernel, rfl, by decide +kernel, by decide +kernel⟩
abbrev s_is_row : Stmt := topS 18
theorem sc_is_row : FnScope ["thing", "many"] ["thing", "many"] (defScope s_is_row) := ⟨rfl, rfl, rfl, by decide +kernel, rfl, by decide +kernel, by decide +kernel⟩
abbrev s_are_rows : Stmt := topS 19
theorem sc_are_rows : FnScope ["thing", "many", "least", "most"] ["thing", "many", "least", "most"] (defScope s_are_rows) := ⟨rfl, rfl, rfl, by decide +kernel, rfl, by decide +kernel, by decide +kernel⟩
abbrev s_is_way : Stmt := topS 20
theorem sc_is_way : FnScope ["thing", "many", "asks", "gives"] ["thing", "many"] (defScope s_is_way) := ⟨rfl, rfl, rfl, by decide +kernel, rfl, by decide +kernel, by decide +kernel⟩
abbrev s_is_loop : Stmt := topS 21
theorem sc_is_loop : FnScope ["thing", "many", "ways"] ["thing"] (defScope s_is_loop) := ⟨rfl, rfl, rfl, by decide +kernel, rfl, by decide +kernel, by decide +kernel⟩
abbrev s_is_state : Stmt := topS 22
theorem sc_is_state : FnScope ["thing", "many"] ["thing", "many"] (defScope s_is_state) := ⟨rfl, rfl, rfl, by decide +kernel, rfl, by decide +kernel, by decide +kernel⟩
abbrev s_need_loop : Stmt := topS 23
theorem sc_need_loop : FnScope ["thing"] ["thing"] (defScope s_need_loop) := ⟨rfl, rfl, rfl, by decide +kernel, rfl, by decide +kernel, by decide +kernel⟩
abbrev s_need_state : Stmt := topS 24
theorem sc_need_state : FnScope ["thing", "many"] ["thing", "many"] (defScope s_need_state) := ⟨rfl, rfl, rfl, by decide +kernel, rfl, by decide +kernel, by decide +kernel⟩
abbrev s_need_count : Stmt := topS 25
theorem sc_need_count : FnScope ["thing", "high"] ["thing", "high"] (defScope s_need_count) := ⟨rfl, rfl, rfl, by decide +kernel, rfl, by decide +kernel, by decide +kernel⟩
abbrev s_worth : Stmt := topS 26
theorem sc_worth : FnScope ["row", "state"] ["row", "state"] (defScope s_worth) := ⟨rfl, rfl, rfl, by decide +kernel, rfl, by decide +kernel, by decide +kernel⟩
abbrev s_may_be_gone : Stmt := topS 27
theorem sc_may_be_gone : FnScope ["way", "state", "asks", "_"] ["way", "state"] (defScope s_may_be_gone) := ⟨rfl, rfl, rfl, by decide +kernel, rfl, by decide +kernel, by decide +kernel⟩
abbrev s_led_to : Stmt := topS 28
theorem sc_led_to : FnScope ["way", "state", "_", "gives", "row"] ["way", "state"] (defScope s_led_to) := ⟨rfl, rfl, rfl, by decide +kernel, rfl, by decide +kernel, by decide +kernel⟩
abbrev s_after : Stmt := topS 29
theorem sc_after : FnScope ["loop", "number", "state", "many", "ways"] ["loop", "number", "state"] (defScope s_after) := ⟨rfl, rfl, rfl, by decide +kernel, rfl, by decide +kernel, by decide +kernel⟩
abbrev s_law_cell_at : Stmt := topS 31
theorem sc_law_cell_at : FnScope ["_law_script", "_law_k"] ["_law_script", "_law_k"] (defScope s_law_cell_at) := ⟨rfl, rfl, rfl, by decide +kernel, rfl, by decide +kernel, by decide +kernel⟩
abbrev s_law_drawn : Stmt := topS 32
theorem sc_law_drawn : FnScope ["_law_seed", "_law_k", "_law_mixed"] ["_law_seed", "_law_k"] (defScope s_law_drawn) := ⟨rfl, rfl, rfl, by decide +kernel, rfl, by decide +kernel, by decide +kernel⟩
abbrev s_law_row_by : Stmt := topS 33
theorem sc_law_row_by : FnScope ["_law_cell", "_law_k", "_law_many", "_law_j"] ["_law_cell", "_law_k", "_law_many"] (defScope s_law_row_by) := ⟨rfl, rfl, rfl, by decide +kernel, rfl, by decide +kernel, by decide +kernel⟩
abbrev s_law_way_by : Stmt := topS 34
theorem sc_law_way_by : FnScope ["_law_cell", "_law_many", "_law_mode", "_law_asks", "_law_k", "_law_gives", "_law_steps", "_law_j", "_law_one", "_law_row"] ["_law_cell", "_law_many"] (defScope s_law_way_by) := ⟨rfl, rfl, rfl, by decide +kernel, rfl, by decide +kernel, by decide +kernel⟩
abbrev s_law_far : Stmt := topS 35
theorem sc_law_far : FnScope ["_law_row", "_law_one"] ["_law_row"] (defScope s_law_far) := ⟨rfl, rfl, rfl, by decide +kernel, rfl, by decide +kernel, by decide +kernel⟩
abbrev s_law_loop_by : Stmt := topS 36
theorem sc_law_loop_by : FnScope ["_law_script", "_law_at", "_law_first", "_law_many", "_law_size", "_law_ways", "_law_k", "_law_far_here", "_law_asks", "_law_gives", "_law_row"] ["_law_script", "_law_at"] (defScope s_law_loop_by) := ⟨rfl, rfl, rfl, by decide +kernel, rfl, by decide +kernel, by decide +kernel⟩
abbrev s_law_name_of : Stmt := topS 37
theorem sc_law_name_of : FnScope ["_law_error", "_law_found"] ["_law_error"] (defScope s_law_name_of) := ⟨rfl, rfl, rfl, by decide +kernel, rfl, by decide +kernel, by decide +kernel⟩
abbrev s_law_copied : Stmt := topS 38
theorem sc_law_copied : FnScope ["_law_thing", "_law_part"] ["_law_thing"] (defScope s_law_copied) := ⟨rfl, rfl, rfl, by decide +kernel, rfl, by decide +kernel, by decide +kernel⟩
abbrev s_law_worth : Stmt := topS 39
theorem sc_law_worth : FnScope ["_law_row", "_law_state_here", "_law_total", "_law_k"] ["_law_row", "_law_state_here"] (defScope s_law_worth) := ⟨rfl, rfl, rfl, by decide +kernel, rfl, by decide +kernel, by decide +kernel⟩
abbrev s_law_led : Stmt := topS 40
theorem sc_law_led : FnScope ["_law_way", "_law_state_here", "_law_row"] ["_law_way", "_law_state_here"] (defScope s_law_led) := ⟨rfl, rfl, rfl, by decide +kernel, rfl, by decide +kernel, by decide +kernel⟩
abbrev s_law_word : Stmt := topS 41
theorem sc_law_word : FnScope ["_law_loop", "_law_number", "_law_state_here", "_law_error"] ["_law_loop", "_law_number", "_law_state_here"] (defScope s_law_word) := ⟨rfl, rfl, rfl, by decide +kernel, rfl, by decide +kernel, by decide +kernel⟩
abbrev s_law_state : Stmt := topS 42
theorem sc_law_state : FnScope ["_law_cell", "_law_many", "_law_k"] ["_law_cell", "_law_many"] (defScope s_law_state) := ⟨rfl, rfl, rfl, by decide +kernel, rfl, by decide +kernel, by decide +kernel⟩
abbrev s_law_right : Stmt := topS 43
theorem sc_law_right : FnScope ["_law_loop", "_law_state_here", "_law_number", "_law_due", "_law_turn", "_law_found", "_law_whole", "_law_one"] ["_law_loop", "_law_state_here"] (defScope s_law_right) := ⟨rfl, rfl, rfl, by decide +kernel, rfl, by decide +kernel, by decide +kernel⟩
abbrev s_law : Stmt := topS 44
theorem sc_law : FnScope ["_law_script", "_law_loop", "_law_many", "_law_kept", "_law_cell", "_law_state_here", "_law_handed", "_law_size", "_law_number", "_law_good", "_law_at", "_law_odd", "_law_some"] ["_law_script"] (defScope s_law) := ⟨rfl, rfl, rfl, by decide +kernel, rfl, by decide +kernel, by decide +kernel⟩
structure Ad where
  f_is_whole : Addr
  c_is_whole : Addr
  fd_is_whole : FuncData
  f_is_whole_within : Addr
  c_is_whole_within : Addr
  fd_is_whole_within : FuncData
  f_is_list_of : Addr
  c_is_list_of : Addr
  fd_is_list_of : FuncData
  f_are_wholes : Addr
  c_are_wholes : Addr
  fd_are_wholes : FuncData
  f_is_pair : Addr
  c_is_pair : Addr
  fd_is_pair : FuncData
  f_is_row : Addr
  c_is_row : Addr
  fd_is_row : FuncData
  f_are_rows : Addr
  c_are_rows : Addr
  fd_are_rows : FuncData
  f_is_way : Addr
  c_is_way : Addr
  fd_is_way : FuncData
  f_is_loop : Addr
  c_is_loop : Addr
  fd_is_loop : FuncData
  f_is_state : Addr
  c_is_state : Addr
  fd_is_state : FuncData
  f_need_loop : Addr
  c_need_loop : Addr
  fd_need_loop : FuncData
  f_need_state : Addr
  c_need_state : Addr
  fd_need_state : FuncData
  f_need_count : Addr
  c_need_count : Addr
  fd_need_count : FuncData
  f_worth : Addr
  c_worth : Addr
  fd_worth : FuncData
  f_may_be_gone : Addr
  c_may_be_gone : Addr
  fd_may_be_gone : FuncData
  f_led_to : Addr
  c_led_to : Addr
  fd_led_to : FuncData
  f_after : Addr
  c_after : Addr
  fd_after : FuncData
  f_law_cell_at : Addr
  c_law_cell_at : Addr
  fd_law_cell_at : FuncData
  f_law_drawn : Addr
  c_law_drawn : Addr
  fd_law_drawn : FuncData
  f_law_row_by : Addr
  c_law_row_by : Addr
  fd_law_row_by : FuncData
  f_law_way_by : Addr
  c_law_way_by : Addr
  fd_law_way_by : FuncData
  f_law_far : Addr
  c_law_far : Addr
  fd_law_far : FuncData
  f_law_loop_by : Addr
  c_law_loop_by : Addr
  fd_law_loop_by : FuncData
  f_law_name_of : Addr
  c_law_name_of : Addr
  fd_law_name_of : FuncData
  f_law_copied : Addr
  c_law_copied : Addr
  fd_law_copied : FuncData
  f_law_worth : Addr
  c_law_worth : Addr
  fd_law_worth : FuncData
  f_law_led : Addr
  c_law_led : Addr
  fd_law_led : FuncData
  f_law_word : Addr
  c_law_word : Addr
  fd_law_word : FuncData
  f_law_state : Addr
  c_law_state : Addr
  fd_law_state : FuncData
  f_law_right : Addr
  c_law_right : Addr
  fd_law_right : FuncData
  f_law : Addr
  c_law : Addr
  fd_law : FuncData
  p_are_wholes : Addr
  p_is_row : Addr
  p_are_rows : Addr
  p_is_loop : Addr
  p_worth : Addr
  p_may_be_gone : Addr
  x_LoopError : Addr
  x_BadLoop : Addr
  x_BadState : Addr
  x_BadCount : Addr
  x_BadGauge : Addr
  x_BadTable : Addr
  x_BadText : Addr
def Ad.cls (A : Ad) (n : Str) : Addr := if n = "BadLoop" then A.x_BadLoop else if n = "BadState" then A.x_BadState else if n = "BadCount" then A.x_BadCount else if n = "BadGauge" then A.x_BadGauge else if n = "BadTable" then A.x_BadTable else if n = "BadText" then A.x_BadText else A.x_LoopError
def tl (A : Ad) : List Addr := [A.p_are_wholes, A.p_is_row, A.p_are_rows, A.p_is_loop, A.p_worth, A.p_may_be_gone]
structure Txt (K : PySem.W.Frag) (mg : Str → Option Value) (A : Ad) : Prop where
  z_ValueError : mg "ValueError" = none
  F_is_whole : FunC K "is_whole" "is_whole" s_is_whole A.f_is_whole A.fd_is_whole A.c_is_whole
  g_is_whole : mg "is_whole" = some (.ref A.f_is_whole)
  b_is_whole : Binds K A.fd_is_whole ["thing"] []
  F_is_whole_within : FunC K "is_whole_within" "is_whole_within" s_is_whole_within A.f_is_whole_within A.fd_is_whole_within A.c_is_whole_within
  g_is_whole_within : mg "is_whole_within" = some (.ref A.f_is_whole_within)
  b_is_whole_within : Binds K A.fd_is_whole_within ["thing", "low", "high"] []
  F_is_list_of : FunC K "is_list_of" "is_list_of" s_is_list_of A.f_is_list_of A.fd_is_list_of A.c_is_list_of
  g_is_list_of : mg "is_list_of" = some (.ref A.f_is_list_of)
  b_is_list_of : Binds K A.fd_is_list_of ["thing", "least", "most"] []
  F_are_wholes : FunC K "are_wholes" "are_wholes" s_are_wholes A.f_are_wholes A.fd_are_wholes A.c_are_wholes
  g_are_wholes : mg "are_wholes" = some (.ref A.f_are_wholes)
  b_are_wholes : Binds K A.fd_are_wholes ["thing", "length"] []
  F_is_pair : FunC K "is_pair" "is_pair" s_is_pair A.f_is_pair A.fd_is_pair A.c_is_pair
  g_is_pair : mg "is_pair" = some (.ref A.f_is_pair)
  b_is_pair : Binds K A.fd_is_pair ["thing"] []
  F_is_row : FunC K "is_row" "is_row" s_is_row A.f_is_row A.fd_is_row A.c_is_row
  g_is_row : mg "is_row" = some (.ref A.f_is_row)
  b_is_row : Binds K A.fd_is_row ["thing", "many"] []
  F_are_rows : FunC K "are_rows" "are_rows" s_are_rows A.f_are_rows A.fd_are_rows A.c_are_rows
  g_are_rows : mg "are_rows" = some (.ref A.f_are_rows)
  b_are_rows : Binds K A.fd_are_rows ["thing", "many", "least", "most"] []
  F_is_way : FunC K "is_way" "is_way" s_is_way A.f_is_way A.fd_is_way A.c_is_way
  g_is_way : mg "is_way" = some (.ref A.f_is_way)
  b_is_way : Binds K A.fd_is_way ["thing", "many"] []
  F_is_loop : FunC K "is_loop" "is_loop" s_is_loop A.f_is_loop A.fd_is_loop A.c_is_loop
  g_is_loop : mg "is_loop" = some (.ref A.f_is_loop)
  b_is_loop : Binds K A.fd_is_loop ["thing"] []
  F_is_state : FunC K "is_state" "is_state" s_is_state A.f_is_state A.fd_is_state A.c_is_state
  g_is_state : mg "is_state" = some (.ref A.f_is_state)
  b_is_state : Binds K A.fd_is_state ["thing", "many"] []
  F_need_loop : FunC K "need_loop" "need_loop" s_need_loop A.f_need_loop A.fd_need_loop A.c_need_loop
  g_need_loop : mg "need_loop" = some (.ref A.f_need_loop)
  b_need_loop : Binds K A.fd_need_loop ["thing"] []
  F_need_state : FunC K "need_state" "need_state" s_need_state A.f_need_state A.fd_need_state A.c_need_state
  g_need_state : mg "need_state" = some (.ref A.f_need_state)
  b_need_state : Binds K A.fd_need_state ["thing", "many"] []
  F_need_count : FunC K "need_count" "need_count" s_need_count A.f_need_count A.fd_need_count A.c_need_count
  g_need_count : mg "need_count" = some (.ref A.f_need_count)
  b_need_count : Binds K A.fd_need_count ["thing", "high"] []
  F_worth : FunC K "worth" "worth" s_worth A.f_worth A.fd_worth A.c_worth
  g_worth : mg "worth" = some (.ref A.f_worth)
  b_worth : Binds K A.fd_worth ["row", "state"] []
  F_may_be_gone : FunC K "may_be_gone" "may_be_gone" s_may_be_gone A.f_may_be_gone A.fd_may_be_gone A.c_may_be_gone
  g_may_be_gone : mg "may_be_gone" = some (.ref A.f_may_be_gone)
  b_may_be_gone : Binds K A.fd_may_be_gone ["way", "state"] []
  F_led_to : FunC K "led_to" "led_to" s_led_to A.f_led_to A.fd_led_to A.c_led_to
  g_led_to : mg "led_to" = some (.ref A.f_led_to)
  b_led_to : Binds K A.fd_led_to ["way", "state"] []
  F_after : FunC K "after" "after" s_after A.f_after A.fd_after A.c_after
  g_after : mg "after" = some (.ref A.f_after)
  b_after : Binds K A.fd_after ["loop", "number", "state"] []
  F_law_cell_at : FunC K "_law_cell_at" "_law_cell_at" s_law_cell_at A.f_law_cell_at A.fd_law_cell_at A.c_law_cell_at
  g_law_cell_at : mg "_law_cell_at" = some (.ref A.f_law_cell_at)
  b_law_cell_at : Binds K A.fd_law_cell_at ["_law_script", "_law_k"] []
  F_law_drawn : FunC K "_law_drawn" "_law_drawn" s_law_drawn A.f_law_drawn A.fd_law_drawn A.c_law_drawn
  g_law_drawn : mg "_law_drawn" = some (.ref A.f_law_drawn)
  b_law_drawn : Binds K A.fd_law_drawn ["_law_seed", "_law_k"] []
  F_law_row_by : FunC K "_law_row_by" "_law_row_by" s_law_row_by A.f_law_row_by A.fd_law_row_by A.c_law_row_by
  g_law_row_by : mg "_law_row_by" = some (.ref A.f_law_row_by)
  b_law_row_by : Binds K A.fd_law_row_by ["_law_cell", "_law_k", "_law_many"] []
  F_law_way_by : FunC K "_law_way_by" "_law_way_by" s_law_way_by A.f_law_way_by A.fd_law_way_by A.c_law_way_by
  g_law_way_by : mg "_law_way_by" = some (.ref A.f_law_way_by)
  b_law_way_by : Binds K A.fd_law_way_by ["_law_cell", "_law_many"] []
  F_law_far : FunC K "_law_far" "_law_far" s_law_far A.f_law_far A.fd_law_far A.c_law_far
  g_law_far : mg "_law_far" = some (.ref A.f_law_far)
  b_law_far : Binds K A.fd_law_far ["_law_row"] []
  F_law_loop_by : FunC K "_law_loop_by" "_law_loop_by" s_law_loop_by A.f_law_loop_by A.fd_law_loop_by A.c_law_loop_by
  g_law_loop_by : mg "_law_loop_by" = some (.ref A.f_law_loop_by)
  b_law_loop_by : Binds K A.fd_law_loop_by ["_law_script", "_law_at"] []
  F_law_name_of : FunC K "_law_name_of" "_law_name_of" s_law_name_of A.f_law_name_of A.fd_law_name_of A.c_law_name_of
  g_law_name_of : mg "_law_name_of" = some (.ref A.f_law_name_of)
  b_law_name_of : Binds K A.fd_law_name_of ["_law_error"] []
  F_law_copied : FunC K "_law_copied" "_law_copied" s_law_copied A.f_law_copied A.fd_law_copied A.c_law_copied
  g_law_copied : mg "_law_copied" = some (.ref A.f_law_copied)
  b_law_copied : Binds K A.fd_law_copied ["_law_thing"] []
  F_law_worth : FunC K "_law_worth" "_law_worth" s_law_worth A.f_law_worth A.fd_law_worth A.c_law_worth
  g_law_worth : mg "_law_worth" = some (.ref A.f_law_worth)
  b_law_worth : Binds K A.fd_law_worth ["_law_row", "_law_state_here"] []
  F_law_led : FunC K "_law_led" "_law_led" s_law_led A.f_law_led A.fd_law_led A.c_law_led
  g_law_led : mg "_law_led" = some (.ref A.f_law_led)
  b_law_led : Binds K A.fd_law_led ["_law_way", "_law_state_here"] []
  F_law_word : FunC K "_law_word" "_law_word" s_law_word A.f_law_word A.fd_law_word A.c_law_word
  g_law_word : mg "_law_word" = some (.ref A.f_law_word)
  b_law_word : Binds K A.fd_law_word ["_law_loop", "_law_number", "_law_state_here"] []
  F_law_state : FunC K "_law_state" "_law_state" s_law_state A.f_law_state A.fd_law_state A.c_law_state
  g_law_state : mg "_law_state" = some (.ref A.f_law_state)
  b_law_state : Binds K A.fd_law_state ["_law_cell", "_law_many"] []
  F_law_right : FunC K "_law_right" "_law_right" s_law_right A.f_law_right A.fd_law_right A.c_law_right
  g_law_right : mg "_law_right" = some (.ref A.f_law_right)
  b_law_right : Binds K A.fd_law_right ["_law_loop", "_law_state_here"] []
  F_law : FunC K "law" "law" s_law A.f_law A.fd_law A.c_law
  g_law : mg "law" = some (.ref A.f_law)
  b_law : Binds K A.fd_law ["_law_script"] []
  k_FARTHEST : ∃ t, mg "FARTHEST" = some (.int 1000 t)
  k_MOST_ASKS : ∃ t, mg "MOST_ASKS" = some (.int 4 t)
  k_MOST_NAMES : ∃ t, mg "MOST_NAMES" = some (.int 3 t)
  k_MOST_WAYS : ∃ t, mg "MOST_WAYS" = some (.int 3 t)
  z_all : mg "all" = none
  z_bool : mg "bool" = none
  z_int : mg "int" = none
  z_isinstance : mg "isinstance" = none
  z_len : mg "len" = none
  z_list : mg "list" = none
  z_max : mg "max" = none
  z_min : mg "min" = none
  z_range : mg "range" = none
  z_sum : mg "sum" = none
  z_tuple : mg "tuple" = none
  z_type : mg "type" = none
  z_zip : mg "zip" = none
  gx_LoopError : mg "LoopError" = some (.ref A.x_LoopError)
  gx_BadLoop : mg "BadLoop" = some (.ref A.x_BadLoop)
  gx_BadState : mg "BadState" = some (.ref A.x_BadState)
  gx_BadCount : mg "BadCount" = some (.ref A.x_BadCount)
  gx_BadGauge : mg "BadGauge" = some (.ref A.x_BadGauge)
  gx_BadTable : mg "BadTable" = some (.ref A.x_BadTable)
  gx_BadText : mg "BadText" = some (.ref A.x_BadText)
  x_BadLoop : PySem.W.excIn K A.x_BadLoop [.type "ValueError", .type "Exception", .type "BaseException", .type "object"] "ValueError.__new__" = true
  kx_BadLoop : PySem.W.keepIn K (.ref A.x_BadLoop) = true
  ex_BadLoop : PySem.W.subIn K (.ref A.x_BadLoop) (.type "BaseException") = some true
  tx_BadLoop : PySem.W.typeIn K (.ref A.x_BadLoop) = some (.type "type")
  x_BadState : PySem.W.excIn K A.x_BadState [.type "ValueError", .type "Exception", .type "BaseException", .type "object"] "ValueError.__new__" = true
  kx_BadState : PySem.W.keepIn K (.ref A.x_BadState) = true
  ex_BadState : PySem.W.subIn K (.ref A.x_BadState) (.type "BaseException") = some true
  tx_BadState : PySem.W.typeIn K (.ref A.x_BadState) = some (.type "type")
  x_BadCount : PySem.W.excIn K A.x_BadCount [.type "ValueError", .type "Exception", .type "BaseException", .type "object"] "ValueError.__new__" = true
  kx_BadCount : PySem.W.keepIn K (.ref A.x_BadCount) = true
  ex_BadCount : PySem.W.subIn K (.ref A.x_BadCount) (.type "BaseException") = some true
  tx_BadCount : PySem.W.typeIn K (.ref A.x_BadCount) = some (.type "type")
  exm : ∀ n ∈ errs, PySem.W.exmOne K (.ref (A.cls n)) (.ref A.x_LoopError) = some true
  exC : ∀ n ∈ errs, ExcC K (A.cls n)
  kit : ∀ n ∈ errs, ∀ m ∈ all6, PySem.W.kitOne K (.ref (A.cls n)) (.ref (A.cls m)) = some (decide (n = m))
  kitV : ∀ n ∈ errs, PySem.W.kitOne K (.ref (A.cls n)) (.type "ValueError") = some true
structure B (base : Heap) (mg : Str → Option Value) (A : Ad) : Prop where
  t_are_wholes : TabB base mg A.c_are_wholes A.p_are_wholes
  t_is_row : TabB base mg A.c_is_row A.p_is_row
  t_are_rows : TabB base mg A.c_are_rows A.p_are_rows
  t_is_loop : TabB base mg A.c_is_loop A.p_is_loop
  t_worth : TabB base mg A.c_worth A.p_worth
  t_may_be_gone : TabB base mg A.c_may_be_gone A.p_may_be_gone
end K02

set_option Elab.async false
set_option linter.all false
set_option maxRecDepth 100000
set_option maxHeartbeats 400000
namespace K02
open PySem PySem.Spec PyProof.Rows L2 L2H GxR GX DN
def m_is_whole : SM := (sRet (dUn (gTy false "int") (dVar 0)))
abbrev M_is_whole : List D → Option D := fnD 1 m_is_whole
theorem ok_is_whole {P : Program} {w : World} {K : PySem.W.Frag} {mg : Str → Option Value} {base : Heap} {A : Ad} (T : Txt K mg A) (B : B base mg A) : FnOk P w K mg base CX0 1 A.f_is_whole A.fd_is_whole ["thing"] (spPN K (tl A) false 1 M_is_whole) :=
  T.F_is_whole.okD (O' := []) (N := ["thing"]) (ps := ["thing"]) (k := 0) (nw := false) (m := m_is_whole) sc_is_whole fun A' outer s H E hr => by
    exact (sso_one (so_ret (O := []) (pd_typeIs (by rfl) T.z_type (by rfl) T.z_int (by decide +kernel) (dv 0))))
def m_is_whole_within : SM := (sRet (dAnd (dFn M_is_whole (dCons (dVar 0) dNil)) (dChain (gI pLe) (gI pLe) (dVar 1) (dVar 0) (dVar 2))))
abbrev M_is_whole_within : List D → Option D := fnD 3 m_is_whole_within
theorem ok_is_whole_within {P : Program} {w : World} {K : PySem.W.Frag} {mg : Str → Option Value} {base : Heap} {A : Ad} (T : Txt K mg A) (B : B base mg A) : FnOk P w K mg base CX0 2 A.f_is_whole_within A.fd_is_whole_within ["thing", "low", "high"] (spPN K (tl A) false 3 M_is_whole_within) :=
  T.F_is_whole_within.okD (O' := []) (N := ["thing", "low", "high"]) (ps := ["thing", "low", "high"]) (k := 1) (nw := false) (m := m_is_whole_within) sc_is_whole_within fun A' outer s H E hr => by
    exact (sso_one (so_ret (O := []) (pd_and (pd_call (FnOk.weak (ok_is_whole T B)) (hr.mono (by decide)) (by rfl) T.g_is_whole T.F_is_whole.kp T.b_is_whole (pad_cons (dv 0) pad_nil) (lenS len0)) (pd_one (pd_chain (dI (p := pLe)) (dI (p := pLe)) op_le op_le (dv 1) (dv 0) (dv 2))))))
def m_is_list_of : SM := (sRet (dAnd (dUn (gTy false "list") (dVar 0)) (dChain (gI pLe) (gI pLe) (dVar 1) (dFn gLen (dCons (dVar 0) dNil)) (dVar 2))))
abbrev M_is_list_of : List D → Option D := fnD 3 m_is_list_of
theorem ok_is_list_of {P : Program} {w : World} {K : PySem.W.Frag} {mg : Str → Option Value} {base : Heap} {A : Ad} (T : Txt K mg A) (B : B base mg A) : FnOk P w K mg base CX0 1 A.f_is_list_of A.fd_is_list_of ["thing", "least", "most"] (spPN K (tl A) false 3 M_is_list_of) :=
  T.F_is_list_of.okD (O' := []) (N := ["thing", "least", "most"]) (ps := ["thing", "least", "most"]) (k := 0) (nw := false) (m := m_is_list_of) sc_is_list_of fun A' outer s H E hr => by
    exact (sso_one (so_ret (O := []) (pd_and (pd_typeIs (by rfl) T.z_type (by rfl) T.z_list (by decide +kernel) (dv 0)) (pd_one (pd_chain (dI (p := pLe)) (dI (p := pLe)) op_le op_le (dv 1) (pd_callB dLen call_len_seq (by rfl) T.z_len PySem.boot_len (pad_cons (dv 0) pad_nil)) (dv 2))))))
def m_are_wholes : SM := (sRet (dAnd (dFn M_is_list_of (dCons (dVar 0) (dCons (dVar 1) (dCons (dVar 1) dNil)))) (dQ true 1 [] (dLs (dVar 0)) (bd1 0) tYesD (dFn M_is_whole (dCons (dVar 0) dNil)))))
abbrev M_are_wholes : List D → Option D := fnD 2 m_are_wholes
theorem ok_are_wholes {P : Program} {w : World} {K : PySem.W.Frag} {mg : Str → Option Value} {base : Heap} {A : Ad} (T : Txt K mg A) (B : B base mg A) : FnOk P w K mg base CX0 3 A.f_are_wholes A.fd_are_wholes ["thing", "length"] (spPN K (tl A) false 2 M_are_wholes) :=
  T.F_are_wholes.okD (O' := []) (N := ["thing", "length"]) (ps := ["thing", "length"]) (k := 2) (nw := false) (m := m_are_wholes) sc_are_wholes fun A' outer s H E hr => by
    exact (sso_one (so_ret (O := []) (pd_and (pd_call (FnOk.weak (ok_is_list_of T B)) (hr.mono (by decide)) (by rfl) T.g_is_list_of T.F_is_list_of.kp T.b_is_list_of (pad_cons (dv 0) (pad_cons (dv 1) (pad_cons (dv 1) pad_nil))) (lenS (lenS (lenS len0)))) (pd_one (pd_all (k := 1) (own := ["number"]) (caps := []) rfl (hr.mono (by decide)) (by rfl) T.z_all B.t_are_wholes (by simp [tl]) rfl (gscp_of (N := ["thing", "length"]) (sc := defScope s_are_wholes) (by decide +kernel)) (gd1 (i := 0) (by decide)) (pid_list (dv 0)) (fun A s H C cl code fp pn r => (pg_name (i := 0) (nd_of (N := ["number"]) (by decide +kernel)) rfl (by first | exact Or.inl rfl | exact Or.inr rfl))) (fun A s H C cl code fp pn r => ptsd_nil) (fun A s H C cl code fp pn r => (pd_call (FnOk.weak (ok_is_whole T B)) (r.mono (by decide)) (by rfl) T.g_is_whole T.F_is_whole.kp T.b_is_whole (pad_cons (dv 0) pad_nil) (lenS len0))))))))
def m_is_pair : SM := (sRet (dAnd (dUn (gTy false "tuple") (dVar 0)) (dBin (gEqv false) (dFn gLen (dCons (dVar 0) dNil)) (dC (.int 2)))))
abbrev M_is_pair : List D → Option D := fnD 1 m_is_pair
theorem ok_is_pair {P : Program} {w : World} {K : PySem.W.Frag} {mg : Str → Option Value} {base : Heap} {A : Ad} (T : Txt K mg A) (B : B base mg A) : FnOk P w K mg base CX0 1 A.f_is_pair A.fd_is_pair ["thing"] (spPN K (tl A) false 1 M_is_pair) :=
  T.F_is_pair.okD (O' := []) (N := ["thing"]) (ps := ["thing"]) (k := 0) (nw := false) (m := m_is_pair) sc_is_pair fun A' outer s H E hr => by
    exact (sso_one (so_ret (O := []) (pd_and (pd_typeIs (by rfl) T.z_type (by rfl) T.z_tuple (by decide +kernel) (dv 0)) (pd_one (pd_cmp dEq (op_eqD hr.units) (nomark _) (pd_callB dLen call_len_seq (by rfl) T.z_len PySem.boot_len (pad_cons (dv 0) pad_nil)) pd_int)))))
def m_is_row : SM := (sSeq (sIf (tNotD (dB (dFn M_is_list_of (dCons (dVar 0) (dCons (dBin gAdd (dVar 1) (dC (.int 1))) (dCons (dBin gAdd (dVar 1) (dC (.int 1))) dNil)))))) (sRet (dC (.bl false))) sNx)
    (sRet (dQ true 1 [] (dLs (dVar 0)) (bd1 0) tYesD (dFn M_is_whole_within (dCons (dVar 0) (dCons (dUn gNeg (dC (.int (1000)))) (dCons (dC (.int (1000))) dNil)))))))
abbrev M_is_row : List D → Option D := fnD 2 m_is_row
theorem ok_is_row {P : Program} {w : World} {K : PySem.W.Frag} {mg : Str → Option Value} {base : Heap} {A : Ad} (T : Txt K mg A) (B : B base mg A) : FnOk P w K mg base CX0 4 A.f_is_row A.fd_is_row ["thing", "many"] (spPN K (tl A) false 2 M_is_row) :=
  T.F_is_row.okD (O' := []) (N := ["thing", "many"]) (ps := ["thing", "many"]) (k := 3) (nw := false) (m := m_is_row) sc_is_row fun A' outer s H E hr => by
    exact (sso_cons (so_if (O := []) (ptd_not (ptd_val (pd_call (FnOk.weak (ok_is_list_of T B)) (hr.mono (by decide)) (by rfl) T.g_is_list_of T.F_is_list_of.kp T.b_is_list_of (pad_cons (dv 0) (pad_cons (pd_bin dAdd op_addD (dv 1) pd_int) (pad_cons (pd_bin dAdd op_addD (dv 1) pd_int) pad_nil))) (lenS (lenS (lenS len0))))))
      (sso_one (so_ret (O := []) pd_bl))
      sso_nil)
      (sso_one (so_ret (O := []) (pd_all (k := 2) (own := ["number"]) (caps := []) rfl (hr.mono (by decide)) (by rfl) T.z_all B.t_is_row (by simp [tl]) rfl (gscp_of (N := ["thing", "many"]) (sc := defScope s_is_row) (by decide +kernel)) (gd1 (i := 0) (by decide)) (pid_list (dv 0)) (fun A s H C cl code fp pn r => (pg_name (i := 0) (nd_of (N := ["number"]) (by decide +kernel)) rfl (by first | exact Or.inl rfl | exact Or.inr rfl))) (fun A s H C cl code fp pn r => ptsd_nil) (fun A s H C cl code fp pn r => (pd_call (FnOk.weak (ok_is_whole_within T B)) (r.mono (by decide)) (by rfl) T.g_is_whole_within T.F_is_whole_within.kp T.b_is_whole_within (pad_cons (dv 0) (pad_cons (pd_un dNeg un_neg (pd_glob (by rfl) T.k_FARTHEST)) (pad_cons (pd_glob (by rfl) T.k_FARTHEST) pad_nil))) (lenS (lenS (lenS len0)))))))))
def m_are_rows : SM := (sRet (dAnd (dFn M_is_list_of (dCons (dVar 0) (dCons (dVar 2) (dCons (dVar 3) dNil)))) (dQ true 1 [1] (dLs (dVar 0)) (bd1 0) tYesD (dFn M_is_row (dCons (dVar 0) (dCons (dVar 1) dNil))))))
abbrev M_are_rows : List D → Option D := fnD 4 m_are_rows
theorem ok_are_rows {P : Program} {w : World} {K : PySem.W.Frag} {mg : Str → Option Value} {base : Heap} {A : Ad} (T : Txt K mg A) (B : B base mg A) : FnOk P w K mg base CX0 6 A.f_are_rows A.fd_are_rows ["thing", "many", "least", "most"] (spPN K (tl A) false 4 M_are_rows) :=
  T.F_are_rows.okD (O' := []) (N := ["thing", "many", "least", "most"]) (ps := ["thing", "many", "least", "most"]) (k := 5) (nw := false) (m := m_are_rows) sc_are_rows fun A' outer s H E hr => by
    exact (sso_one (so_ret (O := []) (pd_and (pd_call (FnOk.weak (ok_is_list_of T B)) (hr.mono (by decide)) (by rfl) T.g_is_list_of T.F_is_list_of.kp T.b_is_list_of (pad_cons (dv 0) (pad_cons (dv 2) (pad_cons (dv 3) pad_nil))) (lenS (lenS (lenS len0)))) (pd_one (pd_all (k := 4) (own := ["row"]) (caps := [("many", 1)]) rfl (hr.mono (by decide)) (by rfl) T.z_all B.t_are_rows (by simp [tl]) rfl (gscp_of (N := ["thing", "many", "least", "most"]) (sc := defScope s_are_rows) (by decide +kernel)) (gd1 (i := 0) (by decide)) (pid_list (dv 0)) (fun A s H C cl code fp pn r => (pg_name (i := 0) (nd_of (N := ["row", "many"]) (by decide +kernel)) rfl (by first | exact Or.inl rfl | exact Or.inr rfl))) (fun A s H C cl code fp pn r => ptsd_nil) (fun A s H C cl code fp pn r => (pd_call (FnOk.weak (ok_is_row T B)) (r.mono (by decide)) (by rfl) T.g_is_row T.F_is_row.kp T.b_is_row (pad_cons (dv 0) (pad_cons (dv 1) pad_nil)) (lenS (lenS len0)))))))))
def m_is_way : SM := (sSeq (sIf (tNotD (dB (dFn M_is_pair (dCons (dVar 0) dNil)))) (sRet (dC (.bl false))) sNx)
    (sSeq (sAsg [] (bd2 2 3) (dVar 0))
    (sRet (dAnd (dFn M_are_rows (dCons (dVar 2) (dCons (dVar 1) (dCons (dC (.int 0)) (dCons (dC (.int (4))) dNil))))) (dFn M_are_rows (dCons (dVar 3) (dCons (dVar 1) (dCons (dVar 1) (dCons (dVar 1) dNil)))))))))
abbrev M_is_way : List D → Option D := fnD 4 m_is_way
theorem ok_is_way {P : Program} {w : World} {K : PySem.W.Frag} {mg : Str → Option Value} {base : Heap} {A : Ad} (T : Txt K mg A) (B : B base mg A) : FnOk P w K mg base CX0 7 A.f_is_way A.fd_is_way ["thing", "many"] (spPN K (tl A) false 2 M_is_way) :=
  T.F_is_way.okD (O' := []) (N := ["thing", "many", "asks", "gives"]) (ps := ["thing", "many"]) (k := 6) (nw := false) (m := m_is_way) sc_is_way fun A' outer s H E hr => by
    exact (sso_cons (so_if (O := []) (ptd_not (ptd_val (pd_call (FnOk.weak (ok_is_pair T B)) (hr.mono (by decide)) (by rfl) T.g_is_pair T.F_is_pair.kp T.b_is_pair (pad_cons (dv 0) pad_nil) (lenS len0))))
      (sso_one (so_ret (O := []) pd_bl))
      sso_nil)
      (sso_cons (so_asg (O := []) (vs := [2, 3]) (gd2 (i := 2) (j := 3) (by decide) (by decide)) (dv 0) (pg_tup rfl (pgs_cons (pg_name (i := 2) sc_is_way.nd rfl (by first | exact Or.inl rfl | exact Or.inr rfl)) (pgs_cons (pg_name (i := 3) sc_is_way.nd rfl (by first | exact Or.inl rfl | exact Or.inr rfl)) pgs_nil))) (by decide))
      (sso_one (so_ret (O := []) (pd_and (pd_call (FnOk.weak (ok_are_rows T B)) (hr.mono (by decide)) (by rfl) T.g_are_rows T.F_are_rows.kp T.b_are_rows (pad_cons (dv 2) (pad_cons (dv 1) (pad_cons pd_int (pad_cons (pd_glob (by rfl) T.k_MOST_ASKS) pad_nil)))) (lenS (lenS (lenS (lenS len0))))) (pd_one (pd_call (FnOk.weak (ok_are_rows T B)) (hr.mono (by decide)) (by rfl) T.g_are_rows T.F_are_rows.kp T.b_are_rows (pad_cons (dv 3) (pad_cons (dv 1) (pad_cons (dv 1) (pad_cons (dv 1) pad_nil)))) (lenS (lenS (lenS (lenS len0)))))))))))
def m_is_loop : SM := (sSeq (sIf (tNotD (dB (dFn M_is_pair (dCons (dVar 0) dNil)))) (sRet (dC (.bl false))) sNx)
    (sSeq (sAsg [] (bd2 1 2) (dVar 0))
    (sSeq (sIf (tOrD (tNotD (dB (dFn M_is_whole_within (dCons (dVar 1) (dCons (dC (.int 1)) (dCons (dC (.int (3))) dNil)))))) (tNotD (dB (dFn M_is_list_of (dCons (dVar 2) (dCons (dC (.int 1)) (dCons (dC (.int (3))) dNil))))))) (sRet (dC (.bl false))) sNx)
    (sRet (dQ true 1 [1] (dLs (dVar 2)) (bd1 0) tYesD (dFn M_is_way (dCons (dVar 0) (dCons (dVar 1) dNil))))))))
abbrev M_is_loop : List D → Option D := fnD 3 m_is_loop
theorem ok_is_loop {P : Program} {w : World} {K : PySem.W.Frag} {mg : Str → Option Value} {base : Heap} {A : Ad} (T : Txt K mg A) (B : B base mg A) : FnOk P w K mg base CX0 9 A.f_is_loop A.fd_is_loop ["thing"] (spPN K (tl A) false 1 M_is_loop) :=
  T.F_is_loop.okD (O' := []) (N := ["thing", "many", "ways"]) (ps := ["thing"]) (k := 8) (nw := false) (m := m_is_loop) sc_is_loop fun A' outer s H E hr => by
    exact (sso_cons (so_if (O := []) (ptd_not (ptd_val (pd_call (FnOk.weak (ok_is_pair T B)) (hr.mono (by decide)) (by rfl) T.g_is_pair T.F_is_pair.kp T.b_is_pair (pad_cons (dv 0) pad_nil) (lenS len0))))
      (sso_one (so_ret (O := []) pd_bl))
      sso_nil)
      (sso_cons (so_asg (O := []) (vs := [1, 2]) (gd2 (i := 1) (j := 2) (by decide) (by decide)) (dv 0) (pg_tup rfl (pgs_cons (pg_name (i := 1) sc_is_loop.nd rfl (by first | exact Or.inl rfl | exact Or.inr rfl)) (pgs_cons (pg_name (i := 2) sc_is_loop.nd rfl (by first | exact Or.inl rfl | exact Or.inr rfl)) pgs_nil))) (by decide))
      (sso_cons (so_if (O := []) (ptd_w (pwd_or (ptd_not (ptd_val (pd_call (FnOk.weak (ok_is_whole_within T B)) (hr.mono (by decide)) (by rfl) T.g_is_whole_within T.F_is_whole_within.kp T.b_is_whole_within (pad_cons (dv 1) (pad_cons pd_int (pad_cons (pd_glob (by rfl) T.k_MOST_NAMES) pad_nil))) (lenS (lenS (lenS len0)))))) (pwd_or1 (ptd_not (ptd_val (pd_call (FnOk.weak (ok_is_list_of T B)) (hr.mono (by decide)) (by rfl) T.g_is_list_of T.F_is_list_of.kp T.b_is_list_of (pad_cons (dv 2) (pad_cons pd_int (pad_cons (pd_glob (by rfl) T.k_MOST_WAYS) pad_nil))) (lenS (lenS (lenS len0)))))))))
      (sso_one (so_ret (O := []) pd_bl))
      sso_nil)
      (sso_one (so_ret (O := []) (pd_all (k := 7) (own := ["way"]) (caps := [("many", 1)]) rfl (hr.mono (by decide)) (by rfl) T.z_all B.t_is_loop (by simp [tl]) rfl (gscp_of (N := ["thing", "many", "ways"]) (sc := defScope s_is_loop) (by decide +kernel)) (gd1 (i := 0) (by decide)) (pid_list (dv 2)) (fun A s H C cl code fp pn r => (pg_name (i := 0) (nd_of (N := ["way", "many"]) (by decide +kernel)) rfl (by first | exact Or.inl rfl | exact Or.inr rfl))) (fun A s H C cl code fp pn r => ptsd_nil) (fun A s H C cl code fp pn r => (pd_call (FnOk.weak (ok_is_way T B)) (r.mono (by decide)) (by rfl) T.g_is_way T.F_is_way.kp T.b_is_way (pad_cons (dv 0) (pad_cons (dv 1) pad_nil)) (lenS (lenS len0))))))))))
def m_is_state : SM := (sRet (dFn M_are_wholes (dCons (dVar 0) (dCons (dVar 1) dNil))))
abbrev M_is_state : List D → Option D := fnD 2 m_is_state
theorem ok_is_state {P : Program} {w : World} {K : PySem.W.Frag} {mg : Str → Option Value} {base : Heap} {A : Ad} (T : Txt K mg A) (B : B base mg A) : FnOk P w K mg base CX0 4 A.f_is_state A.fd_is_state ["thing", "many"] (spPN K (tl A) false 2 M_is_state) :=
  T.F_is_state.okD (O' := []) (N := ["thing", "many"]) (ps := ["thing", "many"]) (k := 3) (nw := false) (m := m_is_state) sc_is_state fun A' outer s H E hr => by
    exact (sso_one (so_ret (O := []) (pd_call (FnOk.weak (ok_are_wholes T B)) (hr.mono (by decide)) (by rfl) T.g_are_wholes T.F_are_wholes.kp T.b_are_wholes (pad_cons (dv 0) (pad_cons (dv 1) pad_nil)) (lenS (lenS len0)))))
def m_need_loop : SM := (sIf (tNotD (dB (dFn M_is_loop (dCons (dVar 0) dNil)))) (sEx "BadLoop") sNx)
abbrev M_need_loop : List D → Option Res := fnR 1 m_need_loop
theorem ok_need_loop {P : Program} {w : World} {K : PySem.W.Frag} {mg : Str → Option Value} {base : Heap} {A : Ad} (T : Txt K mg A) (B : B base mg A) : FnOk P w K mg base (L2.CX P w) 10 A.f_need_loop A.fd_need_loop ["thing"] (spR K (tl A) false A.cls 1 M_need_loop) :=
  T.F_need_loop.okR (O' := []) (N := ["thing"]) (ps := ["thing"]) (k := 9) (nw := false) (m := m_need_loop) sc_need_loop fun A' outer s H E hr => by
    exact (sso_one (so_if (O := []) (ptd_not (ptd_val (pd_call (FnOk.weak (ok_is_loop T B)) (hr.mono (by decide)) (by rfl) T.g_is_loop T.F_is_loop.kp T.b_is_loop (pad_cons (dv 0) pad_nil) (lenS len0))))
      (sso_one (so_raise (O := []) (cls := A.cls) PySem.F.excBase_ValueError rfl (takes_of rfl rfl rfl rfl) T.x_BadLoop T.gx_BadLoop T.kx_BadLoop (raises_own T.ex_BadLoop T.tx_BadLoop) (by rfl)))
      sso_nil))
def m_need_state : SM := (sIf (tNotD (dB (dFn M_is_state (dCons (dVar 0) (dCons (dVar 1) dNil))))) (sEx "BadState") sNx)
abbrev M_need_state : List D → Option Res := fnR 2 m_need_state
theorem ok_need_state {P : Program} {w : World} {K : PySem.W.Frag} {mg : Str → Option Value} {base : Heap} {A : Ad} (T : Txt K mg A) (B : B base mg A) : FnOk P w K mg base (L2.CX P w) 5 A.f_need_state A.fd_need_state ["thing", "many"] (spR K (tl A) false A.cls 2 M_need_state) :=
  T.F_need_state.okR (O' := []) (N := ["thing", "many"]) (ps := ["thing", "many"]) (k := 4) (nw := false) (m := m_need_state) sc_need_state fun A' outer s H E hr => by
    exact (sso_one (so_if (O := []) (ptd_not (ptd_val (pd_call (FnOk.weak (ok_is_state T B)) (hr.mono (by decide)) (by rfl) T.g_is_state T.F_is_state.kp T.b_is_state (pad_cons (dv 0) (pad_cons (dv 1) pad_nil)) (lenS (lenS len0)))))
      (sso_one (so_raise (O := []) (cls := A.cls) PySem.F.excBase_ValueError rfl (takes_of rfl rfl rfl rfl) T.x_BadState T.gx_BadState T.kx_BadState (raises_own T.ex_BadState T.tx_BadState) (by rfl)))
      sso_nil))
def m_need_count : SM := (sIf (tNotD (dB (dFn M_is_whole_within (dCons (dVar 0) (dCons (dC (.int 0)) (dCons (dVar 1) dNil)))))) (sEx "BadCount") sNx)
abbrev M_need_count : List D → Option Res := fnR 2 m_need_count
theorem ok_need_count {P : Program} {w : World} {K : PySem.W.Frag} {mg : Str → Option Value} {base : Heap} {A : Ad} (T : Txt K mg A) (B : B base mg A) : FnOk P w K mg base (L2.CX P w) 3 A.f_need_count A.fd_need_count ["thing", "high"] (spR K (tl A) false A.cls 2 M_need_count) :=
  T.F_need_count.okR (O' := []) (N := ["thing", "high"]) (ps := ["thing", "high"]) (k := 2) (nw := false) (m := m_need_count) sc_need_count fun A' outer s H E hr => by
    exact (sso_one (so_if (O := []) (ptd_not (ptd_val (pd_call (FnOk.weak (ok_is_whole_within T B)) (hr.mono (by decide)) (by rfl) T.g_is_whole_within T.F_is_whole_within.kp T.b_is_whole_within (pad_cons (dv 0) (pad_cons pd_int (pad_cons (dv 1) pad_nil))) (lenS (lenS (lenS len0))))))
      (sso_one (so_raise (O := []) (cls := A.cls) PySem.F.excBase_ValueError rfl (takes_of rfl rfl rfl rfl) T.x_BadCount T.gx_BadCount T.kx_BadCount (raises_own T.ex_BadCount T.tx_BadCount) (by rfl)))
      sso_nil))
def m_worth : SM := (sRet (dBin gAdd (dSum 2 [] (dZip (dVar 0) (dVar 1)) (bd2 0 1) tYesD (dBin gMul (dVar 0) (dVar 1))) (dBin gIx (dVar 0) (dUn gNeg (dC (.int 1))))))
abbrev M_worth : List D → Option D := fnD 2 m_worth
theorem ok_worth {P : Program} {w : World} {K : PySem.W.Frag} {mg : Str → Option Value} {base : Heap} {A : Ad} (T : Txt K mg A) (B : B base mg A) : FnOk P w K mg base CX0 2 A.f_worth A.fd_worth ["row", "state"] (spPN K (tl A) false 2 M_worth) :=
  T.F_worth.okD (O' := []) (N := ["row", "state"]) (ps := ["row", "state"]) (k := 1) (nw := false) (m := m_worth) sc_worth fun A' outer s H E hr => by
    exact (sso_one (so_ret (O := []) (pd_bin dAdd op_addD (pd_sum (k := 0) (own := ["number", "at"]) (caps := []) rfl (hr.mono (by decide)) (by rfl) T.z_sum B.t_worth (by simp [tl]) rfl (gscp_of (N := ["row", "state"]) (sc := defScope s_worth) (by decide +kernel)) (gd2 (i := 0) (j := 1) (by decide) (by decide)) (pid_zip (by rfl) T.z_zip (dv 0) (dv 1)) (fun A s H C cl code fp pn r => (pg_tup rfl (pgs_cons (pg_name (i := 0) (nd_of (N := ["number", "at"]) (by decide +kernel)) rfl (by first | exact Or.inl rfl | exact Or.inr rfl)) (pgs_cons (pg_name (i := 1) (nd_of (N := ["number", "at"]) (by decide +kernel)) rfl (by first | exact Or.inl rfl | exact Or.inr rfl)) pgs_nil)))) (fun A s H C cl code fp pn r => ptsd_nil) (fun A s H C cl code fp pn r => (pd_bin dMul op_mulD (dv 0) (dv 1)))) (pd_ix dIx ix_D (fun _ _ => rfl) (dv 0) (pd_un dNeg un_neg pd_int)))))
def m_may_be_gone : SM := (sSeq (sAsg [] (bd2 2 3) (dVar 0))
    (sRet (dQ true 1 [1] (dLs (dVar 2)) (bd1 0) tYesD (dBin (gI pGe) (dFn M_worth (dCons (dVar 0) (dCons (dVar 1) dNil))) (dC (.int 0))))))
abbrev M_may_be_gone : List D → Option D := fnD 4 m_may_be_gone
theorem ok_may_be_gone {P : Program} {w : World} {K : PySem.W.Frag} {mg : Str → Option Value} {base : Heap} {A : Ad} (T : Txt K mg A) (B : B base mg A) : FnOk P w K mg base CX0 4 A.f_may_be_gone A.fd_may_be_gone ["way", "state"] (spPN K (tl A) false 2 M_may_be_gone) :=
  T.F_may_be_gone.okD (O' := []) (N := ["way", "state", "asks", "_"]) (ps := ["way", "state"]) (k := 3) (nw := false) (m := m_may_be_gone) sc_may_be_gone fun A' outer s H E hr => by
    exact (sso_cons (so_asg (O := []) (vs := [2, 3]) (gd2 (i := 2) (j := 3) (by decide) (by decide)) (dv 0) (pg_tup rfl (pgs_cons (pg_name (i := 2) sc_may_be_gone.nd rfl (by first | exact Or.inl rfl | exact Or.inr rfl)) (pgs_cons (pg_name (i := 3) sc_may_be_gone.nd rfl (by first | exact Or.inl rfl | exact Or.inr rfl)) pgs_nil))) (by decide))
      (sso_one (so_ret (O := []) (pd_all (k := 2) (own := ["ask"]) (caps := [("state", 1)]) rfl (hr.mono (by decide)) (by rfl) T.z_all B.t_may_be_gone (by simp [tl]) rfl (gscp_of (N := ["way", "state", "asks", "_"]) (sc := defScope s_may_be_gone) (by decide +kernel)) (gd1 (i := 0) (by decide)) (pid_list (dv 2)) (fun A s H C cl code fp pn r => (pg_name (i := 0) (nd_of (N := ["ask", "state"]) (by decide +kernel)) rfl (by first | exact Or.inl rfl | exact Or.inr rfl))) (fun A s H C cl code fp pn r => ptsd_nil) (fun A s H C cl code fp pn r => (pd_cmp (dI (p := pGe)) op_ge (nomark _) (pd_call (FnOk.weak (ok_worth T B)) (r.mono (by decide)) (by rfl) T.g_worth T.F_worth.kp T.b_worth (pad_cons (dv 0) (pad_cons (dv 1) pad_nil)) (lenS (lenS len0))) pd_int))))))
def m_led_to : SM := (sSeq (sIf (tNotD (dB (dFn M_may_be_gone (dCons (dVar 0) (dCons (dVar 1) dNil))))) (sRetF (dC .non)) sNx)
    (sSeq (sAsg [] (bd2 2 3) (dVar 0))
    (sRetF (dLc [4] (dLs (dVar 3)) (bd1 4) tYesD (dFn M_worth (dCons (dVar 4) (dCons (dVar 1) dNil)))))))
abbrev M_led_to : List D → Option D := fnD 5 m_led_to
theorem ok_led_to {P : Program} {w : World} {K : PySem.W.Frag} {mg : Str → Option Value} {base : Heap} {A : Ad} (T : Txt K mg A) (B : B base mg A) : FnOk P w K mg base CX0 5 A.f_led_to A.fd_led_to ["way", "state"] (spPN K (tl A) true 2 M_led_to) :=
  T.F_led_to.okD (O' := []) (N := ["way", "state", "_", "gives", "row"]) (ps := ["way", "state"]) (k := 4) (nw := true) (m := m_led_to) sc_led_to fun A' outer s H E hr => by
    exact (sso_cons (so_if (O := []) (ptd_not (ptd_val (pd_call (FnOk.weak (ok_may_be_gone T B)) (hr.mono (by decide)) (by rfl) T.g_may_be_gone T.F_may_be_gone.kp T.b_may_be_gone (pad_cons (dv 0) (pad_cons (dv 1) pad_nil)) (lenS (lenS len0)))))
      (sso_one (so_retNew (O := []) pdn_non))
      sso_nil)
      (sso_cons (so_asg (O := []) (vs := [2, 3]) (gd2 (i := 2) (j := 3) (by decide) (by decide)) (dv 0) (pg_tup rfl (pgs_cons (pg_name (i := 2) sc_led_to.nd rfl (by first | exact Or.inl rfl | exact Or.inr rfl)) (pgs_cons (pg_name (i := 3) sc_led_to.nd rfl (by first | exact Or.inl rfl | exact Or.inr rfl)) pgs_nil))) (by decide))
      (sso_one (so_retNew (O := []) (pdn_lc (own := [("row", 4)]) rfl sc_led_to.nd (pid_list (dv 3)) (blkOk_by (own := [("row", 4)]) (N := ["way", "state", "_", "gives", "row"]) (by kernel_rfl)) (gd1 (i := 4) (by decide)) (fun _ _ _ _ _ => (pg_name (i := 4) sc_led_to.nd rfl (by first | exact Or.inl rfl | exact Or.inr rfl))) (fun _ _ _ _ _ => ptsd_nil) (fun _ _ _ _ _ => (pd_call (FnOk.weak (ok_worth T B)) (hr.mono (by decide)) (by rfl) T.g_worth T.F_worth.kp T.b_worth (pad_cons (dv 4) (pad_cons (dv 1) pad_nil)) (lenS (lenS len0)))))))))
def m_after : SM := (sSeq (xEx (dCons (dVar 0) dNil) M_need_loop)
    (sSeq (sAsg [] (bd2 3 4) (dVar 0))
    (sSeq (xEx (dCons (dVar 1) (dCons (dBin gSub (dFn gLen (dCons (dVar 4) dNil)) (dC (.int 1))) dNil)) M_need_count)
    (sSeq (xEx (dCons (dVar 2) (dCons (dVar 3) dNil)) M_need_state)
    (sRet (dFn M_led_to (dCons (dBin gIx (dVar 4) (dVar 1)) (dCons (dVar 2) dNil))))))))
abbrev M_after : List D → Option Res := fnR 5 m_after
theorem ok_after {P : Program} {w : World} {K : PySem.W.Frag} {mg : Str → Option Value} {base : Heap} {A : Ad} (T : Txt K mg A) (B : B base mg A) : FnOk P w K mg base (L2.CX P w) 11 A.f_after A.fd_after ["loop", "number", "state"] (spR K (tl A) true A.cls 3 M_after) :=
  T.F_after.okR (O' := []) (N := ["loop", "number", "state", "many", "ways"]) (ps := ["loop", "number", "state"]) (k := 10) (nw := true) (m := m_after) sc_after fun A' outer s H E hr => by
    exact (sso_cons (so_exprX (O := []) (ok_need_loop T B) (hr.mono (by decide)) (takes_of rfl rfl rfl rfl) (by rfl) T.g_need_loop T.F_need_loop.kp T.b_need_loop (pad_cons (dv 0) pad_nil) (lenS len0))
      (sso_cons (so_asg (O := []) (vs := [3, 4]) (gd2 (i := 3) (j := 4) (by decide) (by decide)) (dv 0) (pg_tup rfl (pgs_cons (pg_name (i := 3) sc_after.nd rfl (by first | exact Or.inl rfl | exact Or.inr rfl)) (pgs_cons (pg_name (i := 4) sc_after.nd rfl (by first | exact Or.inl rfl | exact Or.inr rfl)) pgs_nil))) (by decide))
      (sso_cons (so_exprX (O := []) (ok_need_count T B) (hr.mono (by decide)) (takes_of rfl rfl rfl rfl) (by rfl) T.g_need_count T.F_need_count.kp T.b_need_count (pad_cons (dv 1) (pad_cons (pd_bin dSub op_sub (pd_callB dLen call_len_seq (by rfl) T.z_len PySem.boot_len (pad_cons (dv 4) pad_nil)) pd_int) pad_nil)) (lenS (lenS len0)))
      (sso_cons (so_exprX (O := []) (ok_need_state T B) (hr.mono (by decide)) (takes_of rfl rfl rfl rfl) (by rfl) T.g_need_state T.F_need_state.kp T.b_need_state (pad_cons (dv 2) (pad_cons (dv 3) pad_nil)) (lenS (lenS len0)))
      (sso_one (so_retW (O := []) (pdw_call (ok_led_to T B) (hr.mono (by decide)) (by rfl) T.g_led_to T.F_led_to.kp T.b_led_to (pad_cons (pd_ix dIx ix_D (fun _ _ => rfl) (dv 4) (dv 1)) (pad_cons (dv 2) pad_nil)) (lenS (lenS len0)))))))))
def m_law_cell_at : SM := (sSeq (sIf (dB (dBin (gI pLt) (dVar 1) (dFn gLen (dCons (dVar 0) dNil)))) (sRet (dBin gIx (dVar 0) (dVar 1))) sNx)
    (sRet (dC (.int 0))))
abbrev M_law_cell_at : List D → Option D := fnD 2 m_law_cell_at
theorem ok_law_cell_at {P : Program} {w : World} {K : PySem.W.Frag} {mg : Str → Option Value} {base : Heap} {A : Ad} (T : Txt K mg A) (B : B base mg A) : FnOk P w K mg base CX0 1 A.f_law_cell_at A.fd_law_cell_at ["_law_script", "_law_k"] (spPN K (tl A) false 2 M_law_cell_at) :=
  T.F_law_cell_at.okD (O' := []) (N := ["_law_script", "_law_k"]) (ps := ["_law_script", "_law_k"]) (k := 0) (nw := false) (m := m_law_cell_at) sc_law_cell_at fun A' outer s H E hr => by
    exact (sso_cons (so_if (O := []) (ptd_cmp (dI (p := pLt)) op_lt (nomark _) (dv 1) (pd_callB dLen call_len_seq (by rfl) T.z_len PySem.boot_len (pad_cons (dv 0) pad_nil)))
      (sso_one (so_ret (O := []) (pd_ix dIx ix_D (fun _ _ => rfl) (dv 0) (dv 1))))
      sso_nil)
      (sso_one (so_ret (O := []) pd_int)))
def m_law_drawn : SM := (sSeq (sSet 2 (ev false [] (dBin gMod (dBin gMul (dBin gAdd (dBin gAdd (dVar 0) (dBin gMul (dC (.int 101)) (dVar 1))) (dC (.int 7))) (dC (.int 48271))) (dC (.int 2147483647)))))
    (sRet (dBin gFdiv (dBin gMod (dBin gMul (dBin gAdd (dBin gFdiv (dVar 2) (dC (.int 7))) (dVar 1)) (dC (.int 16807))) (dC (.int 2147483647))) (dC (.int 64)))))
abbrev M_law_drawn : List D → Option D := fnD 3 m_law_drawn
theorem ok_law_drawn {P : Program} {w : World} {K : PySem.W.Frag} {mg : Str → Option Value} {base : Heap} {A : Ad} (T : Txt K mg A) (B : B base mg A) : FnOk P w K mg base CX0 1 A.f_law_drawn A.fd_law_drawn ["_law_seed", "_law_k"] (spPN K (tl A) false 2 M_law_drawn) :=
  T.F_law_drawn.okD (O' := []) (N := ["_law_seed", "_law_k", "_law_mixed"]) (ps := ["_law_seed", "_law_k"]) (k := 0) (nw := false) (m := m_law_drawn) sc_law_drawn fun A' outer s H E hr => by
    exact (sso_cons (so_set (O := []) (i := 2) (vw := false) sc_law_drawn.nd rfl (by first | exact Or.inl rfl | exact Or.inr rfl) (pd_bin dMod op_mod (pd_bin dMul op_mulD (pd_bin dAdd op_addD (pd_bin dAdd op_addD (dv 0) (pd_bin dMul op_mulD pd_int (dv 1))) pd_int) pd_int) pd_int))
      (sso_one (so_ret (O := []) (pd_bin dFdiv op_fdivW (pd_bin dMod op_mod (pd_bin dMul op_mulD (pd_bin dAdd op_addD (pd_bin dFdiv op_fdivW (dv 2) pd_int) (dv 1)) pd_int) pd_int) pd_int))))
def m_law_row_by : SM := (sSeq (sIf (dB (dBin (gEqv false) (dBin gMod (dFn M_law_drawn (dCons (dVar 0) (dCons (dBin gAdd (dBin gMul (dC (.int 10)) (dVar 1)) (dC (.int 9))) dNil))) (dC (.int 8))) (dC (.int 3)))) (sRet (dLc [3] (dRng1 (dBin gAdd (dVar 2) (dC (.int 1)))) (bd1 3) tYesD (dBin gSub (dBin gMod (dFn M_law_drawn (dCons (dVar 0) (dCons (dBin gAdd (dBin gMul (dC (.int 10)) (dVar 1)) (dVar 3)) dNil))) (dC (.int 2001))) (dC (.int 1000))))) sNx)
    (sRet (dBin gAdd (dLc [3] (dRng1 (dVar 2)) (bd1 3) tYesD (dBin gSub (dBin gMod (dFn M_law_drawn (dCons (dVar 0) (dCons (dBin gAdd (dBin gMul (dC (.int 10)) (dVar 1)) (dVar 3)) dNil))) (dC (.int 5))) (dC (.int 2)))) (dFn (fun ds => some (.lst ds)) (dCons (dBin gSub (dBin gMod (dFn M_law_drawn (dCons (dVar 0) (dCons (dBin gAdd (dBin gMul (dC (.int 10)) (dVar 1)) (dC (.int 7))) dNil))) (dC (.int 13))) (dC (.int 6))) dNil)))))
abbrev M_law_row_by : List D → Option D := fnD 4 m_law_row_by
theorem ok_law_row_by {P : Program} {w : World} {K : PySem.W.Frag} {mg : Str → Option Value} {base : Heap} {A : Ad} (T : Txt K mg A) (B : B base mg A) : FnOk P w K mg base CX0 2 A.f_law_row_by A.fd_law_row_by ["_law_cell", "_law_k", "_law_many"] (spPN K (tl A) false 3 M_law_row_by) :=
  T.F_law_row_by.okD (O' := []) (N := ["_law_cell", "_law_k", "_law_many", "_law_j"]) (ps := ["_law_cell", "_law_k", "_law_many"]) (k := 1) (nw := false) (m := m_law_row_by) sc_law_row_by fun A' outer s H E hr => by
    exact (sso_cons (so_if (O := []) (ptd_cmp dEq (op_eqD hr.units) (nomark _) (pd_bin dMod op_mod (pd_call (FnOk.weak (ok_law_drawn T B)) (hr.mono (by decide)) (by rfl) T.g_law_drawn T.F_law_drawn.kp T.b_law_drawn (pad_cons (dv 0) (pad_cons (pd_bin dAdd op_addD (pd_bin dMul op_mulD pd_int (dv 1)) pd_int) pad_nil)) (lenS (lenS len0))) pd_int) pd_int)
      (sso_one (so_ret (O := []) (pd_lc (own := [("_law_j", 3)]) rfl sc_law_row_by.nd (pid_range1 (by rfl) T.z_range (pd_bin dAdd op_addD (dv 2) pd_int)) (blkOk_by (own := [("_law_j", 3)]) (N := ["_law_cell", "_law_k", "_law_many", "_law_j"]) (by kernel_rfl)) (gd1 (i := 3) (by decide)) (fun _ _ _ _ _ => (pg_name (i := 3) sc_law_row_by.nd rfl (by first | exact Or.inl rfl | exact Or.inr rfl))) (fun _ _ _ _ _ => ptsd_nil) (fun _ _ _ _ _ => (pd_bin dSub op_sub (pd_bin dMod op_mod (pd_call (FnOk.weak (ok_law_drawn T B)) (hr.mono (by decide)) (by rfl) T.g_law_drawn T.F_law_drawn.kp T.b_law_drawn (pad_cons (dv 0) (pad_cons (pd_bin dAdd op_addD (pd_bin dMul op_mulD pd_int (dv 1)) (dv 3)) pad_nil)) (lenS (lenS len0))) pd_int) pd_int)))))
      sso_nil)
      (sso_one (so_ret (O := []) (pd_bin dAdd op_addD (pd_lc (own := [("_law_j", 3)]) rfl sc_law_row_by.nd (pid_range1 (by rfl) T.z_range (dv 2)) (blkOk_by (own := [("_law_j", 3)]) (N := ["_law_cell", "_law_k", "_law_many", "_law_j"]) (by kernel_rfl)) (gd1 (i := 3) (by decide)) (fun _ _ _ _ _ => (pg_name (i := 3) sc_law_row_by.nd rfl (by first | exact Or.inl rfl | exact Or.inr rfl))) (fun _ _ _ _ _ => ptsd_nil) (fun _ _ _ _ _ => (pd_bin dSub op_sub (pd_bin dMod op_mod (pd_call (FnOk.weak (ok_law_drawn T B)) (hr.mono (by decide)) (by rfl) T.g_law_drawn T.F_law_drawn.kp T.b_law_drawn (pad_cons (dv 0) (pad_cons (pd_bin dAdd op_addD (pd_bin dMul op_mulD pd_int (dv 1)) (dv 3)) pad_nil)) (lenS (lenS len0))) pd_int) pd_int))) (pd_lst (pad_cons (pd_bin dSub op_sub (pd_bin dMod op_mod (pd_call (FnOk.weak (ok_law_drawn T B)) (hr.mono (by decide)) (by rfl) T.g_law_drawn T.F_law_drawn.kp T.b_law_drawn (pad_cons (dv 0) (pad_cons (pd_bin dAdd op_addD (pd_bin dMul op_mulD pd_int (dv 1)) pd_int) pad_nil)) (lenS (lenS len0))) pd_int) pd_int) pad_nil) (lenL (lenS len0) (by decide)))))))
def m_law_way_by : SM := (sSeq (sSet 2 (ev false [] (dBin gMod (dFn M_law_drawn (dCons (dVar 0) (dCons (dC (.int 3)) dNil))) (dC (.int 4)))))
    (sSeq (sSet 3 (ev false [] (dLc [4] (dRng1 (dBin gMod (dFn M_law_drawn (dCons (dVar 0) (dCons (dC (.int 4)) dNil))) (dC (.int 4)))) (bd1 4) tYesD (dFn M_law_row_by (dCons (dVar 0) (dCons (dBin gAdd (dC (.int 2)) (dVar 4)) (dCons (dVar 1) dNil)))))))
    (sSeq (sSet 5 (ev false [] (dLc [4] (dRng1 (dVar 1)) (bd1 4) tYesD (dFn M_law_row_by (dCons (dVar 0) (dCons (dBin gAdd (dC (.int 6)) (dVar 4)) (dCons (dVar 1) dNil)))))))
    (sSeq (sSet 6 (ev false [] (dLc [4] (dRng1 (dVar 1)) (bd1 4) tYesD (dBin gSub (dBin gMod (dFn M_law_drawn (dCons (dVar 0) (dCons (dBin gAdd (dC (.int 100)) (dVar 4)) dNil))) (dC (.int 7))) (dC (.int 3))))))
    (sSeq (sIf (tOrD (dB (dBin (gEqv false) (dVar 2) (dC (.int 1)))) (dB (dBin (gEqv false) (dVar 2) (dC (.int 2))))) (sSet 5 (ev false [] (dLc [4] (dRng1 (dVar 1)) (bd1 4) tYesD (dBin gAdd (dLc [7] (dRng1 (dVar 1)) (bd1 7) tYesD (dFn gInt (dCons (dBin (gEqv false) (dVar 7) (dVar 4)) dNil))) (dFn (fun ds => some (.lst ds)) (dCons (dBin gIx (dVar 6) (dVar 4)) dNil)))))) sNx)
    (sSeq (sIf (dB (dBin (gEqv false) (dVar 2) (dC (.int 2)))) (sSet 3 (ev false [] (dBin gAdd (dVar 3) (dFn (fun ds => some (.lst ds)) (dCons (dBin gAdd (dLc [8] (dLs (dVar 6)) (bd1 8) tYesD (dBin gSub (dC (.int 0)) (dVar 8))) (dFn (fun ds => some (.lst ds)) (dCons (dBin gMod (dFn M_law_drawn (dCons (dVar 0) (dCons (dC (.int 110)) dNil))) (dC (.int 9))) dNil))) dNil))))) sNx)
    (sSeq (sIf (dB (dBin (gEqv false) (dVar 2) (dC (.int 3)))) (sSet 5 (ev false [] (dLc [9] (dLs (dVar 5)) (bd1 9) tYesD (dBin gAdd (dBin gMul (dFn (fun ds => some (.lst ds)) (dCons (dC (.int 0)) dNil)) (dVar 1)) (dSl (dVar 9) (dPart (dVar 1)) dNoP))))) sNx)
    (sRet (dFn (fun ds => some (.tup ds)) (dCons (dVar 3) (dCons (dVar 5) dNil)))))))))))
abbrev M_law_way_by : List D → Option D := fnD 10 m_law_way_by
theorem ok_law_way_by {P : Program} {w : World} {K : PySem.W.Frag} {mg : Str → Option Value} {base : Heap} {A : Ad} (T : Txt K mg A) (B : B base mg A) : FnOk P w K mg base CX0 3 A.f_law_way_by A.fd_law_way_by ["_law_cell", "_law_many"] (spPN K (tl A) false 2 M_law_way_by) :=
  T.F_law_way_by.okD (O' := []) (N := ["_law_cell", "_law_many", "_law_mode", "_law_asks", "_law_k", "_law_gives", "_law_steps", "_law_j", "_law_one", "_law_row"]) (ps := ["_law_cell", "_law_many"]) (k := 2) (nw := false) (m := m_law_way_by) sc_law_way_by fun A' outer s H E hr => by
    exact (sso_cons (so_set (O := []) (i := 2) (vw := false) sc_law_way_by.nd rfl (by first | exact Or.inl rfl | exact Or.inr rfl) (pd_bin dMod op_mod (pd_call (FnOk.weak (ok_law_drawn T B)) (hr.mono (by decide)) (by rfl) T.g_law_drawn T.F_law_drawn.kp T.b_law_drawn (pad_cons (dv 0) (pad_cons pd_int pad_nil)) (lenS (lenS len0))) pd_int))
      (sso_cons (by first | exact so_setLc (O := []) (i := 3) (own := [("_law_k", 4)]) rfl sc_law_way_by.nd rfl rfl (sw_true rfl rfl rfl (by decide +kernel)) (pid_range1 (by rfl) T.z_range (pd_bin dMod op_mod (pd_call (FnOk.weak (ok_law_drawn T B)) (hr.mono (by decide)) (by rfl) T.g_law_drawn T.F_law_drawn.kp T.b_law_drawn (pad_cons (dv 0) (pad_cons pd_int pad_nil)) (lenS (lenS len0))) pd_int)) (blkOk_by (own := [("_law_k", 4)]) (N := ["_law_cell", "_law_many", "_law_mode", "_law_asks", "_law_k", "_law_gives", "_law_steps", "_law_j", "_law_one", "_law_row"]) (by kernel_rfl)) (gd1 (i := 4) (by decide)) (fun _ _ _ _ _ => (pg_name (i := 4) sc_law_way_by.nd rfl (by first | exact Or.inl rfl | exact Or.inr rfl))) (fun _ _ _ _ _ => ptsd_nil) (fun _ _ _ _ _ => (pd_call (FnOk.weak (ok_law_row_by T B)) (hr.mono (by decide)) (by rfl) T.g_law_row_by T.F_law_row_by.kp T.b_law_row_by (pad_cons (dv 0) (pad_cons (pd_bin dAdd op_addD pd_int (dv 4)) (pad_cons (dv 1) pad_nil))) (lenS (lenS (lenS len0))))) | exact so_set (O := []) (i := 3) (vw := false) sc_law_way_by.nd rfl (by first | exact Or.inl rfl | exact Or.inr rfl) (pd_lc (own := [("_law_k", 4)]) rfl sc_law_way_by.nd (pid_range1 (by rfl) T.z_range (pd_bin dMod op_mod (pd_call (FnOk.weak (ok_law_drawn T B)) (hr.mono (by decide)) (by rfl) T.g_law_drawn T.F_law_drawn.kp T.b_law_drawn (pad_cons (dv 0) (pad_cons pd_int pad_nil)) (lenS (lenS len0))) pd_int)) (blkOk_by (own := [("_law_k", 4)]) (N := ["_law_cell", "_law_many", "_law_mode", "_law_asks", "_law_k", "_law_gives", "_law_steps", "_law_j", "_law_one", "_law_row"]) (by kernel_rfl)) (gd1 (i := 4) (by decide)) (fun _ _ _ _ _ => (pg_name (i := 4) sc_law_way_by.nd rfl (by first | exact Or.inl rfl | exact Or.inr rfl))) (fun _ _ _ _ _ => ptsd_nil) (fun _ _ _ _ _ => (pd_call (FnOk.weak (ok_law_row_by T B)) (hr.mono (by decide)) (by rfl) T.g_law_row_by T.F_law_row_by.kp T.b_law_row_by (pad_cons (dv 0) (pad_cons (pd_bin dAdd op_addD pd_int (dv 4)) (pad_cons (dv 1) pad_nil))) (lenS (lenS (lenS len0)))))))
      (sso_cons (by first | exact so_setLc (O := []) (i := 5) (own := [("_law_k", 4)]) rfl sc_law_way_by.nd rfl rfl (sw_true rfl rfl rfl (by decide +kernel)) (pid_range1 (by rfl) T.z_range (dv 1)) (blkOk_by (own := [("_law_k", 4)]) (N := ["_law_cell", "_law_many", "_law_mode", "_law_asks", "_law_k", "_law_gives", "_law_steps", "_law_j", "_law_one", "_law_row"]) (by kernel_rfl)) (gd1 (i := 4) (by decide)) (fun _ _ _ _ _ => (pg_name (i := 4) sc_law_way_by.nd rfl (by first | exact Or.inl rfl | exact Or.inr rfl))) (fun _ _ _ _ _ => ptsd_nil) (fun _ _ _ _ _ => (pd_call (FnOk.weak (ok_law_row_by T B)) (hr.mono (by decide)) (by rfl) T.g_law_row_by T.F_law_row_by.kp T.b_law_row_by (pad_cons (dv 0) (pad_cons (pd_bin dAdd op_addD pd_int (dv 4)) (pad_cons (dv 1) pad_nil))) (lenS (lenS (lenS len0))))) | exact so_set (O := []) (i := 5) (vw := false) sc_law_way_by.nd rfl (by first | exact Or.inl rfl | exact Or.inr rfl) (pd_lc (own := [("_law_k", 4)]) rfl sc_law_way_by.nd (pid_range1 (by rfl) T.z_range (dv 1)) (blkOk_by (own := [("_law_k", 4)]) (N := ["_law_cell", "_law_many", "_law_mode", "_law_asks", "_law_k", "_law_gives", "_law_steps", "_law_j", "_law_one", "_law_row"]) (by kernel_rfl)) (gd1 (i := 4) (by decide)) (fun _ _ _ _ _ => (pg_name (i := 4) sc_law_way_by.nd rfl (by first | exact Or.inl rfl | exact Or.inr rfl))) (fun _ _ _ _ _ => ptsd_nil) (fun _ _ _ _ _ => (pd_call (FnOk.weak (ok_law_row_by T B)) (hr.mono (by decide)) (by rfl) T.g_law_row_by T.F_law_row_by.kp T.b_law_row_by (pad_cons (dv 0) (pad_cons (pd_bin dAdd op_addD pd_int (dv 4)) (pad_cons (dv 1) pad_nil))) (lenS (lenS (lenS len0)))))))
      (sso_cons (by first | exact so_setLc (O := []) (i := 6) (own := [("_law_k", 4)]) rfl sc_law_way_by.nd rfl rfl (sw_true rfl rfl rfl (by decide +kernel)) (pid_range1 (by rfl) T.z_range (dv 1)) (blkOk_by (own := [("_law_k", 4)]) (N := ["_law_cell", "_law_many", "_law_mode", "_law_asks", "_law_k", "_law_gives", "_law_steps", "_law_j", "_law_one", "_law_row"]) (by kernel_rfl)) (gd1 (i := 4) (by decide)) (fun _ _ _ _ _ => (pg_name (i := 4) sc_law_way_by.nd rfl (by first | exact Or.inl rfl | exact Or.inr rfl))) (fun _ _ _ _ _ => ptsd_nil) (fun _ _ _ _ _ => (pd_bin dSub op_sub (pd_bin dMod op_mod (pd_call (FnOk.weak (ok_law_drawn T B)) (hr.mono (by decide)) (by rfl) T.g_law_drawn T.F_law_drawn.kp T.b_law_drawn (pad_cons (dv 0) (pad_cons (pd_bin dAdd op_addD pd_int (dv 4)) pad_nil)) (lenS (lenS len0))) pd_int) pd_int)) | exact so_set (O := []) (i := 6) (vw := false) sc_law_way_by.nd rfl (by first | exact Or.inl rfl | exact Or.inr rfl) (pd_lc (own := [("_law_k", 4)]) rfl sc_law_way_by.nd (pid_range1 (by rfl) T.z_range (dv 1)) (blkOk_by (own := [("_law_k", 4)]) (N := ["_law_cell", "_law_many", "_law_mode", "_law_asks", "_law_k", "_law_gives", "_law_steps", "_law_j", "_law_one", "_law_row"]) (by kernel_rfl)) (gd1 (i := 4) (by decide)) (fun _ _ _ _ _ => (pg_name (i := 4) sc_law_way_by.nd rfl (by first | exact Or.inl rfl | exact Or.inr rfl))) (fun _ _ _ _ _ => ptsd_nil) (fun _ _ _ _ _ => (pd_bin dSub op_sub (pd_bin dMod op_mod (pd_call (FnOk.weak (ok_law_drawn T B)) (hr.mono (by decide)) (by rfl) T.g_law_drawn T.F_law_drawn.kp T.b_law_drawn (pad_cons (dv 0) (pad_cons (pd_bin dAdd op_addD pd_int (dv 4)) pad_nil)) (lenS (lenS len0))) pd_int) pd_int))))
      (sso_cons (so_if (O := []) (ptd_w (pwd_or (ptd_cmp dEq (op_eqD hr.units) (nomark _) (dv 2) pd_int) (pwd_or1 (ptd_cmp dEq (op_eqD hr.units) (nomark _) (dv 2) pd_int))))
      (sso_one (by first | exact so_setLc (O := []) (i := 5) (own := [("_law_k", 4)]) rfl sc_law_way_by.nd rfl rfl (sw_true rfl rfl rfl (by decide +kernel)) (pid_range1 (by rfl) T.z_range (dv 1)) (blkOk_by (own := [("_law_k", 4)]) (N := ["_law_cell", "_law_many", "_law_mode", "_law_asks", "_law_k", "_law_gives", "_law_steps", "_law_j", "_law_one", "_law_row"]) (by kernel_rfl)) (gd1 (i := 4) (by decide)) (fun _ _ _ _ _ => (pg_name (i := 4) sc_law_way_by.nd rfl (by first | exact Or.inl rfl | exact Or.inr rfl))) (fun _ _ _ _ _ => ptsd_nil) (fun _ _ _ _ _ => (pd_bin dAdd op_addD (pd_lc (own := [("_law_j", 7)]) rfl sc_law_way_by.nd (pid_range1 (by rfl) T.z_range (dv 1)) (blkOk_by (own := [("_law_j", 7)]) (N := ["_law_cell", "_law_many", "_law_mode", "_law_asks", "_law_k", "_law_gives", "_law_steps", "_law_j", "_law_one", "_law_row"]) (by kernel_rfl)) (gd1 (i := 7) (by decide)) (fun _ _ _ _ _ => (pg_name (i := 7) sc_law_way_by.nd rfl (by first | exact Or.inl rfl | exact Or.inr rfl))) (fun _ _ _ _ _ => ptsd_nil) (fun _ _ _ _ _ => (pd_callTy dIntC call_int1 (by rfl) T.z_int (by decide +kernel) (pad_cons (pd_cmp dEq (op_eqD hr.units) (nomark _) (dv 7) (dv 4)) pad_nil)))) (pd_lst (pad_cons (pd_ix dIx ix_D (fun _ _ => rfl) (dv 6) (dv 4)) pad_nil) (lenL (lenS len0) (by decide))))) | exact so_set (O := []) (i := 5) (vw := false) sc_law_way_by.nd rfl (by first | exact Or.inl rfl | exact Or.inr rfl) (pd_lc (own := [("_law_k", 4)]) rfl sc_law_way_by.nd (pid_range1 (by rfl) T.z_range (dv 1)) (blkOk_by (own := [("_law_k", 4)]) (N := ["_law_cell", "_law_many", "_law_mode", "_law_asks", "_law_k", "_law_gives", "_law_steps", "_law_j", "_law_one", "_law_row"]) (by kernel_rfl)) (gd1 (i := 4) (by decide)) (fun _ _ _ _ _ => (pg_name (i := 4) sc_law_way_by.nd rfl (by first | exact Or.inl rfl | exact Or.inr rfl))) (fun _ _ _ _ _ => ptsd_nil) (fun _ _ _ _ _ => (pd_bin dAdd op_addD (pd_lc (own := [("_law_j", 7)]) rfl sc_law_way_by.nd (pid_range1 (by rfl) T.z_range (dv 1)) (blkOk_by (own := [("_law_j", 7)]) (N := ["_law_cell", "_law_many", "_law_mode", "_law_asks", "_law_k", "_law_gives", "_law_steps", "_law_j", "_law_one", "_law_row"]) (by kernel_rfl)) (gd1 (i := 7) (by decide)) (fun _ _ _ _ _ => (pg_name (i := 7) sc_law_way_by.nd rfl (by first | exact Or.inl rfl | exact Or.inr rfl))) (fun _ _ _ _ _ => ptsd_nil) (fun _ _ _ _ _ => (pd_callTy dIntC call_int1 (by rfl) T.z_int (by decide +kernel) (pad_cons (pd_cmp dEq (op_eqD hr.units) (nomark _) (dv 7) (dv 4)) pad_nil)))) (pd_lst (pad_cons (pd_ix dIx ix_D (fun _ _ => rfl) (dv 6) (dv 4)) pad_nil) (lenL (lenS len0) (by decide))))))))
      sso_nil)
      (sso_cons (so_if (O := []) (ptd_cmp dEq (op_eqD hr.units) (nomark _) (dv 2) pd_int)
      (sso_one (so_set (O := []) (i := 3) (vw := false) sc_law_way_by.nd rfl (by first | exact Or.inl rfl | exact Or.inr rfl) (pd_bin dAdd op_addD (dv 3) (pd_lst (pad_cons (pd_bin dAdd op_addD (pd_lc (own := [("_law_one", 8)]) rfl sc_law_way_by.nd (pid_list (dv 6)) (blkOk_by (own := [("_law_one", 8)]) (N := ["_law_cell", "_law_many", "_law_mode", "_law_asks", "_law_k", "_law_gives", "_law_steps", "_law_j", "_law_one", "_law_row"]) (by kernel_rfl)) (gd1 (i := 8) (by decide)) (fun _ _ _ _ _ => (pg_name (i := 8) sc_law_way_by.nd rfl (by first | exact Or.inl rfl | exact Or.inr rfl))) (fun _ _ _ _ _ => ptsd_nil) (fun _ _ _ _ _ => (pd_bin dSub op_sub pd_int (dv 8)))) (pd_lst (pad_cons (pd_bin dMod op_mod (pd_call (FnOk.weak (ok_law_drawn T B)) (hr.mono (by decide)) (by rfl) T.g_law_drawn T.F_law_drawn.kp T.b_law_drawn (pad_cons (dv 0) (pad_cons pd_int pad_nil)) (lenS (lenS len0))) pd_int) pad_nil) (lenL (lenS len0) (by decide)))) pad_nil) (lenL (lenS len0) (by decide))))))
      sso_nil)
      (sso_cons (so_if (O := []) (ptd_cmp dEq (op_eqD hr.units) (nomark _) (dv 2) pd_int)
      (sso_one (by first | exact so_setLc (O := []) (i := 5) (own := [("_law_row", 9)]) rfl sc_law_way_by.nd rfl rfl (sw_true rfl rfl rfl (by decide +kernel)) (pid_list (dv 5)) (blkOk_by (own := [("_law_row", 9)]) (N := ["_law_cell", "_law_many", "_law_mode", "_law_asks", "_law_k", "_law_gives", "_law_steps", "_law_j", "_law_one", "_law_row"]) (by kernel_rfl)) (gd1 (i := 9) (by decide)) (fun _ _ _ _ _ => (pg_name (i := 9) sc_law_way_by.nd rfl (by first | exact Or.inl rfl | exact Or.inr rfl))) (fun _ _ _ _ _ => ptsd_nil) (fun _ _ _ _ _ => (pd_bin dAdd op_addD (pd_bin dMul op_mulD (pd_lst (pad_cons pd_int pad_nil) (lenL (lenS len0) (by decide))) (dv 1)) (pd_slice (dv 9) (pod_some (dv 1)) pod_none))) | exact so_set (O := []) (i := 5) (vw := false) sc_law_way_by.nd rfl (by first | exact Or.inl rfl | exact Or.inr rfl) (pd_lc (own := [("_law_row", 9)]) rfl sc_law_way_by.nd (pid_list (dv 5)) (blkOk_by (own := [("_law_row", 9)]) (N := ["_law_cell", "_law_many", "_law_mode", "_law_asks", "_law_k", "_law_gives", "_law_steps", "_law_j", "_law_one", "_law_row"]) (by kernel_rfl)) (gd1 (i := 9) (by decide)) (fun _ _ _ _ _ => (pg_name (i := 9) sc_law_way_by.nd rfl (by first | exact Or.inl rfl | exact Or.inr rfl))) (fun _ _ _ _ _ => ptsd_nil) (fun _ _ _ _ _ => (pd_bin dAdd op_addD (pd_bin dMul op_mulD (pd_lst (pad_cons pd_int pad_nil) (lenL (lenS len0) (by decide))) (dv 1)) (pd_slice (dv 9) (pod_some (dv 1)) pod_none))))))
      sso_nil)
      (sso_one (so_ret (O := []) (pd_tup (pad_cons (dv 3) (pad_cons (dv 5) pad_nil)) (lenL (lenS (lenS len0)) (by decide))))))))))))
def m_law_far : SM := (sRet (dLc [1] (dLs (dVar 0)) (bd1 1) tYesD (dFn (g2 pMax) (dCons (dUn gNeg (dC (.int 1000))) (dCons (dFn (g2 pMin) (dCons (dC (.int 1000)) (dCons (dBin gMul (dC (.int 250)) (dVar 1)) dNil))) dNil)))))
abbrev M_law_far : List D → Option D := fnD 2 m_law_far
theorem ok_law_far {P : Program} {w : World} {K : PySem.W.Frag} {mg : Str → Option Value} {base : Heap} {A : Ad} (T : Txt K mg A) (B : B base mg A) : FnOk P w K mg base CX0 1 A.f_law_far A.fd_law_far ["_law_row"] (spPN K (tl A) false 1 M_law_far) :=
  T.F_law_far.okD (O' := []) (N := ["_law_row", "_law_one"]) (ps := ["_law_row"]) (k := 0) (nw := false) (m := m_law_far) sc_law_far fun A' outer s H E hr => by
    exact (sso_one (so_ret (O := []) (pd_lc (own := [("_law_one", 1)]) rfl sc_law_far.nd (pid_list (dv 0)) (blkOk_by (own := [("_law_one", 1)]) (N := ["_law_row", "_law_one"]) (by kernel_rfl)) (gd1 (i := 1) (by decide)) (fun _ _ _ _ _ => (pg_name (i := 1) sc_law_far.nd rfl (by first | exact Or.inl rfl | exact Or.inr rfl))) (fun _ _ _ _ _ => ptsd_nil) (fun _ _ _ _ _ => (pd_callB (d2 (p := pMax)) (call_max2 rfl) (by rfl) T.z_max (by decide +kernel) (pad_cons (pd_un dNeg un_neg pd_int) (pad_cons (pd_callB (d2 (p := pMin)) (call_min2 rfl) (by rfl) T.z_min (by decide +kernel) (pad_cons pd_int (pad_cons (pd_bin dMul op_mulD pd_int (dv 1)) pad_nil))) pad_nil)))))))
def m_law_loop_by : SM := (sSeq (sSet 2 (ev false [] (dFn M_law_cell_at (dCons (dVar 0) (dCons (dVar 1) dNil)))))
    (sSeq (sSet 3 (ev false [] (dBin gIx (dFn (fun ds => some (.lst ds)) (dCons (dC (.int 1)) (dCons (dC (.int 2)) (dCons (dC (.int 3)) (dCons (dC (.int 1)) (dCons (dC (.int 2)) (dCons (dC (.int 2)) (dCons (dC (.int 1)) (dCons (dC (.int 3)) dNil))))))))) (dBin gMod (dVar 2) (dC (.int 8))))))
    (sSeq (sSet 4 (ev false [] (dBin gIx (dFn (fun ds => some (.lst ds)) (dCons (dC (.int 1)) (dCons (dC (.int 2)) (dCons (dC (.int 1)) (dCons (dC (.int 1)) (dCons (dC (.int 2)) (dCons (dC (.int 1)) (dCons (dC (.int 3)) dNil)))))))) (dBin gMod (dBin gFdiv (dVar 2) (dC (.int 8))) (dC (.int 7))))))
    (sSeq (sSet 5 (ev false [] (dLc [6] (dRng1 (dVar 4)) (bd1 6) tYesD (dFn M_law_way_by (dCons (dFn M_law_cell_at (dCons (dVar 0) (dCons (dBin gAdd (dBin gAdd (dVar 1) (dC (.int 1))) (dVar 6)) dNil))) (dCons (dVar 3) dNil))))))
    (sSeq (sIf (dB (dBin (gEqv false) (dBin gMod (dBin gFdiv (dVar 2) (dC (.int 56))) (dC (.int 8))) (dC (.int 5)))) (sSeq (sLst 7 [] dNil)
    (sSeq (sFor [7] (dLs (dVar 5)) (bd2 8 9) (sApp 7 (ev false [7] (dFn (fun ds => some (.tup ds)) (dCons (dLc [10] (dLs (dVar 8)) (bd1 10) tYesD (dFn M_law_far (dCons (dVar 10) dNil))) (dCons (dLc [10] (dLs (dVar 9)) (bd1 10) tYesD (dFn M_law_far (dCons (dVar 10) dNil))) dNil))))))
    (sSet 5 (ev false [] (dVar 7))))) sNx)
    (sRet (dFn (fun ds => some (.tup ds)) (dCons (dVar 3) (dCons (dVar 5) dNil)))))))))
abbrev M_law_loop_by : List D → Option D := fnD 11 m_law_loop_by
theorem ok_law_loop_by {P : Program} {w : World} {K : PySem.W.Frag} {mg : Str → Option Value} {base : Heap} {A : Ad} (T : Txt K mg A) (B : B base mg A) : FnOk P w K mg base CX0 4 A.f_law_loop_by A.fd_law_loop_by ["_law_script", "_law_at"] (spPN K (tl A) false 2 M_law_loop_by) :=
  T.F_law_loop_by.okD (O' := []) (N := ["_law_script", "_law_at", "_law_first", "_law_many", "_law_size", "_law_ways", "_law_k", "_law_far_here", "_law_asks", "_law_gives", "_law_row"]) (ps := ["_law_script", "_law_at"]) (k := 3) (nw := false) (m := m_law_loop_by) sc_law_loop_by fun A' outer s H E hr => by
    exact (sso_cons (so_set (O := []) (i := 2) (vw := false) sc_law_loop_by.nd rfl (by first | exact Or.inl rfl | exact Or.inr rfl) (pd_call (FnOk.weak (ok_law_cell_at T B)) (hr.mono (by decide)) (by rfl) T.g_law_cell_at T.F_law_cell_at.kp T.b_law_cell_at (pad_cons (dv 0) (pad_cons (dv 1) pad_nil)) (lenS (lenS len0))))
      (sso_cons (so_set (O := []) (i := 3) (vw := false) sc_law_loop_by.nd rfl (by first | exact Or.inl rfl | exact Or.inr rfl) (pd_ix dIx ix_D (fun _ _ => rfl) (pd_lst (pad_cons pd_int (pad_cons pd_int (pad_cons pd_int (pad_cons pd_int (pad_cons pd_int (pad_cons pd_int (pad_cons pd_int (pad_cons pd_int pad_nil)))))))) (lenL (lenS (lenS (lenS (lenS (lenS (lenS (lenS (lenS len0)))))))) (by decide))) (pd_bin dMod op_mod (dv 2) pd_int)))
      (sso_cons (so_set (O := []) (i := 4) (vw := false) sc_law_loop_by.nd rfl (by first | exact Or.inl rfl | exact Or.inr rfl) (pd_ix dIx ix_D (fun _ _ => rfl) (pd_lst (pad_cons pd_int (pad_cons pd_int (pad_cons pd_int (pad_cons pd_int (pad_cons pd_int (pad_cons pd_int (pad_cons pd_int pad_nil))))))) (lenL (lenS (lenS (lenS (lenS (lenS (lenS (lenS len0))))))) (by decide))) (pd_bin dMod op_mod (pd_bin dFdiv op_fdivW (dv 2) pd_int) pd_int)))
      (sso_cons (by first | exact so_setLc (O := []) (i := 5) (own := [("_law_k", 6)]) rfl sc_law_loop_by.nd rfl rfl (sw_true rfl rfl rfl (by decide +kernel)) (pid_range1 (by rfl) T.z_range (dv 4)) (blkOk_by (own := [("_law_k", 6)]) (N := ["_law_script", "_law_at", "_law_first", "_law_many", "_law_size", "_law_ways", "_law_k", "_law_far_here", "_law_asks", "_law_gives", "_law_row"]) (by kernel_rfl)) (gd1 (i := 6) (by decide)) (fun _ _ _ _ _ => (pg_name (i := 6) sc_law_loop_by.nd rfl (by first | exact Or.inl rfl | exact Or.inr rfl))) (fun _ _ _ _ _ => ptsd_nil) (fun _ _ _ _ _ => (pd_call (FnOk.weak (ok_law_way_by T B)) (hr.mono (by decide)) (by rfl) T.g_law_way_by T.F_law_way_by.kp T.b_law_way_by (pad_cons (pd_call (FnOk.weak (ok_law_cell_at T B)) (hr.mono (by decide)) (by rfl) T.g_law_cell_at T.F_law_cell_at.kp T.b_law_cell_at (pad_cons (dv 0) (pad_cons (pd_bin dAdd op_addD (pd_bin dAdd op_addD (dv 1) pd_int) (dv 6)) pad_nil)) (lenS (lenS len0))) (pad_cons (dv 3) pad_nil)) (lenS (lenS len0)))) | exact so_set (O := []) (i := 5) (vw := false) sc_law_loop_by.nd rfl (by first | exact Or.inl rfl | exact Or.inr rfl) (pd_lc (own := [("_law_k", 6)]) rfl sc_law_loop_by.nd (pid_range1 (by rfl) T.z_range (dv 4)) (blkOk_by (own := [("_law_k", 6)]) (N := ["_law_script", "_law_at", "_law_first", "_law_many", "_law_size", "_law_ways", "_law_k", "_law_far_here", "_law_asks", "_law_gives", "_law_row"]) (by kernel_rfl)) (gd1 (i := 6) (by decide)) (fun _ _ _ _ _ => (pg_name (i := 6) sc_law_loop_by.nd rfl (by first | exact Or.inl rfl | exact Or.inr rfl))) (fun _ _ _ _ _ => ptsd_nil) (fun _ _ _ _ _ => (pd_call (FnOk.weak (ok_law_way_by T B)) (hr.mono (by decide)) (by rfl) T.g_law_way_by T.F_law_way_by.kp T.b_law_way_by (pad_cons (pd_call (FnOk.weak (ok_law_cell_at T B)) (hr.mono (by decide)) (by rfl) T.g_law_cell_at T.F_law_cell_at.kp T.b_law_cell_at (pad_cons (dv 0) (pad_cons (pd_bin dAdd op_addD (pd_bin dAdd op_addD (dv 1) pd_int) (dv 6)) pad_nil)) (lenS (lenS len0))) (pad_cons (dv 3) pad_nil)) (lenS (lenS len0))))))
      (sso_cons (so_if (O := []) (ptd_cmp dEq (op_eqD hr.units) (nomark _) (pd_bin dMod op_mod (pd_bin dFdiv op_fdivW (dv 2) pd_int) pd_int) pd_int)
      (sso_cons (so_lst (O := []) (i := 7) sc_law_loop_by.nd rfl (by first | exact Or.inl rfl | exact Or.inr rfl) pad_nil (lenL len0 (by decide)))
      (sso_cons (so_for (O := [(7, false)]) (vs := [8, 9]) (gd2 (i := 8) (j := 9) (by decide) (by decide)) PassesOwn.never rfl (pid_list (dv 5)) (pg_tup rfl (pgs_cons (pg_name (i := 8) sc_law_loop_by.nd rfl (by first | exact Or.inl rfl | exact Or.inr rfl)) (pgs_cons (pg_name (i := 9) sc_law_loop_by.nd rfl (by first | exact Or.inl rfl | exact Or.inr rfl)) pgs_nil)))
      (sso_one (so_app (O := [(7, false)]) (i := 7) (vw := false) (by decide) (by decide) (pv 7) (pd_tup (pad_cons (pd_lc (own := [("_law_row", 10)]) rfl sc_law_loop_by.nd (pid_list (dv 8)) (blkOk_by (own := [("_law_row", 10)]) (N := ["_law_script", "_law_at", "_law_first", "_law_many", "_law_size", "_law_ways", "_law_k", "_law_far_here", "_law_asks", "_law_gives", "_law_row"]) (by kernel_rfl)) (gd1 (i := 10) (by decide)) (fun _ _ _ _ _ => (pg_name (i := 10) sc_law_loop_by.nd rfl (by first | exact Or.inl rfl | exact Or.inr rfl))) (fun _ _ _ _ _ => ptsd_nil) (fun _ _ _ _ _ => (pd_call (FnOk.weak (ok_law_far T B)) (hr.mono (by decide)) (by rfl) T.g_law_far T.F_law_far.kp T.b_law_far (pad_cons (dv 10) pad_nil) (lenS len0)))) (pad_cons (pd_lc (own := [("_law_row", 10)]) rfl sc_law_loop_by.nd (pid_list (dv 9)) (blkOk_by (own := [("_law_row", 10)]) (N := ["_law_script", "_law_at", "_law_first", "_law_many", "_law_size", "_law_ways", "_law_k", "_law_far_here", "_law_asks", "_law_gives", "_law_row"]) (by kernel_rfl)) (gd1 (i := 10) (by decide)) (fun _ _ _ _ _ => (pg_name (i := 10) sc_law_loop_by.nd rfl (by first | exact Or.inl rfl | exact Or.inr rfl))) (fun _ _ _ _ _ => ptsd_nil) (fun _ _ _ _ _ => (pd_call (FnOk.weak (ok_law_far T B)) (hr.mono (by decide)) (by rfl) T.g_law_far T.F_law_far.kp T.b_law_far (pad_cons (dv 10) pad_nil) (lenS len0)))) pad_nil)) (lenL (lenS (lenS len0)) (by decide))))) (by decide))
      (sso_frz (O2 := [])
      (sso_one (so_set (O := []) (i := 5) (vw := false) sc_law_loop_by.nd rfl (by first | exact Or.inl rfl | exact Or.inr rfl) (dv 7))) (by decide))))
      sso_nil)
      (sso_one (so_ret (O := []) (pd_tup (pad_cons (dv 3) (pad_cons (dv 5) pad_nil)) (lenL (lenS (lenS len0)) (by decide))))))))))
theorem ok_law_name_of {P : Program} {w : World} {K : PySem.W.Frag} {mg : Str → Option Value} {base : Heap} {A : Ad} (T : Txt K mg A) : FnP P w K mg base 2 A.f_law_name_of A.fd_law_name_of ["_law_error"] (spW A.cls errs tellE) := by
  refine T.F_law_name_of.okP (N := ["_law_error", "_law_found"]) (k := 1) sc_law_name_of (fun p vs H Q E h => by obtain ⟨n, _, rfl, _⟩ := h; rfl) fun p A' out s H vs Q E hr hsp => ?_
  obtain ⟨n, hn, rfl, hz, hf, q⟩ := hsp
  obtain ⟨pa, po⟩ := p
  have hp : (pa, po) ∈ (cxH CX0 P w K mg base ["_law_error", "_law_found"] "_law_name_of" (defScope s_law_name_of) A.f_law_name_of (.ref A.c_law_name_of) A' out s H E (pa, po)).pn := List.mem_singleton.mpr rfl
  exact ⟨_, pss_cons (ps_pv (pre := fun σ => σ = [some (.ref pa), none]) (i := 1) sc_law_name_of.nd rfl (Or.inl rfl) (pv_add (pv_lit (pre := fun σ => σ = [some (.ref pa), none]) (by rfl) T.z_int (pv_is (pre := fun σ => σ = [some (.ref pa), none]) hp (T.exC n hn) hz hf (fun σ e => by rw [e]; rfl) rfl (Or.inl rfl) (by rfl) T.z_isinstance (pe_glob (by rfl) T.gx_BadLoop (v := .ref A.x_BadLoop) rfl) (fun u h => h) (T.kit n hn "BadLoop" (by decide)))) (pv_lit (pre := fun σ => σ = [some (.ref pa), none]) (by rfl) T.z_int (pv_is (pre := fun σ => σ = [some (.ref pa), none]) hp (T.exC n hn) hz hf (fun σ e => by rw [e]; rfl) rfl (Or.inl rfl) (by rfl) T.z_isinstance (pe_glob (by rfl) T.gx_BadState (v := .ref A.x_BadState) rfl) (fun u h => h) (T.kit n hn "BadState" (by decide)))) (lens_le (by (constructor <;> (repeat first | exact sh_lit | apply sh_add))) (by decide))))
    (pss_cons (ps_pv (pre := fun σ => σ = [some (.ref pa), some (.str (lit "loop " (decide (n = ("BadLoop" : Str))) ++ lit "state " (decide (n = ("BadState" : Str)))))]) (i := 1) sc_law_name_of.nd rfl (Or.inl rfl) (pv_add (pv_add (pv_at (pre := fun σ => σ = [some (.ref pa), some (.str (lit "loop " (decide (n = ("BadLoop" : Str))) ++ lit "state " (decide (n = ("BadState" : Str)))))]) (i := 1) (fun σ e => by rw [e]; rfl) rfl (Or.inl rfl)) (pv_lit (pre := fun σ => σ = [some (.ref pa), some (.str (lit "loop " (decide (n = ("BadLoop" : Str))) ++ lit "state " (decide (n = ("BadState" : Str)))))]) (by rfl) T.z_int (pv_is (pre := fun σ => σ = [some (.ref pa), some (.str (lit "loop " (decide (n = ("BadLoop" : Str))) ++ lit "state " (decide (n = ("BadState" : Str)))))]) hp (T.exC n hn) hz hf (fun σ e => by rw [e]; rfl) rfl (Or.inl rfl) (by rfl) T.z_isinstance (pe_glob (by rfl) T.gx_BadCount (v := .ref A.x_BadCount) rfl) (fun u h => h) (T.kit n hn "BadCount" (by decide)))) (lens_le (by (constructor <;> (repeat first | exact sh_lit | apply sh_add))) (by decide))) (pv_lit (pre := fun σ => σ = [some (.ref pa), some (.str (lit "loop " (decide (n = ("BadLoop" : Str))) ++ lit "state " (decide (n = ("BadState" : Str)))))]) (by rfl) T.z_int (pv_is (pre := fun σ => σ = [some (.ref pa), some (.str (lit "loop " (decide (n = ("BadLoop" : Str))) ++ lit "state " (decide (n = ("BadState" : Str)))))]) hp (T.exC n hn) hz hf (fun σ e => by rw [e]; rfl) rfl (Or.inl rfl) (by rfl) T.z_isinstance (pe_glob (by rfl) T.gx_BadGauge (v := .ref A.x_BadGauge) rfl) (fun u h => h) (T.kit n hn "BadGauge" (by decide)))) (lens_le (by (constructor <;> (repeat first | exact sh_lit | apply sh_add))) (by decide))))
    (pss_cons (ps_pv (pre := fun σ => σ = [some (.ref pa), some (.str (((lit "loop " (decide (n = ("BadLoop" : Str))) ++ lit "state " (decide (n = ("BadState" : Str)))) ++ lit "count " (decide (n = ("BadCount" : Str)))) ++ lit "gauge " (decide (n = ("BadGauge" : Str)))))]) (i := 1) sc_law_name_of.nd rfl (Or.inl rfl) (pv_add (pv_add (pv_at (pre := fun σ => σ = [some (.ref pa), some (.str (((lit "loop " (decide (n = ("BadLoop" : Str))) ++ lit "state " (decide (n = ("BadState" : Str)))) ++ lit "count " (decide (n = ("BadCount" : Str)))) ++ lit "gauge " (decide (n = ("BadGauge" : Str)))))]) (i := 1) (fun σ e => by rw [e]; rfl) rfl (Or.inl rfl)) (pv_lit (pre := fun σ => σ = [some (.ref pa), some (.str (((lit "loop " (decide (n = ("BadLoop" : Str))) ++ lit "state " (decide (n = ("BadState" : Str)))) ++ lit "count " (decide (n = ("BadCount" : Str)))) ++ lit "gauge " (decide (n = ("BadGauge" : Str)))))]) (by rfl) T.z_int (pv_is (pre := fun σ => σ = [some (.ref pa), some (.str (((lit "loop " (decide (n = ("BadLoop" : Str))) ++ lit "state " (decide (n = ("BadState" : Str)))) ++ lit "count " (decide (n = ("BadCount" : Str)))) ++ lit "gauge " (decide (n = ("BadGauge" : Str)))))]) hp (T.exC n hn) hz hf (fun σ e => by rw [e]; rfl) rfl (Or.inl rfl) (by rfl) T.z_isinstance (pe_glob (by rfl) T.gx_BadTable (v := .ref A.x_BadTable) rfl) (fun u h => h) (T.kit n hn "BadTable" (by decide)))) (lens_le (by (constructor <;> (repeat first | exact sh_lit | apply sh_add))) (by decide))) (pv_lit (pre := fun σ => σ = [some (.ref pa), some (.str (((lit "loop " (decide (n = ("BadLoop" : Str))) ++ lit "state " (decide (n = ("BadState" : Str)))) ++ lit "count " (decide (n = ("BadCount" : Str)))) ++ lit "gauge " (decide (n = ("BadGauge" : Str)))))]) (by rfl) T.z_int (pv_is (pre := fun σ => σ = [some (.ref pa), some (.str (((lit "loop " (decide (n = ("BadLoop" : Str))) ++ lit "state " (decide (n = ("BadState" : Str)))) ++ lit "count " (decide (n = ("BadCount" : Str)))) ++ lit "gauge " (decide (n = ("BadGauge" : Str)))))]) hp (T.exC n hn) hz hf (fun σ e => by rw [e]; rfl) rfl (Or.inl rfl) (by rfl) T.z_isinstance (pe_glob (by rfl) T.gx_BadText (v := .ref A.x_BadText) rfl) (fun u h => h) (T.kit n hn "BadText" (by decide)))) (lens_le (by (constructor <;> (repeat first | exact sh_lit | apply sh_add))) (by decide))))
    (pss_one (ps_pick (pre := fun σ => σ = [some (.ref pa), some (.str (((((lit "loop " (decide (n = ("BadLoop" : Str))) ++ lit "state " (decide (n = ("BadState" : Str)))) ++ lit "count " (decide (n = ("BadCount" : Str)))) ++ lit "gauge " (decide (n = ("BadGauge" : Str)))) ++ lit "table " (decide (n = ("BadTable" : Str)))) ++ lit "text " (decide (n = ("BadText" : Str)))))]) (i := 1) (fun σ e => by rw [e]; rfl) rfl (Or.inl rfl) (by rfl) T.z_int (pv_is (pre := fun σ => σ = [some (.ref pa), some (.str (((((lit "loop " (decide (n = ("BadLoop" : Str))) ++ lit "state " (decide (n = ("BadState" : Str)))) ++ lit "count " (decide (n = ("BadCount" : Str)))) ++ lit "gauge " (decide (n = ("BadGauge" : Str)))) ++ lit "table " (decide (n = ("BadTable" : Str)))) ++ lit "text " (decide (n = ("BadText" : Str)))))]) hp (T.exC n hn) hz hf (fun σ e => by rw [e]; rfl) rfl (Or.inl rfl) (by rfl) T.z_isinstance (pe_bltn (v := .ty "ValueError") (by rfl) T.z_ValueError (by decide +kernel) rfl) (fun u h => h) (T.kitV n hn)))))), rfl, rfl, rfl, rfl, fun H' he => q H' he⟩
def m_law_copied (R : List D → Option D) : SM := (sSeq (sIf (dB (dUn (gInst "list") (dVar 0))) (sRet (dLc [1] (dLs (dVar 0)) (bd1 1) tYesD (dFn R (dCons (dVar 1) dNil)))) sNx)
    (sSeq (sIf (dB (dUn (gInst "tuple") (dVar 0))) (sRet (dFn gTuple (dCons (dLc [1] (dTu (dVar 0)) (bd1 1) tYesD (dFn R (dCons (dVar 1) dNil))) dNil))) sNx)
    (sRet (dVar 0))))
def M_law_copied_n : Nat → List D → Option D
  | 0 => fun _ => none
  | n + 1 => fnD 2 (m_law_copied (M_law_copied_n n))
abbrev M_law_copied : List D → Option D := M_law_copied_n 7
theorem okn_law_copied {P : Program} {w : World} {K : PySem.W.Frag} {mg : Str → Option Value} {base : Heap} {A : Ad} (T : Txt K mg A) (B : B base mg A) : ∀ n, FnOk P w K mg base CX0 (n + 1) A.f_law_copied A.fd_law_copied ["_law_thing"] (spPN K (tl A) false 1 (M_law_copied_n n))
  | 0 => ⟨fun vs H Q E ⟨G, ds, d, _, _, _, _, hg, _⟩ => (nomatch hg), fun A outer s H ar us vs Q E hr e0 hb r ⟨G, ds, d, _, _, _, _, hg, _⟩ => (nomatch hg)⟩
  | n + 1 => by
    have ih := okn_law_copied (P := P) (w := w) T B n
    exact T.F_law_copied.okD (O' := []) (N := ["_law_thing", "_law_part"]) (ps := ["_law_thing"]) (k := n + 1) (m := m_law_copied (M_law_copied_n n)) sc_law_copied fun A' outer s H E hr => by
      exact (sso_cons (so_if (O := []) (ptd_val (pd_isinst (by rfl) T.z_isinstance (by rfl) T.z_list (by decide +kernel) (by decide) (dv 0)))
      (sso_one (so_ret (O := []) (pd_lc (own := [("_law_part", 1)]) rfl sc_law_copied.nd (pid_list (dv 0)) (blkOk_by (own := [("_law_part", 1)]) (N := ["_law_thing", "_law_part"]) (by kernel_rfl)) (gd1 (i := 1) (by decide)) (fun _ _ _ _ _ => (pg_name (i := 1) sc_law_copied.nd rfl (by first | exact Or.inl rfl | exact Or.inr rfl))) (fun _ _ _ _ _ => ptsd_nil) (fun _ _ _ _ _ => (pd_call (FnOk.weak ih) (hr.mono (Nat.le_refl _)) (by rfl) T.g_law_copied T.F_law_copied.kp T.b_law_copied (pad_cons (dv 1) pad_nil) (lenS len0))))))
      sso_nil)
      (sso_cons (so_if (O := []) (ptd_val (pd_isinst (by rfl) T.z_isinstance (by rfl) T.z_tuple (by decide +kernel) (by decide) (dv 0)))
      (sso_one (so_ret (O := []) (pd_callTy dTupleC call_tuple_of (by rfl) T.z_tuple (by decide +kernel) (pad_cons (pd_lc (own := [("_law_part", 1)]) rfl sc_law_copied.nd (pid_tup (dv 0)) (blkOk_by (own := [("_law_part", 1)]) (N := ["_law_thing", "_law_part"]) (by kernel_rfl)) (gd1 (i := 1) (by decide)) (fun _ _ _ _ _ => (pg_name (i := 1) sc_law_copied.nd rfl (by first | exact Or.inl rfl | exact Or.inr rfl))) (fun _ _ _ _ _ => ptsd_nil) (fun _ _ _ _ _ => (pd_call (FnOk.weak ih) (hr.mono (Nat.le_refl _)) (by rfl) T.g_law_copied T.F_law_copied.kp T.b_law_copied (pad_cons (dv 1) pad_nil) (lenS len0)))) pad_nil))))
      sso_nil)
      (sso_one (so_ret (O := []) (dv 0)))))
theorem ok_law_copied {P : Program} {w : World} {K : PySem.W.Frag} {mg : Str → Option Value} {base : Heap} {A : Ad} (T : Txt K mg A) (B : B base mg A) : FnOk P w K mg base CX0 8 A.f_law_copied A.fd_law_copied ["_law_thing"] (spPN K (tl A) false 1 M_law_copied) := okn_law_copied T B 7
def m_law_worth : SM := (sSeq (sSet 2 (ev false [] (dBin gIx (dVar 0) (dUn gNeg (dC (.int 1))))))
    (sSeq (sFor [] (dRng1 (dFn gLen (dCons (dVar 1) dNil))) (bd1 3) (sSet 2 (ev false [] (dBin gAdd (dVar 2) (dBin gMul (dBin gIx (dVar 0) (dVar 3)) (dBin gIx (dVar 1) (dVar 3)))))))
    (sRet (dVar 2))))
abbrev M_law_worth : List D → Option D := fnD 4 m_law_worth
theorem ok_law_worth {P : Program} {w : World} {K : PySem.W.Frag} {mg : Str → Option Value} {base : Heap} {A : Ad} (T : Txt K mg A) (B : B base mg A) : FnOk P w K mg base CX0 1 A.f_law_worth A.fd_law_worth ["_law_row", "_law_state_here"] (spPN K (tl A) false 2 M_law_worth) :=
  T.F_law_worth.okD (O' := []) (N := ["_law_row", "_law_state_here", "_law_total", "_law_k"]) (ps := ["_law_row", "_law_state_here"]) (k := 0) (nw := false) (m := m_law_worth) sc_law_worth fun A' outer s H E hr => by
    exact (sso_cons (so_set (O := []) (i := 2) (vw := false) sc_law_worth.nd rfl (by first | exact Or.inl rfl | exact Or.inr rfl) (pd_ix dIx ix_D (fun _ _ => rfl) (dv 0) (pd_un dNeg un_neg pd_int)))
      (sso_cons (so_for (O := []) (vs := [3]) (gd1 (i := 3) (by decide)) PassesOwn.never rfl (pid_range1 (by rfl) T.z_range (pd_callB dLen call_len_seq (by rfl) T.z_len PySem.boot_len (pad_cons (dv 1) pad_nil))) (pg_name (i := 3) sc_law_worth.nd rfl (by first | exact Or.inl rfl | exact Or.inr rfl))
      (sso_one (so_set (O := []) (i := 2) (vw := false) sc_law_worth.nd rfl (by first | exact Or.inl rfl | exact Or.inr rfl) (pd_bin dAdd op_addD (dv 2) (pd_bin dMul op_mulD (pd_ix dIx ix_D (fun _ _ => rfl) (dv 0) (dv 3)) (pd_ix dIx ix_D (fun _ _ => rfl) (dv 1) (dv 3)))))) (by decide))
      (sso_one (so_ret (O := []) (dv 2)))))
def m_law_led : SM := (sSeq (sFor [] (dLs (dBin gIx (dVar 0) (dC (.int 0)))) (bd1 2) (sIf (dB (dBin (gI pLt) (dFn M_law_worth (dCons (dVar 2) (dCons (dVar 1) dNil))) (dC (.int 0)))) (sRet (dC .non)) sNx))
    (sRet (dLc [2] (dLs (dBin gIx (dVar 0) (dC (.int 1)))) (bd1 2) tYesD (dFn M_law_worth (dCons (dVar 2) (dCons (dVar 1) dNil))))))
abbrev M_law_led : List D → Option D := fnD 3 m_law_led
theorem ok_law_led {P : Program} {w : World} {K : PySem.W.Frag} {mg : Str → Option Value} {base : Heap} {A : Ad} (T : Txt K mg A) (B : B base mg A) : FnOk P w K mg base CX0 2 A.f_law_led A.fd_law_led ["_law_way", "_law_state_here"] (spPN K (tl A) false 2 M_law_led) :=
  T.F_law_led.okD (O' := []) (N := ["_law_way", "_law_state_here", "_law_row"]) (ps := ["_law_way", "_law_state_here"]) (k := 1) (nw := false) (m := m_law_led) sc_law_led fun A' outer s H E hr => by
    exact (sso_cons (so_for (O := []) (vs := [2]) (gd1 (i := 2) (by decide)) PassesOwn.never rfl (pid_list (pd_ix dIx ix_D (fun _ _ => rfl) (dv 0) pd_int)) (pg_name (i := 2) sc_law_led.nd rfl (by first | exact Or.inl rfl | exact Or.inr rfl))
      (sso_one (so_if (O := []) (ptd_cmp (dI (p := pLt)) op_lt (nomark _) (pd_call (FnOk.weak (ok_law_worth T B)) (hr.mono (by decide)) (by rfl) T.g_law_worth T.F_law_worth.kp T.b_law_worth (pad_cons (dv 2) (pad_cons (dv 1) pad_nil)) (lenS (lenS len0))) pd_int)
      (sso_one (so_ret (O := []) pd_non))
      sso_nil)) (by decide))
      (sso_one (so_ret (O := []) (pd_lc (own := [("_law_row", 2)]) rfl sc_law_led.nd (pid_list (pd_ix dIx ix_D (fun _ _ => rfl) (dv 0) pd_int)) (blkOk_by (own := [("_law_row", 2)]) (N := ["_law_way", "_law_state_here", "_law_row"]) (by kernel_rfl)) (gd1 (i := 2) (by decide)) (fun _ _ _ _ _ => (pg_name (i := 2) sc_law_led.nd rfl (by first | exact Or.inl rfl | exact Or.inr rfl))) (fun _ _ _ _ _ => ptsd_nil) (fun _ _ _ _ _ => (pd_call (FnOk.weak (ok_law_worth T B)) (hr.mono (by decide)) (by rfl) T.g_law_worth T.F_law_worth.kp T.b_law_worth (pad_cons (dv 2) (pad_cons (dv 1) pad_nil)) (lenS (lenS len0))))))))
def m_law_word : SM := (sSeq (sTry errs (xEx (dCons (dVar 0) (dCons (dVar 1) (dCons (dVar 2) dNil))) M_after) tellE)
    (sRet (dC (.str ""))))
abbrev M_law_word : List D → Option D := fnD 4 m_law_word
theorem ok_law_word {P : Program} {w : World} {K : PySem.W.Frag} {mg : Str → Option Value} {base : Heap} {A : Ad} (T : Txt K mg A) (B : B base mg A) : FnOk P w K mg base CX0 12 A.f_law_word A.fd_law_word ["_law_loop", "_law_number", "_law_state_here"] (spPN K (tl A) false 3 M_law_word) :=
  T.F_law_word.okD (O' := []) (N := ["_law_loop", "_law_number", "_law_state_here", "_law_error"]) (ps := ["_law_loop", "_law_number", "_law_state_here"]) (k := 11) (nw := false) (m := m_law_word) sc_law_word fun A' outer s H E hr => by
    exact (sso_cons (so_tryWord (O := []) (cls := A.cls) (names := errs) (i := 3) (ok_law_name_of T) (hr.mono (by decide)) (by rfl) T.g_law_name_of T.F_law_name_of.kp T.b_law_name_of rfl rfl sc_law_word.nd rfl rfl ⟨rfl, by decide, Or.inl T.gx_LoopError⟩ takes0 T.exm (fun W pn xe tk _ => sso_one (so_exprX (O := []) (ok_after T B) (hr.mono (by decide)) tk (by rfl) T.g_after T.F_after.kp T.b_after (pad_cons (dv 0) (pad_cons (dv 1) (pad_cons (dv 2) pad_nil))) (lenS (lenS (lenS len0))))) (fun _ _ => pv 3) (fun _ _ => by rfl))
      (sso_one (so_ret (O := []) pd_str)))
def m_law_state : SM := (sSeq (sIf (dB (dBin (gEqv false) (dBin gMod (dVar 0) (dC (.int 5))) (dC (.int 4)))) (sRet (dLc [2] (dRng1 (dVar 1)) (bd1 2) tYesD (dBin gSub (dBin gMul (dFn M_law_drawn (dCons (dVar 0) (dCons (dVar 2) dNil))) (dBin gIx (dFn (fun ds => some (.lst ds)) (dCons (dC (.int 1)) (dCons (dBin gPow (dC (.int 10)) (dC (.int 3))) (dCons (dBin gPow (dC (.int 10)) (dC (.int 9))) dNil)))) (dBin gMod (dBin gFdiv (dVar 0) (dC (.int 5))) (dC (.int 3))))) (dBin gPow (dC (.int 10)) (dC (.int 9)))))) sNx)
    (sRet (dLc [2] (dRng1 (dVar 1)) (bd1 2) tYesD (dBin gSub (dBin gMod (dFn M_law_drawn (dCons (dVar 0) (dCons (dVar 2) dNil))) (dC (.int 81))) (dC (.int 40))))))
abbrev M_law_state : List D → Option D := fnD 3 m_law_state
theorem ok_law_state {P : Program} {w : World} {K : PySem.W.Frag} {mg : Str → Option Value} {base : Heap} {A : Ad} (T : Txt K mg A) (B : B base mg A) : FnOk P w K mg base CX0 2 A.f_law_state A.fd_law_state ["_law_cell", "_law_many"] (spPN K (tl A) false 2 M_law_state) :=
  T.F_law_state.okD (O' := []) (N := ["_law_cell", "_law_many", "_law_k"]) (ps := ["_law_cell", "_law_many"]) (k := 1) (nw := false) (m := m_law_state) sc_law_state fun A' outer s H E hr => by
    exact (sso_cons (so_if (O := []) (ptd_cmp dEq (op_eqD hr.units) (nomark _) (pd_bin dMod op_mod (dv 0) pd_int) pd_int)
      (sso_one (so_ret (O := []) (pd_lc (own := [("_law_k", 2)]) rfl sc_law_state.nd (pid_range1 (by rfl) T.z_range (dv 1)) (blkOk_by (own := [("_law_k", 2)]) (N := ["_law_cell", "_law_many", "_law_k"]) (by kernel_rfl)) (gd1 (i := 2) (by decide)) (fun _ _ _ _ _ => (pg_name (i := 2) sc_law_state.nd rfl (by first | exact Or.inl rfl | exact Or.inr rfl))) (fun _ _ _ _ _ => ptsd_nil) (fun _ _ _ _ _ => (pd_bin dSub op_sub (pd_bin dMul op_mulD (pd_call (FnOk.weak (ok_law_drawn T B)) (hr.mono (by decide)) (by rfl) T.g_law_drawn T.F_law_drawn.kp T.b_law_drawn (pad_cons (dv 0) (pad_cons (dv 2) pad_nil)) (lenS (lenS len0))) (pd_ix dIx ix_D (fun _ _ => rfl) (pd_lst (pad_cons pd_int (pad_cons (pd_bin dPow op_pow pd_int pd_int) (pad_cons (pd_bin dPow op_pow pd_int pd_int) pad_nil))) (lenL (lenS (lenS (lenS len0))) (by decide))) (pd_bin dMod op_mod (pd_bin dFdiv op_fdivW (dv 0) pd_int) pd_int))) (pd_bin dPow op_pow pd_int pd_int))))))
      sso_nil)
      (sso_one (so_ret (O := []) (pd_lc (own := [("_law_k", 2)]) rfl sc_law_state.nd (pid_range1 (by rfl) T.z_range (dv 1)) (blkOk_by (own := [("_law_k", 2)]) (N := ["_law_cell", "_law_many", "_law_k"]) (by kernel_rfl)) (gd1 (i := 2) (by decide)) (fun _ _ _ _ _ => (pg_name (i := 2) sc_law_state.nd rfl (by first | exact Or.inl rfl | exact Or.inr rfl))) (fun _ _ _ _ _ => ptsd_nil) (fun _ _ _ _ _ => (pd_bin dSub op_sub (pd_bin dMod op_mod (pd_call (FnOk.weak (ok_law_drawn T B)) (hr.mono (by decide)) (by rfl) T.g_law_drawn T.F_law_drawn.kp T.b_law_drawn (pad_cons (dv 0) (pad_cons (dv 2) pad_nil)) (lenS (lenS len0))) pd_int) pd_int))))))
def m_law_right : SM := (sSeq (sFor [] (dRng1 (dFn gLen (dCons (dBin gIx (dVar 0) (dC (.int 1))) dNil))) (bd1 2) (sSeq (sSet 3 (ev false [] (dFn M_law_led (dCons (dBin gIx (dBin gIx (dVar 0) (dC (.int 1))) (dVar 2)) (dCons (dVar 1) dNil)))))
    (sFor [] (dRng1 (dC (.int 2))) (bd1 4) (sSeq (sSet 5 (dFn (okOf M_after) (dCons (dVar 0) (dCons (dVar 2) (dCons (dVar 1) dNil)))))
    (sIf (tOrD (dB (dBin (gIsN false) (dVar 5) (dC .non))) (dB (dBin (gIsN false) (dVar 3) (dC .non)))) (sIf (tOrD (dB (dBin (gIsN true) (dVar 5) (dC .non))) (dB (dBin (gIsN true) (dVar 3) (dC .non)))) (sRet (dC (.bl false))) sNx) (sSeq (sNew 6 (dLc [7] (dLs (dVar 5)) (bd1 7) (tAndD (dB (dUn (gInst "int") (dVar 7))) (tNotD (dB (dUn (gInst "bool") (dVar 7))))) (dVar 7)))
    (sSeq (sIf (tOrD (tNotD (dB (dUn (gInst "list") (dVar 5)))) (tOrD (dB (dBin (gEqv true) (dVar 5) (dVar 3))) (dB (dBin (gEqv true) (dVar 6) (dVar 5))))) (sRet (dC (.bl false))) sNx)
    (sAppS 5 (ev false [6, 5] (dC (.int 0)))))))))))
    (sRet (dC (.bl true))))
abbrev M_law_right : List D → Option D := fnD 8 m_law_right
theorem ok_law_right {P : Program} {w : World} {K : PySem.W.Frag} {mg : Str → Option Value} {base : Heap} {A : Ad} (T : Txt K mg A) (B : B base mg A) : FnOk P w K mg base CX0 12 A.f_law_right A.fd_law_right ["_law_loop", "_law_state_here"] (spPN K (tl A) false 2 M_law_right) :=
  T.F_law_right.okD (O' := []) (N := ["_law_loop", "_law_state_here", "_law_number", "_law_due", "_law_turn", "_law_found", "_law_whole", "_law_one"]) (ps := ["_law_loop", "_law_state_here"]) (k := 11) (nw := false) (m := m_law_right) sc_law_right fun A' outer s H E hr => by
    exact (sso_cons (so_for (O := []) (vs := [2]) (gd1 (i := 2) (by decide)) PassesOwn.never rfl (pid_range1 (by rfl) T.z_range (pd_callB dLen call_len_seq (by rfl) T.z_len PySem.boot_len (pad_cons (pd_ix dIx ix_D (fun _ _ => rfl) (dv 0) pd_int) pad_nil))) (pg_name (i := 2) sc_law_right.nd rfl (by first | exact Or.inl rfl | exact Or.inr rfl))
      (sso_cons (so_set (O := []) (i := 3) (vw := false) sc_law_right.nd rfl (by first | exact Or.inl rfl | exact Or.inr rfl) (pd_call (FnOk.weak (ok_law_led T B)) (hr.mono (by decide)) (by rfl) T.g_law_led T.F_law_led.kp T.b_law_led (pad_cons (pd_ix dIx ix_D (fun _ _ => rfl) (pd_ix dIx ix_D (fun _ _ => rfl) (dv 0) pd_int) (dv 2)) (pad_cons (dv 1) pad_nil)) (lenS (lenS len0))))
      (sso_one (so_for (O := []) (vs := [4]) (gd1 (i := 4) (by decide)) PassesOwn.never rfl (pid_range1 (by rfl) T.z_range pd_int) (pg_name (i := 4) sc_law_right.nd rfl (by first | exact Or.inl rfl | exact Or.inr rfl))
      (sso_end (O2 := [(5, true)]) (sso_cons (so_newW (O := []) (i := 5) sc_law_right.nd rfl (by first | exact Or.inl rfl | exact Or.inr rfl) (pdw_call (FnOk.calm (ok_after T B)) (hr.mono (by decide)) (by rfl) T.g_after T.F_after.kp T.b_after (pad_cons (dv 0) (pad_cons (dv 2) (pad_cons (dv 1) pad_nil))) (lenS (lenS (lenS len0)))))
      (sso_one (so_if (O := [(5, true)]) (ptd_w (pwd_or (ptd_cmp dIsN op_isN (nomark _) (dv 5) pd_non) (pwd_or1 (ptd_cmp dIsN op_isN (nomark _) (dv 3) pd_non))))
      (sso_one (so_if (O := [(5, true)]) (ptd_w (pwd_or (ptd_cmp dNotN op_notN (nomark _) (dv 5) pd_non) (pwd_or1 (ptd_cmp dNotN op_notN (nomark _) (dv 3) pd_non))))
      (sso_one (so_ret (O := [(5, true)]) pd_bl))
      sso_nil))
      (sso_end (O2 := [(6, true), (5, true)]) (sso_cons (by first | exact so_newLc (O := [(5, true)]) (i := 6) (own := [("_law_one", 7)]) rfl sc_law_right.nd rfl rfl (sw_true rfl rfl rfl (by decide +kernel)) (pid_list (dv 5)) (blkOk_by (own := [("_law_one", 7)]) (N := ["_law_loop", "_law_state_here", "_law_number", "_law_due", "_law_turn", "_law_found", "_law_whole", "_law_one"]) (by kernel_rfl)) (gd1 (i := 7) (by decide)) (fun _ _ _ _ _ => (pg_name (i := 7) sc_law_right.nd rfl (by first | exact Or.inl rfl | exact Or.inr rfl))) (fun _ _ _ _ _ => (ptsd_one (ptd_w (pwd_and (ptd_val (pd_isinst (by rfl) T.z_isinstance (by rfl) T.z_int (by decide +kernel) (by decide) (dv 7))) (pwd_and1 (ptd_not (ptd_val (pd_isinst (by rfl) T.z_isinstance (by rfl) T.z_bool (by decide +kernel) (by decide) (dv 7))))))))) (fun _ _ _ _ _ => (dv 7)) | exact so_new (O := [(5, true)]) (i := 6) sc_law_right.nd rfl (by first | exact Or.inl rfl | exact Or.inr rfl) (pdn_lc (own := [("_law_one", 7)]) rfl sc_law_right.nd (pid_list (dv 5)) (blkOk_by (own := [("_law_one", 7)]) (N := ["_law_loop", "_law_state_here", "_law_number", "_law_due", "_law_turn", "_law_found", "_law_whole", "_law_one"]) (by kernel_rfl)) (gd1 (i := 7) (by decide)) (fun _ _ _ _ _ => (pg_name (i := 7) sc_law_right.nd rfl (by first | exact Or.inl rfl | exact Or.inr rfl))) (fun _ _ _ _ _ => (ptsd_one (ptd_w (pwd_and (ptd_val (pd_isinst (by rfl) T.z_isinstance (by rfl) T.z_int (by decide +kernel) (by decide) (dv 7))) (pwd_and1 (ptd_not (ptd_val (pd_isinst (by rfl) T.z_isinstance (by rfl) T.z_bool (by decide +kernel) (by decide) (dv 7))))))))) (fun _ _ _ _ _ => (dv 7))))
      (sso_cons (so_if (O := [(6, true), (5, true)]) (ptd_w (pwd_or (ptd_not (ptd_val (pd_isinst (by rfl) T.z_isinstance (by rfl) T.z_list (by decide +kernel) (by decide) (dv 5)))) (pwd_or (ptd_cmp dNe (op_neD hr.units) (nomark _) (dv 5) (dv 3)) (pwd_or1 (ptd_cmp dNe (op_neD hr.units) (nomark _) (dv 6) (dv 5))))))
      (sso_one (so_ret (O := [(6, true), (5, true)]) pd_bl))
      sso_nil)
      (sso_one (so_appS (O := [(6, true), (5, true)]) (i := 5) (b := true) (vw := false) (by decide) (by decide) (pv 5) pd_int)))) (by decide))))) (by decide)) (by decide)))) (by decide))
      (sso_one (so_ret (O := []) pd_bl)))
def m_law : SM := (sSeq (sSet 1 (ev false [] (dFn M_law_loop_by (dCons (dVar 0) (dCons (dC (.int 2)) dNil)))))
    (sSeq (sSet 2 (ev false [] (dBin gIx (dVar 1) (dC (.int 0)))))
    (sSeq (sSet 3 (ev false [] (dFn M_law_copied (dCons (dVar 1) dNil))))
    (sSeq (sFor [] (dLs (dSl (dVar 0) (dPart (dC (.int 6))) (dPart (dC (.int 16))))) (bd1 4) (sSeq (sSet 5 (ev false [] (dFn M_law_state (dCons (dVar 4) (dCons (dVar 2) dNil)))))
    (sSeq (sSet 6 (ev false [] (dFn gList (dCons (dVar 5) dNil))))
    (sIf (tOrD (tNotD (dB (dFn M_law_right (dCons (dVar 1) (dCons (dVar 6) dNil))))) (tOrD (dB (dBin (gEqv true) (dVar 6) (dVar 5))) (dB (dBin (gEqv true) (dVar 1) (dVar 3))))) (sRet (dC (.bl false))) sNx))))
    (sSeq (sSet 4 (ev false [] (dFn M_law_cell_at (dCons (dVar 0) (dCons (dC (.int 0)) dNil)))))
    (sSeq (sSet 7 (ev false [] (dFn gLen (dCons (dBin gIx (dVar 1) (dC (.int 1))) dNil))))
    (sSeq (sSet 8 (ev false [] (dBin gIx (dFn (fun ds => some (.lst ds)) (dCons (dVar 7) (dCons (dUn gNeg (dC (.int 1))) (dCons (dBin gAdd (dVar 7) (dBin gMod (dBin gFdiv (dVar 4) (dC (.int 8))) (dBin gPow (dC (.int 10)) (dC (.int 9))))) (dCons (dC (.bl true)) (dCons (dC .non) (dCons (dC (.str "0")) (dCons (dFn (fun ds => some (.lst ds)) (dCons (dC (.int 0)) dNil)) (dCons (dBin gSub (dUn gNeg (dC (.int 1))) (dBin gMod (dBin gFdiv (dVar 4) (dC (.int 8))) (dBin gPow (dC (.int 10)) (dC (.int 9))))) dNil))))))))) (dBin gMod (dVar 4) (dC (.int 8))))))
    (sSeq (sSet 9 (ev false [] (dBin gMul (dFn (fun ds => some (.lst ds)) (dCons (dC (.int 0)) dNil)) (dVar 2))))
    (sSeq (sSet 10 (ev false [] (dBin gMod (dBin gFdiv (dVar 4) (dC (.int 64))) (dVar 2))))
    (sSeq (sSet 11 (ev false [] (dBin gIx (dFn (fun ds => some (.lst ds)) (dCons (dC .non) (dCons (dC (.bl true)) (dCons (dC (.str "0")) (dCons (dFn (fun ds => some (.lst ds)) (dCons (dC (.int 0)) dNil)) (dCons (dFn (fun ds => some (.tup ds)) (dCons (dC (.int 0)) dNil)) (dCons (dC (.bl false)) dNil))))))) (dBin gMod (dBin gFdiv (dVar 4) (dC (.int 256))) (dC (.int 6))))))
    (sSeq (sSet 12 (ev false [] (dFn (fun ds => some (.lst ds)) (dCons (dBin gAdd (dVar 9) (dFn (fun ds => some (.lst ds)) (dCons (dC (.int 0)) dNil))) (dCons (dSl (dVar 9) (dPart (dC (.int 1))) dNoP) (dCons (dFn gTuple (dCons (dVar 9) dNil)) (dCons (dC .non) (dCons (dC (.int 0)) (dCons (dC (.str "0")) (dCons (dC .dct) (dCons (dBin gAdd (dBin gAdd (dSl (dVar 9) dNoP (dPart (dVar 10))) (dFn (fun ds => some (.lst ds)) (dCons (dVar 11) dNil))) (dSl (dVar 9) (dPart (dBin gAdd (dVar 10) (dC (.int 1)))) dNoP)) dNil)))))))))))
    (sSeq (sSet 5 (ev false [] (dBin gIx (dVar 12) (dBin gMod (dFn M_law_cell_at (dCons (dVar 0) (dCons (dC (.int 1)) dNil))) (dC (.int 8))))))
    (sSeq (sIf (tOrD (dB (dBin (gEqv true) (dFn M_law_word (dCons (dVar 1) (dCons (dVar 8) (dCons (dVar 9) dNil)))) (dC (.str "count ")))) (dB (dBin (gEqv true) (dFn M_law_word (dCons (dVar 1) (dCons (dVar 8) (dCons (dVar 5) dNil)))) (dC (.str "count "))))) (sRet (dC (.bl false))) sNx)
    (sRet (dAnd (dBin (gEqv false) (dFn M_law_word (dCons (dVar 1) (dCons (dBin gSub (dVar 7) (dC (.int 1))) (dCons (dVar 5) dNil)))) (dC (.str "state "))) (dBin (gEqv false) (dVar 1) (dVar 3)))))))))))))))))
abbrev M_law : List D → Option D := fnD 13 m_law
theorem ok_law {P : Program} {w : World} {K : PySem.W.Frag} {mg : Str → Option Value} {base : Heap} {A : Ad} (T : Txt K mg A) (B : B base mg A) : FnOk P w K mg base CX0 13 A.f_law A.fd_law ["_law_script"] (spPN K (tl A) false 1 M_law) :=
  T.F_law.okD (O' := []) (N := ["_law_script", "_law_loop", "_law_many", "_law_kept", "_law_cell", "_law_state_here", "_law_handed", "_law_size", "_law_number", "_law_good", "_law_at", "_law_odd", "_law_some"]) (ps := ["_law_script"]) (k := 12) (nw := false) (m := m_law) sc_law fun A' outer s H E hr => by
    exact (sso_cons (so_set (O := []) (i := 1) (vw := false) sc_law.nd rfl (by first | exact Or.inl rfl | exact Or.inr rfl) (pd_call (FnOk.weak (ok_law_loop_by T B)) (hr.mono (by decide)) (by rfl) T.g_law_loop_by T.F_law_loop_by.kp T.b_law_loop_by (pad_cons (dv 0) (pad_cons pd_int pad_nil)) (lenS (lenS len0))))
      (sso_cons (so_set (O := []) (i := 2) (vw := false) sc_law.nd rfl (by first | exact Or.inl rfl | exact Or.inr rfl) (pd_ix dIx ix_D (fun _ _ => rfl) (dv 1) pd_int))
      (sso_cons (so_set (O := []) (i := 3) (vw := false) sc_law.nd rfl (by first | exact Or.inl rfl | exact Or.inr rfl) (pd_call (FnOk.weak (ok_law_copied T B)) (hr.mono (by decide)) (by rfl) T.g_law_copied T.F_law_copied.kp T.b_law_copied (pad_cons (dv 1) pad_nil) (lenS len0)))
      (sso_cons (so_for (O := []) (vs := [4]) (gd1 (i := 4) (by decide)) PassesOwn.never rfl (pid_list (pd_slice (dv 0) (pod_some pd_int) (pod_some pd_int))) (pg_name (i := 4) sc_law.nd rfl (by first | exact Or.inl rfl | exact Or.inr rfl))
      (sso_cons (so_set (O := []) (i := 5) (vw := false) sc_law.nd rfl (by first | exact Or.inl rfl | exact Or.inr rfl) (pd_call (FnOk.weak (ok_law_state T B)) (hr.mono (by decide)) (by rfl) T.g_law_state T.F_law_state.kp T.b_law_state (pad_cons (dv 4) (pad_cons (dv 2) pad_nil)) (lenS (lenS len0))))
      (sso_cons (so_set (O := []) (i := 6) (vw := false) sc_law.nd rfl (by first | exact Or.inl rfl | exact Or.inr rfl) (pd_callTy dListC call_list_of (by rfl) T.z_list (by decide +kernel) (pad_cons (dv 5) pad_nil)))
      (sso_one (so_if (O := []) (ptd_w (pwd_or (ptd_not (ptd_val (pd_call (FnOk.weak (ok_law_right T B)) (hr.mono (by decide)) (by rfl) T.g_law_right T.F_law_right.kp T.b_law_right (pad_cons (dv 1) (pad_cons (dv 6) pad_nil)) (lenS (lenS len0))))) (pwd_or (ptd_cmp dNe (op_neD hr.units) (nomark _) (dv 6) (dv 5)) (pwd_or1 (ptd_cmp dNe (op_neD hr.units) (nomark _) (dv 1) (dv 3))))))
      (sso_one (so_ret (O := []) pd_bl))
      sso_nil)))) (by decide))
      (sso_cons (so_set (O := []) (i := 4) (vw := false) sc_law.nd rfl (by first | exact Or.inl rfl | exact Or.inr rfl) (pd_call (FnOk.weak (ok_law_cell_at T B)) (hr.mono (by decide)) (by rfl) T.g_law_cell_at T.F_law_cell_at.kp T.b_law_cell_at (pad_cons (dv 0) (pad_cons pd_int pad_nil)) (lenS (lenS len0))))
      (sso_cons (so_set (O := []) (i := 7) (vw := false) sc_law.nd rfl (by first | exact Or.inl rfl | exact Or.inr rfl) (pd_callB dLen call_len_seq (by rfl) T.z_len PySem.boot_len (pad_cons (pd_ix dIx ix_D (fun _ _ => rfl) (dv 1) pd_int) pad_nil)))
      (sso_cons (so_set (O := []) (i := 8) (vw := false) sc_law.nd rfl (by first | exact Or.inl rfl | exact Or.inr rfl) (pd_ix dIx ix_D (fun _ _ => rfl) (pd_lst (pad_cons (dv 7) (pad_cons (pd_un dNeg un_neg pd_int) (pad_cons (pd_bin dAdd op_addD (dv 7) (pd_bin dMod op_mod (pd_bin dFdiv op_fdivW (dv 4) pd_int) (pd_bin dPow op_pow pd_int pd_int))) (pad_cons pd_bl (pad_cons pd_non (pad_cons pd_str (pad_cons (pd_lst (pad_cons pd_int pad_nil) (lenL (lenS len0) (by decide))) (pad_cons (pd_bin dSub op_sub (pd_un dNeg un_neg pd_int) (pd_bin dMod op_mod (pd_bin dFdiv op_fdivW (dv 4) pd_int) (pd_bin dPow op_pow pd_int pd_int))) pad_nil)))))))) (lenL (lenS (lenS (lenS (lenS (lenS (lenS (lenS (lenS len0)))))))) (by decide))) (pd_bin dMod op_mod (dv 4) pd_int)))
      (sso_cons (so_set (O := []) (i := 9) (vw := false) sc_law.nd rfl (by first | exact Or.inl rfl | exact Or.inr rfl) (pd_bin dMul op_mulD (pd_lst (pad_cons pd_int pad_nil) (lenL (lenS len0) (by decide))) (dv 2)))
      (sso_cons (so_set (O := []) (i := 10) (vw := false) sc_law.nd rfl (by first | exact Or.inl rfl | exact Or.inr rfl) (pd_bin dMod op_mod (pd_bin dFdiv op_fdivW (dv 4) pd_int) (dv 2)))
      (sso_cons (so_set (O := []) (i := 11) (vw := false) sc_law.nd rfl (by first | exact Or.inl rfl | exact Or.inr rfl) (pd_ix dIx ix_D (fun _ _ => rfl) (pd_lst (pad_cons pd_non (pad_cons pd_bl (pad_cons pd_str (pad_cons (pd_lst (pad_cons pd_int pad_nil) (lenL (lenS len0) (by decide))) (pad_cons (pd_tup (pad_cons pd_int pad_nil) (lenL (lenS len0) (by decide))) (pad_cons pd_bl pad_nil)))))) (lenL (lenS (lenS (lenS (lenS (lenS (lenS len0)))))) (by decide))) (pd_bin dMod op_mod (pd_bin dFdiv op_fdivW (dv 4) pd_int) pd_int)))
      (sso_cons (so_set (O := []) (i := 12) (vw := false) sc_law.nd rfl (by first | exact Or.inl rfl | exact Or.inr rfl) (pd_lst (pad_cons (pd_bin dAdd op_addD (dv 9) (pd_lst (pad_cons pd_int pad_nil) (lenL (lenS len0) (by decide)))) (pad_cons (pd_slice (dv 9) (pod_some pd_int) pod_none) (pad_cons (pd_callTy dTupleC call_tuple_of (by rfl) T.z_tuple (by decide +kernel) (pad_cons (dv 9) pad_nil)) (pad_cons pd_non (pad_cons pd_int (pad_cons pd_str (pad_cons pd_dct (pad_cons (pd_bin dAdd op_addD (pd_bin dAdd op_addD (pd_slice (dv 9) pod_none (pod_some (dv 10))) (pd_lst (pad_cons (dv 11) pad_nil) (lenL (lenS len0) (by decide)))) (pd_slice (dv 9) (pod_some (pd_bin dAdd op_addD (dv 10) pd_int)) pod_none)) pad_nil)))))))) (lenL (lenS (lenS (lenS (lenS (lenS (lenS (lenS (lenS len0)))))))) (by decide))))
      (sso_cons (so_set (O := []) (i := 5) (vw := false) sc_law.nd rfl (by first | exact Or.inl rfl | exact Or.inr rfl) (pd_ix dIx ix_D (fun _ _ => rfl) (dv 12) (pd_bin dMod op_mod (pd_call (FnOk.weak (ok_law_cell_at T B)) (hr.mono (by decide)) (by rfl) T.g_law_cell_at T.F_law_cell_at.kp T.b_law_cell_at (pad_cons (dv 0) (pad_cons pd_int pad_nil)) (lenS (lenS len0))) pd_int)))
      (sso_cons (so_if (O := []) (ptd_w (pwd_or (ptd_cmp dNe (op_neD hr.units) (nomark _) (pd_call (FnOk.weak (ok_law_word T B)) (hr.mono (by decide)) (by rfl) T.g_law_word T.F_law_word.kp T.b_law_word (pad_cons (dv 1) (pad_cons (dv 8) (pad_cons (dv 9) pad_nil))) (lenS (lenS (lenS len0)))) pd_str) (pwd_or1 (ptd_cmp dNe (op_neD hr.units) (nomark _) (pd_call (FnOk.weak (ok_law_word T B)) (hr.mono (by decide)) (by rfl) T.g_law_word T.F_law_word.kp T.b_law_word (pad_cons (dv 1) (pad_cons (dv 8) (pad_cons (dv 5) pad_nil))) (lenS (lenS (lenS len0)))) pd_str))))
      (sso_one (so_ret (O := []) pd_bl))
      sso_nil)
      (sso_one (so_ret (O := []) (pd_and (pd_cmp dEq (op_eqD hr.units) (nomark _) (pd_call (FnOk.weak (ok_law_word T B)) (hr.mono (by decide)) (by rfl) T.g_law_word T.F_law_word.kp T.b_law_word (pad_cons (dv 1) (pad_cons (pd_bin dSub op_sub (dv 7) pd_int) (pad_cons (dv 5) pad_nil))) (lenS (lenS (lenS len0)))) pd_str) (pd_one (pd_cmp dEq (op_eqD hr.units) (nomark _) (dv 1) (dv 3)))))))))))))))))))
end K02

set_option Elab.async false
set_option linter.all false
set_option maxRecDepth 100000
set_option maxHeartbeats 400000
/-! What the mirrors come to, step by step. -/
namespace DN
open PySem PySem.Spec PyProof.Rows L2
section
variable {ρ ρ1 ρ2 : Env} {m a b c : DM} {d e f x y z : D} {s t : SM} {o : Out} {k l : Bool} {i j : Nat} {g : D → D → Option D}
theorem e_seq (h : s ρ = some (.nx ρ1)) (h2 : t ρ1 = some o) : sSeq s t ρ = some o := by unfold sSeq; rw [h]; exact h2
theorem e_seqR (h : s ρ = some (.rt d)) : sSeq s t ρ = some (.rt d) := by unfold sSeq; rw [h]; rfl
theorem e_seqX {n : Str} (h : s ρ = some (.ex n)) : sSeq s t ρ = some (.ex n) := by unfold sSeq; rw [h]; rfl
theorem e_set (h : m ρ = some d) : sSet i (ev false [] m) ρ = some (.nx (ρ.set i (some d))) := by unfold sSet ev; simp only [Bool.false_eq_true, if_false]; rw [show wipeD ρ [] = ρ from rfl, h]; rfl
theorem e_new (h : m ρ = some d) (hf : Flat d = true) : sNew i m ρ = some (.nx (ρ.set i (some d))) := by unfold sNew; rw [h]; simp [hf]
theorem e_ret (h : m ρ = some d) : sRet m ρ = some (.rt d) := by unfold sRet; rw [h]; rfl
theorem e_if {c : Env → Option Bool} (h : c ρ = some k) (h2 : (if k = true then s ρ else t ρ) = some o) : sIf c s t ρ = some o := by unfold sIf; rw [h]; exact h2
theorem e_ifT {c : Env → Option Bool} (h : c ρ = some true) (h2 : s ρ = some o) : sIf c s t ρ = some o := e_if h h2
theorem e_ifF {c : Env → Option Bool} (h : c ρ = some false) (h2 : t ρ = some o) : sIf c s t ρ = some o := e_if h h2
theorem e_asg {bd : D → Env → Option Env} (h : m ρ = some d) (h2 : bd d ρ = some ρ1) : sAsg [] bd m ρ = some (.nx ρ1) := by unfold sAsg; rw [show wipeD ρ [] = ρ from rfl, h]; simp [h2, mrg]
theorem e_bin (h : a ρ = some x) (h2 : b ρ = some y) (h3 : g x y = some z) : dBin g a b ρ = some z := by unfold dBin; rw [h, h2]; exact h3
theorem e_un {u : D → Option D} (h : a ρ = some x) (h2 : u x = some z) : dUn u a ρ = some z := by unfold dUn; rw [h]; exact h2
theorem e_fn {u : List D → Option D} {as : Env → Option (List D)} {ds : List D} (h : as ρ = some ds) (h2 : u ds = some z) : dFn u as ρ = some z := by unfold dFn; rw [h]; exact h2
theorem e_nil : dNil ρ = some [] := rfl
theorem e_cons {as : Env → Option (List D)} {ds : List D} (h : a ρ = some x) (h2 : as ρ = some ds) : dCons a as ρ = some (x :: ds) := by unfold dCons; rw [h, h2]; rfl
theorem e_c : dC d ρ = some d := rfl
theorem e_b (h : m ρ = some (.bl k)) : dB m ρ = some k := by unfold dB; rw [h]; rfl
theorem e_notT {c : Env → Option Bool} (h : c ρ = some k) : tNotD c ρ = some (!k) := by unfold tNotD; rw [h]; rfl
theorem e_not (h : m ρ = some (.bl k)) : dNot m ρ = some (.bl (!k)) := by unfold dNot; rw [e_b h]; rfl
theorem e_and (h : a ρ = some (.bl k)) (h2 : k = true → b ρ = some (.bl l)) : dAnd a b ρ = some (.bl (k && l)) := by
  unfold dAnd; rw [e_b h]
  cases k with
  | true => simp only [Option.bind_some, if_true]; rw [e_b (h2 rfl)]; rfl
  | false => rfl
theorem e_or (h : a ρ = some (.bl k)) (h2 : k = false → b ρ = some (.bl l)) : dOr a b ρ = some (.bl (k || l)) := by
  unfold dOr; rw [e_b h]
  cases k with
  | false => simp only [Option.bind_some, Bool.false_eq_true, if_false]; rw [e_b (h2 rfl)]; rfl
  | true => rfl
theorem e_andT {c c' : Env → Option Bool} (h : c ρ = some k) (h2 : k = true → c' ρ = some l) : tAndD c c' ρ = some (k && l) := by
  unfold tAndD; rw [h]
  cases k with
  | true => exact h2 rfl
  | false => rfl
theorem e_orT {c c' : Env → Option Bool} (h : c ρ = some k) (h2 : k = false → c' ρ = some l) : tOrD c c' ρ = some (k || l) := by
  unfold tOrD; rw [h]
  cases k with
  | false => exact h2 rfl
  | true => rfl
theorem e_chain {g' : D → D → Option D} {r : Bool} (h : a ρ = some x) (h2 : b ρ = some y) (h3 : g x y = some (.bl k)) (h4 : k = true → c ρ = some z) (h5 : k = true → g' y z = some (.bl r)) : dChain g g' a b c ρ = some (.bl (k && r)) := by
  unfold dChain; rw [h, h2]
  simp only [Option.bind_some, h3, toB]
  cases k with
  | true => rw [if_pos rfl, h4 rfl]; exact h5 rfl
  | false => rfl
theorem e_ls {ds : List D} (h : m ρ = some (.lst ds)) : dLs m ρ = some ds := by unfold dLs; rw [h]; rfl
theorem e_tu {ds : List D} (h : m ρ = some (.tup ds)) : dTu m ρ = some ds := by unfold dTu; rw [h]; rfl
theorem e_scr {ns : List Int} (h : m ρ = some (.scr ns)) : dLs m ρ = some (ns.map .int) := by unfold dLs; rw [h]; rfl
def rng (n : Nat) : List D := (List.range n).map fun k => .int (k : Nat)
theorem rng_eq (n : Nat) : rangeD 0 n = rng n := by
  unfold rangeD rng
  simp
theorem rng_bnd (n : Nat) (hn : n ≤ 1000000) : (-(2 ^ 62 : Int) ≤ (n : Int) ∧ (n : Int) < 2 ^ 62) := by omega
theorem e_rngJ {j : Int} (h : m ρ = some (.int j)) (hb : -(2 ^ 62 : Int) ≤ j ∧ j < 2 ^ 62) : dRng1 m ρ = some (rangeD 0 j) := by
  unfold dRng1
  rw [h]
  simp only [Option.bind_some]
  exact if_pos hb
theorem e_rng {n : Nat} (h : m ρ = some (.int (n : Nat))) (hn : n ≤ 1000000) : dRng1 m ρ = some (rng n) := (e_rngJ h (rng_bnd n hn)).trans (congrArg some (rng_eq n))
/-! comprehensions -/
theorem lcGo_map {α : Type} {i : Nat} {f : α → D} {emb : α → D} : ∀ {l : List α}, (∀ x ∈ l, m (ρ.set i (some (emb x))) = some (f x)) → lcGo (bd1 i) tYesD m ρ (l.map emb) = some (l.map f)
  | [], _ => rfl
  | x :: l, h => by
    rw [List.map_cons, lcGo]
    have h1 := h x List.mem_cons_self
    have h2 := lcGo_map (l := l) fun y hy => h y (List.mem_cons_of_mem _ hy)
    simp only [bd1, tYesD, Option.bind_some, if_true, h1, h2, List.map_cons]
theorem e_lc {α : Type} {f : α → D} {emb : α → D} {l : List α} {mi : Env → Option (List D)} (h : mi ρ = some (l.map emb)) (hl : l.length < 1000000) (hm : ∀ x ∈ l, m ((ρ.set i none).set i (some (emb x))) = some (f x)) : dLc [i] mi (bd1 i) tYesD m ρ = some (.lst (l.map f)) := by
  unfold dLc; rw [h]
  simp only [Option.bind_some]
  rw [show wipeD ρ [i] = ρ.set i none from rfl, lcGo_map hm]
  simp [hl]
theorem lcGo_all {i : Nat} {tt : Env → Option Bool} : ∀ {ds : List D}, (∀ x ∈ ds, tt (ρ.set i (some x)) = some true ∧ m (ρ.set i (some x)) = some x) → lcGo (bd1 i) tt m ρ ds = some ds
  | [], _ => rfl
  | x :: l, h => by
    rw [lcGo]
    have h1 := h x List.mem_cons_self
    have h2 := lcGo_all (ds := l) fun y hy => h y (List.mem_cons_of_mem _ hy)
    simp only [bd1, Option.bind_some, h1.1, if_true, h1.2, h2]
theorem e_lcAll {tt : Env → Option Bool} {ds : List D} {mi : Env → Option (List D)} (h : mi ρ = some ds) (hl : ds.length < 1000000) (hm : ∀ x ∈ ds, tt ((ρ.set i none).set i (some x)) = some true ∧ m ((ρ.set i none).set i (some x)) = some x) : dLc [i] mi (bd1 i) tt m ρ = some (.lst ds) := by
  unfold dLc; rw [h]
  simp only [Option.bind_some]
  rw [show wipeD ρ [i] = ρ.set i none from rfl, lcGo_all hm]
  simp [hl]
/-! all, sum -/
theorem anyGo_all {α : Type} {i : Nat} {p : α → Bool} {emb : α → D} : ∀ {l : List α}, (∀ x ∈ l, m (ρ.set i (some (emb x))) = some (.bl (p x))) → anyGo true (bd1 i) tYesD m ρ (l.map emb) = some (.bl (l.all p))
  | [], _ => rfl
  | x :: l, h => by
    rw [List.map_cons, anyGo]
    have h1 := e_b (h x List.mem_cons_self)
    have h2 := anyGo_all (l := l) fun y hy => h y (List.mem_cons_of_mem _ hy)
    simp only [bd1, tYesD, Option.bind_some, if_true, h1, h2, List.all_cons]
    cases p x <;> simp
theorem e_all {α : Type} {n : Nat} {is : List Nat} {p : α → Bool} {emb : α → D} {l : List α} {mi : Env → Option (List D)} (h : mi ρ = some (l.map emb)) (hm : ∀ x ∈ l, m ((captD ρ n is).set i (some (emb x))) = some (.bl (p x))) : dQ true n is mi (bd1 i) tYesD m ρ = some (.bl (l.all p)) := by
  unfold dQ; rw [h]; exact anyGo_all hm
/-! loops -/
theorem e_for {mi : Env → Option (List D)} {bd : D → Env → Option Env} {ds : List D} (h : mi ρ = some ds) (h2 : forGo [] bd s ds ρ = some o) : sFor [] mi bd s ρ = some o := by
  unfold sFor; rw [show wipeD ρ [] = ρ from rfl, h]; exact h2
theorem for_cons {bd : D → Env → Option Env} {ds : List D} (h : bd d ρ = some ρ1) (h2 : s ρ1 = some (.nx ρ2)) (h3 : forGo [] bd s ds ρ2 = some o) : forGo [] bd s (d :: ds) ρ = some o := by
  rw [forGo, show wipeD ρ [] = ρ from rfl, h]
  simp only [Option.bind_some, mrg, h2]
  exact h3
theorem for_rt {bd : D → Env → Option Env} {ds : List D} (h : bd d ρ = some ρ1) (h2 : s ρ1 = some (.rt e)) : forGo [] bd s (d :: ds) ρ = some (.rt e) := by
  rw [forGo, show wipeD ρ [] = ρ from rfl, h]
  simp only [Option.bind_some, mrg, h2]
/-- by an invariant -/
theorem for_inv {bd : D → Env → Option Env} {P : Env → Prop} : ∀ {ds : List D} {ρ : Env}, P ρ → (∀ d ∈ ds, ∀ ρ, P ρ → ∃ ρ1 ρ2, bd d ρ = some ρ1 ∧ s ρ1 = some (.nx ρ2) ∧ P ρ2) → ∃ ρ', forGo [] bd s ds ρ = some (.nx ρ') ∧ P ρ'
  | [], ρ, h, _ => ⟨ρ, rfl, h⟩
  | d :: ds, ρ, h, hb => by
    obtain ⟨ρ1, ρ2, h1, h2, h3⟩ := hb d List.mem_cons_self ρ h
    obtain ⟨ρ', h4, h5⟩ := for_inv h3 fun e he => hb e (List.mem_cons_of_mem _ he)
    exact ⟨ρ', for_cons h1 h2 h4, h5⟩
end
/-! operators -/
theorem o_add {a b : Int} : gAdd (.int a) (.int b) = some (.int (a + b)) := rfl
theorem o_cat {a b : List D} (h : a.length + b.length ≤ 1000000) : gAdd (.lst a) (.lst b) = some (.lst (a ++ b)) := if_pos h
theorem o_sub {a b : Int} : gSub (.int a) (.int b) = some (.int (a - b)) := rfl
theorem o_mulR {a b : Int} (h : b.natAbs < 18446744073709551616) : gMul (.int a) (.int b) = some (.int (a * b)) := by
  unfold gMul mulOk; simp [h]
theorem o_mulL {a b : Int} (h : a.natAbs < 18446744073709551616) : gMul (.int a) (.int b) = some (.int (a * b)) := by
  unfold gMul mulOk; simp [h]
theorem o_rep {ds : List D} {n : Nat} (h : n < 1000) (h2 : ds.length * n ≤ 1000000) : gMul (.lst ds) (.int (n : Nat)) = some (.lst (List.replicate n ds).flatten) := by
  show (if _ then _ else _) = _
  rw [if_pos ⟨by omega, by omega, by simpa using h2⟩]
  simp
theorem o_div {a b : Int} (h : 0 < b) (h2 : b.natAbs.log2 < 9000) : gFdiv (.int a) (.int b) = some (.int (a / b)) := if_pos ⟨h, h2⟩
theorem o_mod {a b : Int} (h : 0 < b) : gMod (.int a) (.int b) = some (.int (a % b)) := if_pos h
theorem o_eqI {a b : Int} : gEqv false (.int a) (.int b) = some (.bl (a == b)) := by
  unfold gEqv; simp [toPy, SeqAt.shaped, PyData.canLay0, PyData.depth, PyData.eqv]
theorem o_neI {a b : Int} : gEqv true (.int a) (.int b) = some (.bl (!(a == b))) := by
  unfold gEqv; simp [toPy, SeqAt.shaped, PyData.canLay0, PyData.depth, PyData.eqv]
/-- data that may be compared with itself -/
def EqOk (n : Nat) (d : D) : Prop := ∃ p, toPy d = some p ∧ p.canLay0 = true ∧ p.depth ≤ n
theorem eq_int {n : Nat} {i : Int} : EqOk n (.int i) := ⟨_, rfl, by simp [PyData.canLay0], by simp [PyData.depth]⟩
theorem eq_non {n : Nat} : EqOk n .non := ⟨_, rfl, by simp [PyData.canLay0], by simp [PyData.depth]⟩
theorem eq_all {n : Nat} : ∀ {ds : List D}, (∀ d ∈ ds, EqOk n d) → ∃ ps, toPys ds = some ps ∧ PyData.canLayAll0 ps = true ∧ PyData.depthAll ps ≤ n
  | [], _ => ⟨[], by simp [toPys], by simp [PyData.canLayAll0], by simp [PyData.depthAll]⟩
  | d :: ds, h => by
    obtain ⟨p, h1, h2, h3⟩ := h d List.mem_cons_self
    obtain ⟨ps, h4, h5, h6⟩ := eq_all (ds := ds) fun e he => h e (List.mem_cons_of_mem _ he)
    exact ⟨p :: ps, by simp [toPys, h1, h4], by simp [PyData.canLayAll0, h2, h5], by simp only [PyData.depthAll]; omega⟩
theorem eq_lst {n : Nat} {ds : List D} (h : ∀ d ∈ ds, EqOk n d) : EqOk (n + 1) (.lst ds) := by
  obtain ⟨ps, h1, h2, h3⟩ := eq_all h
  exact ⟨.list ps, by simp [toPy, h1], by simpa [PyData.canLay0] using h2, by simp only [PyData.depth]; omega⟩
theorem eq_tup {n : Nat} {ds : List D} (h : ∀ d ∈ ds, EqOk n d) : EqOk (n + 1) (.tup ds) := by
  obtain ⟨ps, h1, h2, h3⟩ := eq_all h
  exact ⟨.tuple ps, by simp [toPy, h1], by simpa [PyData.canLay0] using h2, by simp only [PyData.depth]; omega⟩
theorem o_self {n : Nat} {d : D} (h : EqOk n d) (hn : n ≤ 64) (neg : Bool) : gEqv neg d d = some (.bl (!neg)) := by
  obtain ⟨p, h1, h2, h3⟩ := h
  have hs : SeqAt.shaped p = true := by
    unfold SeqAt.shaped
    rw [h2, decide_eq_true (Nat.le_trans h3 hn)]
    rfl
  have he : PyData.eqv p p = true := SeqAt.eqv_refl p h2
  unfold gEqv
  rw [h1]
  simp only [Option.bind_some, hs, and_self, if_true, he]
  cases neg <;> rfl
theorem at_nat {α : Type} {xs : List α} {k : Nat} {x : α} (h : xs[k]? = some x) : L2.atI xs (k : Nat) = some x := by
  have hl : k < xs.length := (List.getElem?_eq_some_iff.mp h).1
  unfold L2.atI ixN
  rw [if_pos (by omega), if_pos (by omega)]
  simpa using h
theorem at_mod {α : Type} {xs : List α} {a : Int} {n : Nat} (hn : xs.length = n) (h0 : 0 < n) : ∃ k x, k < n ∧ a % (n : Int) = (k : Nat) ∧ xs[k]? = some x ∧ L2.atI xs (a % (n : Int)) = some x := by
  have h1 := Int.emod_nonneg a (show (n : Int) ≠ 0 by omega)
  have h2 := Int.emod_lt_of_pos a (show (0 : Int) < n by omega)
  have hk : (a % (n : Int)).toNat < xs.length := by omega
  refine ⟨(a % (n : Int)).toNat, xs[(a % (n : Int)).toNat], by omega, by omega, List.getElem?_eq_getElem hk, ?_⟩
  have e : a % (n : Int) = (((a % (n : Int)).toNat : Nat) : Int) := by omega
  exact (congrArg (L2.atI xs) e).trans (at_nat (List.getElem?_eq_getElem hk))
end DN
namespace DN
open PySem PySem.Spec PyProof.Rows L2
theorem e_var {ρ : Env} {i : Nat} {d : D} (h : ρ[i]? = some (some d)) : dVar i ρ = some d := by unfold dVar; rw [h]; rfl
theorem o_I {p : Int → Int → Bool} {a b : Int} : gI p (.int a) (.int b) = some (.bl (p a b)) := rfl
theorem o_neg {a : Int} : gNeg (.int a) = some (.int (-a)) := rfl
theorem o_lst {ds : List D} : (fun ds => some (D.lst ds)) ds = some (.lst ds) := rfl
theorem o_tup {ds : List D} : (fun ds => some (D.tup ds)) ds = some (.tup ds) := rfl
theorem o_lenL {ds : List D} : gLen [.lst ds] = some (.int ds.length) := rfl
theorem o_lenT {ds : List D} : gLen [.tup ds] = some (.int ds.length) := rfl
theorem o_lenS {ns : List Int} : gLen [.scr ns] = some (.int ns.length) := rfl
theorem o_isN {d : D} : gIsN false d .non = some (.bl (isNon d)) := by cases d <;> rfl
theorem o_notN {d : D} : gIsN true d .non = some (.bl (!isNon d)) := by cases d <;> rfl
theorem o_ty {T : String} {d : D} : gTy false T d = some (.bl (decide (tyName d = T))) := rfl
theorem o_inst {T : String} {d : D} : gInst T d = some (.bl (isTy (tyName d) T)) := rfl
/-- loops over range -/
theorem for_rng {s : SM} {bd : D → Env → Option Env} {P : Nat → Env → Prop} {n : Nat} {ρ : Env} (h0 : P 0 ρ) (hs : ∀ k, k < n → ∀ ρ, P k ρ → ∃ ρ1 ρ2, bd (.int (k : Nat)) ρ = some ρ1 ∧ s ρ1 = some (.nx ρ2) ∧ P (k + 1) ρ2) : ∃ ρ', forGo [] bd s (rng n) ρ = some (.nx ρ') ∧ P n ρ' := by
  have key : ∀ (m k : Nat) (ρ : Env), k + m = n → P k ρ → ∃ ρ', forGo [] bd s ((List.range' k m).map fun j => D.int (j : Nat)) ρ = some (.nx ρ') ∧ P n ρ' := by
    intro m
    induction m with
    | zero => intro k ρ e h; exact ⟨ρ, rfl, by rw [← e]; exact h⟩
    | succ m ih =>
      intro k ρ e h
      obtain ⟨ρ1, ρ2, h1, h2, h3⟩ := hs k (by omega) ρ h
      obtain ⟨ρ', h4, h5⟩ := ih (k + 1) ρ2 (by omega) h3
      exact ⟨ρ', by rw [List.range'_succ, List.map_cons]; exact for_cons h1 h2 h4, h5⟩
  have := key n 0 ρ (by omega) h0
  unfold rng
  rw [List.range_eq_range']
  exact this
end DN
namespace DN
open PySem PySem.Spec PyProof.Rows L2
theorem fn_rt {N : Nat} {m : SM} {ds : List D} {ρ : Env} {d : D} (h : startD N ds = ρ) (k : m ρ = some (.rt d)) : fnD N m ds = some d := by unfold fnD; rw [h, k]; rfl
theorem fr_rt {N : Nat} {m : SM} {ds : List D} {ρ : Env} {d : D} (h : startD N ds = ρ) (k : m ρ = some (.rt d)) : fnR N m ds = some (.ok d) := by unfold fnR; rw [h, k]; rfl
theorem fr_nx {N : Nat} {m : SM} {ds : List D} {ρ ρ1 : Env} (h : startD N ds = ρ) (k : m ρ = some (.nx ρ1)) : fnR N m ds = some (.ok .non) := by unfold fnR; rw [h, k]; rfl
theorem fr_ex {N : Nat} {m : SM} {ds : List D} {ρ : Env} {n : Str} (h : startD N ds = ρ) (k : m ρ = some (.ex n)) : fnR N m ds = some (.er n) := by unfold fnR; rw [h, k]; rfl
theorem e_ifSet {ρ : Env} {i : Nat} {m : DM} {c : Env → Option Bool} {k : Bool} {d : D} (h : c ρ = some k) (h2 : k = true → m ρ = some d) (h3 : k = false → ρ[i]? = some (some d)) : sIf c (sSet i (ev false [] m)) sNx ρ = some (.nx (ρ.set i (some d))) := by
  refine e_if h ?_
  cases k with
  | true => exact e_set (h2 rfl)
  | false =>
    have e := h3 rfl
    have hl : i < ρ.length := (List.getElem?_eq_some_iff.mp e).1
    have e2 : ρ.set i (some d) = ρ := by
      apply List.ext_getElem?
      intro j
      by_cases hj : i = j
      · subst hj; rw [List.getElem?_set_self hl, e]
      · rw [List.getElem?_set_ne hj]
    rw [e2]
    rfl
theorem e_nx {ρ : Env} : sNx ρ = some (.nx ρ) := rfl
theorem e_x {ρ : Env} {as : Env → Option (List D)} {g : List D → Option Res} {ds : List D} {d : D} (h : as ρ = some ds) (k : g ds = some (.ok d)) : xEx as g ρ = some (.nx ρ) := by unfold xEx; rw [h]; simp only [Option.bind_some]; rw [k]; rfl
theorem e_xE {ρ : Env} {as : Env → Option (List D)} {g : List D → Option Res} {ds : List D} {n : Str} (h : as ρ = some ds) (k : g ds = some (.er n)) : xEx as g ρ = some (.ex n) := by unfold xEx; rw [h]; simp only [Option.bind_some]; rw [k]; rfl
theorem e_try {ρ : Env} {names : List Str} {b : SM} {h : Str → Str} {n : Str} (hb : b ρ = some (.ex n)) (hn : n ∈ names) : sTry names b h ρ = some (.rt (.str (h n))) := by unfold sTry; rw [hb]; simp [hn]
theorem e_app {ρ : Env} {i : Nat} {O : List Nat} {m : DM} {d : D} {ds : List D} (h : m (wipeD ρ O) = some d) (hi : ρ[i]? = some (some (.lst ds))) (hl : ds.length < 1000000) : sApp i (ev false O m) ρ = some (.nx (ρ.set i (some (.lst (ds ++ [d]))))) := by
  unfold sApp ev
  simp only [Bool.false_eq_true, if_false]
  rw [h, hi]
  simp [hl]
/-! ints -/
def LI (l : List Int) : D := .lst (l.map .int)
def LR (l : List (List Int)) : D := .lst (l.map LI)
theorem e_lcR {ρ : Env} {i n : Nat} {m : DM} {mi : Env → Option (List D)} {g : Nat → Int} (h : mi ρ = some (rng n)) (hn : n < 1000000) (hm : ∀ j, j < n → m ((ρ.set i none).set i (some (.int (j : Nat)))) = some (.int (g j))) : dLc [i] mi (bd1 i) tYesD m ρ = some (LI ((List.range n).map g)) := by
  have := e_lc (f := fun j => D.int (g j)) (emb := fun j : Nat => D.int (j : Nat)) (l := List.range n) h (by simpa using hn) fun j hj => hm j (List.mem_range.mp hj)
  rw [this]
  unfold LI
  rw [List.map_map]
  rfl
theorem e_lcRR {ρ : Env} {i n : Nat} {m : DM} {mi : Env → Option (List D)} {g : Nat → List Int} (h : mi ρ = some (rng n)) (hn : n < 1000000) (hm : ∀ j, j < n → m ((ρ.set i none).set i (some (.int (j : Nat)))) = some (LI (g j))) : dLc [i] mi (bd1 i) tYesD m ρ = some (LR ((List.range n).map g)) := by
  have := e_lc (f := fun j => LI (g j)) (emb := fun j : Nat => D.int (j : Nat)) (l := List.range n) h (by simpa using hn) fun j hj => hm j (List.mem_range.mp hj)
  rw [this]
  unfold LR
  rw [List.map_map]
  rfl
theorem e_lcI {ρ : Env} {i : Nat} {m : DM} {mi : Env → Option (List D)} {l : List Int} {g : Int → Int} (h : mi ρ = some (l.map .int)) (hn : l.length < 1000000) (hm : ∀ x ∈ l, m ((ρ.set i none).set i (some (.int x))) = some (.int (g x))) : dLc [i] mi (bd1 i) tYesD m ρ = some (LI (l.map g)) := by
  have := e_lc (f := fun j => D.int (g j)) (emb := D.int) (l := l) h hn hm
  rw [this]
  unfold LI
  rw [List.map_map]
  rfl
theorem e_lcL {ρ : Env} {i : Nat} {m : DM} {mi : Env → Option (List D)} {l : List (List Int)} {g : List Int → Int} (h : mi ρ = some (l.map LI)) (hn : l.length < 1000000) (hm : ∀ x ∈ l, m ((ρ.set i none).set i (some (LI x))) = some (.int (g x))) : dLc [i] mi (bd1 i) tYesD m ρ = some (LI (l.map g)) := by
  have := e_lc (f := fun j => D.int (g j)) (emb := LI) (l := l) h hn hm
  rw [this]
  unfold LI
  rw [List.map_map]
  rfl
theorem e_lcLL {ρ : Env} {i : Nat} {m : DM} {mi : Env → Option (List D)} {l : List (List Int)} {g : List Int → List Int} (h : mi ρ = some (l.map LI)) (hn : l.length < 1000000) (hm : ∀ x ∈ l, m ((ρ.set i none).set i (some (LI x))) = some (LI (g x))) : dLc [i] mi (bd1 i) tYesD m ρ = some (LR (l.map g)) := by
  have := e_lc (f := fun j => LI (g j)) (emb := LI) (l := l) h hn hm
  rw [this]
  unfold LR
  rw [List.map_map]
  rfl
theorem o_catI {a b : List Int} (h : a.length + b.length ≤ 1000000) : gAdd (LI a) (LI b) = some (LI (a ++ b)) := by
  unfold LI
  rw [o_cat (by simpa using h), List.map_append]
theorem o_catR {a b : List (List Int)} (h : a.length + b.length ≤ 1000000) : gAdd (LR a) (LR b) = some (LR (a ++ b)) := by
  unfold LR
  rw [o_cat (by simpa using h), List.map_append]
theorem o_zeros {n : Nat} (h : n < 1000) : gMul (.lst [.int 0]) (.int (n : Nat)) = some (LI (List.replicate n 0)) := by
  rw [o_rep h (by simp; omega)]
  unfold LI
  simp [List.flatten_replicate_singleton]
theorem o_ixI {l : List Int} {k : Nat} {x : Int} (h : l[k]? = some x) : gIx (LI l) (.int (k : Nat)) = some (.int x) := at_nat (by rw [List.getElem?_map, h]; rfl)
theorem o_ix {l : List D} {k : Nat} {x : D} (h : l[k]? = some x) : gIx (.lst l) (.int (k : Nat)) = some x := at_nat h
theorem o_ixT {l : List D} {k : Nat} {x : D} (h : l[k]? = some x) : gIx (.tup l) (.int (k : Nat)) = some x := at_nat h
theorem at_last {α : Type} {l : List α} {x : α} (h : l.getLast? = some x) : L2.atI l (-1) = some x := by
  have hl : l ≠ [] := fun z => by rw [z] at h; cases h
  have hp : 0 < l.length := List.length_pos_iff.mpr hl
  rw [List.getLast?_eq_getElem?] at h
  unfold L2.atI ixN
  rw [if_neg (by omega), if_pos (by omega)]
  have e : (-1 + (l.length : Int)).toNat = l.length - 1 := by omega
  simp only [Option.bind_some, e]
  exact h
theorem o_lastI {l : List Int} {x : Int} (h : l.getLast? = some x) : gIx (LI l) (.int (-1)) = some (.int x) := at_last (by rw [List.getLast?_map, h]; rfl)
theorem o_lenI {l : List Int} : gLen [LI l] = some (.int l.length) := by unfold LI; rw [o_lenL, List.length_map]
theorem o_lenR {l : List (List Int)} : gLen [LR l] = some (.int l.length) := by unfold LR; rw [o_lenL, List.length_map]
theorem e_lsI {ρ : Env} {m : DM} {l : List Int} (h : m ρ = some (LI l)) : dLs m ρ = some (l.map .int) := e_ls h
theorem e_lsR {ρ : Env} {m : DM} {l : List (List Int)} (h : m ρ = some (LR l)) : dLs m ρ = some (l.map LI) := e_ls h
theorem eq_LI {n : Nat} {l : List Int} : EqOk (n + 1) (LI l) := eq_lst fun d hd => by
  obtain ⟨x, _, rfl⟩ := List.mem_map.mp hd
  exact eq_int
theorem eq_LR {n : Nat} {l : List (List Int)} : EqOk (n + 2) (LR l) := eq_lst fun d hd => by
  obtain ⟨x, _, rfl⟩ := List.mem_map.mp hd
  exact eq_LI
theorem flat_LI {l : List Int} : Flat (LI l) = true := by
  unfold LI Flat
  simp [Scal]
/-- sums over pairs -/
theorem sum_pairs {ρ : Env} {m : DM} : ∀ {r s : List Int} {acc : Int}, (∀ x ∈ r, ∀ y ∈ s, m ((ρ.set 0 (some (.int x))).set 1 (some (.int y))) = some (.int (x * y))) → sumGo (bd2 0 1) tYesD m ρ acc (zipD (r.map .int) (s.map .int)) = some (.int (acc + (List.zipWith (· * ·) r s).sum))
  | [], s, acc, _ => by
    rw [List.map_nil]
    show sumGo (bd2 0 1) tYesD m ρ acc [] = _
    simp [sumGo]
  | _ :: _, [], acc, _ => by
    rw [List.map_nil, List.map_cons]
    show sumGo (bd2 0 1) tYesD m ρ acc [] = _
    simp [sumGo]
  | x :: r, y :: s, acc, h => by
    rw [List.map_cons, List.map_cons, zipD, sumGo]
    have h1 := h x List.mem_cons_self y List.mem_cons_self
    have h2 := sum_pairs (ρ := ρ) (m := m) (r := r) (s := s) (acc := acc + x * y) fun a ha b hb => h a (List.mem_cons_of_mem _ ha) b (List.mem_cons_of_mem _ hb)
    simp only [bd2, tYesD, Option.bind_some, if_true, dI0, h1, toI, h2, List.zipWith_cons_cons, List.sum_cons]
    rw [Int.add_assoc]
end DN
namespace DN
open PySem PySem.Spec PyProof.Rows L2
theorem e_sl {ρ : Env} {m : DM} {lo hi : Env → Option (Option Int)} {x z : D} {l h : Option Int} (h1 : m ρ = some x) (h2 : lo ρ = some l) (h3 : hi ρ = some h) (h4 : gSl x l h = some z) : dSl m lo hi ρ = some z := by unfold dSl; rw [h1, h2, h3]; exact h4
theorem e_part {ρ : Env} {m : DM} {i : Int} (h : m ρ = some (.int i)) : dPart m ρ = some (some i) := by unfold dPart; rw [h]; rfl
end DN

set_option Elab.async false
set_option linter.all false
set_option maxRecDepth 100000
set_option maxHeartbeats 400000
namespace DN
open PySem PySem.Spec PyProof.Rows L2
section
variable {ρ ρ1 ρ2 : Env} {m : DM} {d : D} {s t : SM} {o : Out} {i j : Nat}
theorem e_retF (h : m ρ = some d) (hf : Flat d = true) : sRetF m ρ = some (.rt d) := by unfold sRetF; rw [h]; simp [hf]
theorem e_lstN (h : m ρ = some d) (hf : Flat d = true) : sLstN i m ρ = some (.nx (ρ.set i (some (.lst [d])))) := by unfold sLstN; rw [h]; simp [hf]
theorem e_setW (h : m ρ = some d) : sSet i m ρ = some (.nx (ρ.set i (some d))) := by unfold sSet; rw [h]; rfl
theorem e_ev {O : List Nat} (h : m (wipeD ρ O) = some d) : ev false O m ρ = some d := by unfold ev; simp only [Bool.false_eq_true, if_false]; exact h
theorem e_appS {ds : List D} (h : m ρ = some d) (hs : Scal d = true) (hi : ρ[i]? = some (some (.lst ds))) (hl : ds.length < 1000000) : sAppS i m ρ = some (.nx (ρ.set i (some (.lst (ds ++ [d]))))) := by
  unfold sAppS
  rw [h, hi]
  simp [hs, hl]
theorem e_appO {ds : List D} (hj : ρ[j]? = some (some d)) (hi : ρ[i]? = some (some (.lst ds))) (hl : ds.length < 1000000) : sAppO i j ρ = some (.nx ((ρ.set j none).set i (some (.lst (ds ++ [d]))))) := by
  unfold sAppO
  rw [hj, hi]
  simp [hl]
theorem e_forO {O : List Nat} {mi : Env → Option (List D)} {bd : D → Env → Option Env} {ds : List D} (h : mi (wipeD ρ O) = some ds) (h2 : forGo O bd s ds ρ = some o) : sFor O mi bd s ρ = some o := by
  unfold sFor; rw [h]; exact h2
theorem forO_cons {O : List Nat} {bd : D → Env → Option Env} {ds : List D} (h : bd d (wipeD ρ O) = some ρ1) (h2 : s (mrg O ρ ρ1) = some (.nx ρ2)) (h3 : forGo O bd s ds ρ2 = some o) : forGo O bd s (d :: ds) ρ = some o := by
  rw [forGo, h]
  simp only [Option.bind_some, h2]
  exact h3
theorem forO_rt {O : List Nat} {bd : D → Env → Option Env} {ds : List D} {e : D} (h : bd d (wipeD ρ O) = some ρ1) (h2 : s (mrg O ρ ρ1) = some (.rt e)) : forGo O bd s (d :: ds) ρ = some (.rt e) := by
  rw [forGo, h]
  simp only [Option.bind_some, h2]
theorem wh_end {c : Env → Option Bool} {n : Nat} (h : c ρ = some false) : whGo c s (n + 1) ρ = some (.nx ρ) := by unfold whGo; rw [h]; rfl
theorem wh_nx {c : Env → Option Bool} {n : Nat} (h : c ρ = some true) (h2 : s ρ = some (.nx ρ1)) (h3 : whGo c s n ρ1 = some o) : whGo c s (n + 1) ρ = some o := by
  unfold whGo
  rw [h]
  simp only [Option.bind_some, if_true]
  rw [h2]
  exact h3
theorem wh_rt {c : Env → Option Bool} {n : Nat} (h : c ρ = some true) (h2 : s ρ = some (.rt d)) : whGo c s (n + 1) ρ = some (.rt d) := by
  unfold whGo
  rw [h]
  simp only [Option.bind_some, if_true]
  rw [h2]
  rfl
theorem lcGo_filter {tt : Env → Option Bool} {p : D → Bool} : ∀ {ds : List D}, (∀ x ∈ ds, tt (ρ.set i (some x)) = some (p x) ∧ m (ρ.set i (some x)) = some x) → lcGo (bd1 i) tt m ρ ds = some (ds.filter p)
  | [], _ => rfl
  | x :: l, h => by
    rw [lcGo]
    obtain ⟨h1, h1'⟩ := h x List.mem_cons_self
    have h2 := lcGo_filter (ds := l) fun y hy => h y (List.mem_cons_of_mem _ hy)
    simp only [bd1, Option.bind_some, h1, List.filter_cons]
    cases p x with
    | true => simp [h1', h2]
    | false => simp [h2]
theorem e_filter {tt : Env → Option Bool} {p : D → Bool} {ds : List D} {mi : Env → Option (List D)} (h : mi ρ = some ds) (hl : ds.length < 1000000) (hm : ∀ x ∈ ds, tt ((ρ.set i none).set i (some x)) = some (p x) ∧ m ((ρ.set i none).set i (some x)) = some x) : dLc [i] mi (bd1 i) tt m ρ = some (.lst (ds.filter p)) := by
  unfold dLc; rw [h]
  simp only [Option.bind_some]
  rw [show wipeD ρ [i] = ρ.set i none from rfl, lcGo_filter hm]
  simp [hl]
/-- a list against the empty one -/
theorem o_nil {n : Nat} {ds : List D} {neg : Bool} (h : EqOk n (.lst ds)) (hn : n ≤ 64) : gEqv neg (.lst ds) (.lst []) = some (.bl (if neg = true then !ds.isEmpty else ds.isEmpty)) := by
  obtain ⟨p, h1, h2, h3⟩ := h
  have hs : SeqAt.shaped p = true := by
    unfold SeqAt.shaped
    rw [h2, decide_eq_true (Nat.le_trans h3 hn)]
    rfl
  have hn : SeqAt.shaped (.list []) = true := by decide
  unfold toPy at h1
  unfold gEqv
  cases q : toPys ds with
  | none => rw [q] at h1; cases h1
  | some ps =>
    rw [q] at h1
    cases h1
    have e1 : toPy (.lst ds) = some (.list ps) := by unfold toPy; rw [q]; rfl
    have e2 : toPy (.lst []) = some (.list []) := by unfold toPy toPys; rfl
    have e3 : PyData.eqv (.list ps) (.list []) = ds.isEmpty := by
      cases ds with
      | nil =>
        unfold toPys at q
        cases q
        simp [PyData.eqv, PyData.eqvAll]
      | cons d ds =>
        unfold toPys at q
        cases q1 : toPy d with
        | none => rw [q1] at q; cases q
        | some p1 =>
          cases q2 : toPys ds with
          | none => rw [q1, q2] at q; cases q
          | some p2 =>
            rw [q1, q2] at q
            cases q
            simp [PyData.eqv, PyData.eqvAll]
    rw [e1, e2]
    simp only [Option.bind_some, hs, hn, and_self, if_true, e3]
theorem fa_rows {i j : Nat} {tc : Env → Option Bool} {me : DM} {y : D} (hy : Scal y = true) (hj : j < ρ.length) : ∀ (rs : List (List D)) (done : List D), (∀ r ∈ rs, r.length < 1000000 ∧ ∀ l : List D, tc (((ρ.set i (some (.lst l))).set j none).set j (some (.lst r))) = some false ∧ me (((ρ.set i (some (.lst l))).set j none).set j (some (.lst r))) = some y) →
    faGo i j tc me done (rs.map D.lst) ρ = some (.nx ((ρ.set i (some (.lst (done ++ rs.map fun r => .lst (r ++ [y]))))).set j none))
  | [], done, _ => by simp [faGo]
  | r :: rs, done, h => by
    obtain ⟨h0, h1⟩ := h r List.mem_cons_self
    obtain ⟨h2, h3⟩ := h1 (done ++ .lst r :: rs.map D.lst)
    rw [List.map_cons, faGo, h2]
    simp only [Option.bind_some]
    rw [h3]
    simp only [Option.bind_some]
    rw [if_pos ⟨trivial, hy, h0, hj⟩, fa_rows hy hj rs _ fun q hq => h q (List.mem_cons_of_mem _ hq)]
    simp [List.append_assoc]
end
end DN

set_option Elab.async false
set_option linter.all false
set_option maxRecDepth 100000
set_option maxHeartbeats 400000
namespace K02
open PySem PySem.Spec PyProof.Rows L2 DN
/-! ### what the law's helpers come to -/
def drawn (s k : Int) : Int := ((s + 101 * k + 7) * 48271 % 2147483647 / 7 + k) * 16807 % 2147483647 / 64
theorem drawn_eq {s k : Int} : M_law_drawn [.int s, .int k] = some (.int (drawn s k)) := by
  refine fn_rt (ρ := [some (.int s), some (.int k), none]) rfl ?_
  unfold m_law_drawn
  apply e_seq
  · (repeat' (first | (with_reducible first | exact DN.e_c | exact DN.e_nil | apply DN.e_set | apply DN.e_ret | apply DN.e_bin | apply DN.e_un | apply DN.e_fn | apply DN.e_cons | apply DN.e_b | apply DN.e_notT | apply DN.e_not | apply DN.e_and | apply DN.e_or | apply DN.e_andT | apply DN.e_orT | apply DN.e_chain | apply DN.e_asg | exact DN.o_add | exact DN.o_sub | exact DN.o_eqI | exact DN.o_neI | exact DN.o_I | exact DN.o_neg | exact DN.o_lst | exact DN.o_tup | exact DN.o_isN | exact DN.o_notN | exact DN.o_ty | exact DN.o_inst) | ((with_reducible apply DN.e_var); exact rfl) | exact DN.o_mulL (by decide) | exact DN.o_mulR (by decide) | exact DN.o_div (by decide) (by decide) | exact DN.o_mod (by decide) | exact DN.o_lenL | exact DN.o_lenT | exact DN.o_lenS))
  · (repeat' (first | (with_reducible first | exact DN.e_c | exact DN.e_nil | apply DN.e_set | apply DN.e_ret | apply DN.e_bin | apply DN.e_un | apply DN.e_fn | apply DN.e_cons | apply DN.e_b | apply DN.e_notT | apply DN.e_not | apply DN.e_and | apply DN.e_or | apply DN.e_andT | apply DN.e_orT | apply DN.e_chain | apply DN.e_asg | exact DN.o_add | exact DN.o_sub | exact DN.o_eqI | exact DN.o_neI | exact DN.o_I | exact DN.o_neg | exact DN.o_lst | exact DN.o_tup | exact DN.o_isN | exact DN.o_notN | exact DN.o_ty | exact DN.o_inst) | ((with_reducible apply DN.e_var); exact rfl) | exact DN.o_mulL (by decide) | exact DN.o_mulR (by decide) | exact DN.o_div (by decide) (by decide) | exact DN.o_mod (by decide) | exact DN.o_lenL | exact DN.o_lenT | exact DN.o_lenS))
def cell (ns : List Int) (k : Nat) : Int := (ns[k]?).getD 0
theorem cell_eq {ns : List Int} {k : Nat} : M_law_cell_at [.scr ns, .int (k : Nat)] = some (.int (cell ns k)) := by
  refine fn_rt (ρ := [some (.scr ns), some (.int (k : Nat))]) rfl ?_
  unfold m_law_cell_at cell
  by_cases h : k < ns.length
  · apply e_seqR
    apply e_ifT
    · have e : pLt (k : Nat) (ns.length : Nat) = true := decide_eq_true (by omega)
      rw [← e]
      (repeat' (first | (with_reducible first | exact DN.e_c | exact DN.e_nil | apply DN.e_set | apply DN.e_ret | apply DN.e_bin | apply DN.e_un | apply DN.e_fn | apply DN.e_cons | apply DN.e_b | apply DN.e_notT | apply DN.e_not | apply DN.e_and | apply DN.e_or | apply DN.e_andT | apply DN.e_orT | apply DN.e_chain | apply DN.e_asg | exact DN.o_add | exact DN.o_sub | exact DN.o_eqI | exact DN.o_neI | exact DN.o_I | exact DN.o_neg | exact DN.o_lst | exact DN.o_tup | exact DN.o_isN | exact DN.o_notN | exact DN.o_ty | exact DN.o_inst) | ((with_reducible apply DN.e_var); exact rfl) | exact DN.o_mulL (by decide) | exact DN.o_mulR (by decide) | exact DN.o_div (by decide) (by decide) | exact DN.o_mod (by decide) | exact DN.o_lenL | exact DN.o_lenT | exact DN.o_lenS))
    · (repeat' (first | (with_reducible first | exact DN.e_c | exact DN.e_nil | apply DN.e_set | apply DN.e_ret | apply DN.e_bin | apply DN.e_un | apply DN.e_fn | apply DN.e_cons | apply DN.e_b | apply DN.e_notT | apply DN.e_not | apply DN.e_and | apply DN.e_or | apply DN.e_andT | apply DN.e_orT | apply DN.e_chain | apply DN.e_asg | exact DN.o_add | exact DN.o_sub | exact DN.o_eqI | exact DN.o_neI | exact DN.o_I | exact DN.o_neg | exact DN.o_lst | exact DN.o_tup | exact DN.o_isN | exact DN.o_notN | exact DN.o_ty | exact DN.o_inst) | ((with_reducible apply DN.e_var); exact rfl) | exact DN.o_mulL (by decide) | exact DN.o_mulR (by decide) | exact DN.o_div (by decide) (by decide) | exact DN.o_mod (by decide) | exact DN.o_lenL | exact DN.o_lenT | exact DN.o_lenS))
      rw [List.getElem?_eq_getElem h]
      show (L2.atI ns (k : Nat)).map D.int = _
      rw [at_nat (List.getElem?_eq_getElem h)]
      rfl
  · apply e_seq
    · apply e_ifF
      · have e : pLt (k : Nat) (ns.length : Nat) = false := decide_eq_false (by omega)
        rw [← e]
        (repeat' (first | (with_reducible first | exact DN.e_c | exact DN.e_nil | apply DN.e_set | apply DN.e_ret | apply DN.e_bin | apply DN.e_un | apply DN.e_fn | apply DN.e_cons | apply DN.e_b | apply DN.e_notT | apply DN.e_not | apply DN.e_and | apply DN.e_or | apply DN.e_andT | apply DN.e_orT | apply DN.e_chain | apply DN.e_asg | exact DN.o_add | exact DN.o_sub | exact DN.o_eqI | exact DN.o_neI | exact DN.o_I | exact DN.o_neg | exact DN.o_lst | exact DN.o_tup | exact DN.o_isN | exact DN.o_notN | exact DN.o_ty | exact DN.o_inst) | ((with_reducible apply DN.e_var); exact rfl) | exact DN.o_mulL (by decide) | exact DN.o_mulR (by decide) | exact DN.o_div (by decide) (by decide) | exact DN.o_mod (by decide) | exact DN.o_lenL | exact DN.o_lenT | exact DN.o_lenS))
      · exact e_nx
    · rw [List.getElem?_eq_none (by omega)]
      exact e_ret rfl
def RowOk (m : Nat) (r : List Int) : Prop := r.length = m + 1 ∧ ∀ x ∈ r, -1000 ≤ x ∧ x ≤ 1000
def rowF (c k : Int) (m : Nat) : List Int := if drawn c (10 * k + 9) % 8 = 3 then (List.range (m + 1)).map fun j => drawn c (10 * k + (j : Nat)) % 2001 - 1000 else ((List.range m).map fun j => drawn c (10 * k + (j : Nat)) % 5 - 2) ++ [drawn c (10 * k + 7) % 13 - 6]
theorem rowF_ok (c k : Int) (m : Nat) : RowOk m (rowF c k m) := by
  unfold rowF
  by_cases h : drawn c (10 * k + 9) % 8 = 3
  · rw [if_pos h]
    refine ⟨by simp, fun x hx => ?_⟩
    obtain ⟨j, _, rfl⟩ := List.mem_map.mp hx
    omega
  · rw [if_neg h]
    refine ⟨by simp, fun x hx => ?_⟩
    rcases List.mem_append.mp hx with hx | hx
    · obtain ⟨j, _, rfl⟩ := List.mem_map.mp hx
      omega
    · rw [List.mem_singleton.mp hx]
      omega
theorem row_eq {c k : Int} {m : Nat} (hm : m ≤ 100) : M_law_row_by [.int c, .int k, .int (m : Nat)] = some (LI (rowF c k m)) := by
  refine fn_rt (ρ := [some (.int c), some (.int k), some (.int (m : Nat)), none]) rfl ?_
  unfold m_law_row_by rowF
  by_cases h : drawn c (10 * k + 9) % 8 = 3
  · rw [if_pos h]
    apply e_seqR
    refine e_if (k := (drawn c (10 * k + 9) % 8 == 3)) ?_ ?_
    · (repeat' (first | (with_reducible first | exact DN.e_c | exact DN.e_nil | apply DN.e_set | apply DN.e_ret | apply DN.e_bin | apply DN.e_un | apply DN.e_fn | apply DN.e_cons | apply DN.e_b | apply DN.e_notT | apply DN.e_not | apply DN.e_and | apply DN.e_or | apply DN.e_andT | apply DN.e_orT | apply DN.e_chain | apply DN.e_asg | exact DN.o_add | exact DN.o_sub | exact DN.o_eqI | exact DN.o_neI | exact DN.o_I | exact DN.o_neg | exact DN.o_lst | exact DN.o_tup | exact DN.o_isN | exact DN.o_notN | exact DN.o_ty | exact DN.o_inst) | ((with_reducible apply DN.e_var); exact rfl) | exact DN.o_mulL (by decide) | exact DN.o_mulR (by decide) | exact DN.o_div (by decide) (by decide) | exact DN.o_mod (by decide) | exact DN.o_lenL | exact DN.o_lenT | exact DN.o_lenS | exact drawn_eq))
    · rw [if_pos (by simpa using h)]
      apply e_ret
      refine e_lcR (e_rng (n := m + 1) ?_ (by omega)) (by omega) fun j hj => ?_
      · (repeat' (first | (with_reducible first | exact DN.e_c | exact DN.e_nil | apply DN.e_set | apply DN.e_ret | apply DN.e_bin | apply DN.e_un | apply DN.e_fn | apply DN.e_cons | apply DN.e_b | apply DN.e_notT | apply DN.e_not | apply DN.e_and | apply DN.e_or | apply DN.e_andT | apply DN.e_orT | apply DN.e_chain | apply DN.e_asg | exact DN.o_add | exact DN.o_sub | exact DN.o_eqI | exact DN.o_neI | exact DN.o_I | exact DN.o_neg | exact DN.o_lst | exact DN.o_tup | exact DN.o_isN | exact DN.o_notN | exact DN.o_ty | exact DN.o_inst) | ((with_reducible apply DN.e_var); exact rfl) | exact DN.o_mulL (by decide) | exact DN.o_mulR (by decide) | exact DN.o_div (by decide) (by decide) | exact DN.o_mod (by decide) | exact DN.o_lenL | exact DN.o_lenT | exact DN.o_lenS | exact (show gAdd (.int (m : Nat)) (.int 1) = some (.int ((m + 1 : Nat) : Int)) from rfl)))
      · (repeat' (first | (with_reducible first | exact DN.e_c | exact DN.e_nil | apply DN.e_set | apply DN.e_ret | apply DN.e_bin | apply DN.e_un | apply DN.e_fn | apply DN.e_cons | apply DN.e_b | apply DN.e_notT | apply DN.e_not | apply DN.e_and | apply DN.e_or | apply DN.e_andT | apply DN.e_orT | apply DN.e_chain | apply DN.e_asg | exact DN.o_add | exact DN.o_sub | exact DN.o_eqI | exact DN.o_neI | exact DN.o_I | exact DN.o_neg | exact DN.o_lst | exact DN.o_tup | exact DN.o_isN | exact DN.o_notN | exact DN.o_ty | exact DN.o_inst) | ((with_reducible apply DN.e_var); exact rfl) | exact DN.o_mulL (by decide) | exact DN.o_mulR (by decide) | exact DN.o_div (by decide) (by decide) | exact DN.o_mod (by decide) | exact DN.o_lenL | exact DN.o_lenT | exact DN.o_lenS | exact drawn_eq))
  · rw [if_neg h]
    apply e_seq
    · refine e_if (k := (drawn c (10 * k + 9) % 8 == 3)) ?_ ?_
      · (repeat' (first | (with_reducible first | exact DN.e_c | exact DN.e_nil | apply DN.e_set | apply DN.e_ret | apply DN.e_bin | apply DN.e_un | apply DN.e_fn | apply DN.e_cons | apply DN.e_b | apply DN.e_notT | apply DN.e_not | apply DN.e_and | apply DN.e_or | apply DN.e_andT | apply DN.e_orT | apply DN.e_chain | apply DN.e_asg | exact DN.o_add | exact DN.o_sub | exact DN.o_eqI | exact DN.o_neI | exact DN.o_I | exact DN.o_neg | exact DN.o_lst | exact DN.o_tup | exact DN.o_isN | exact DN.o_notN | exact DN.o_ty | exact DN.o_inst) | ((with_reducible apply DN.e_var); exact rfl) | exact DN.o_mulL (by decide) | exact DN.o_mulR (by decide) | exact DN.o_div (by decide) (by decide) | exact DN.o_mod (by decide) | exact DN.o_lenL | exact DN.o_lenT | exact DN.o_lenS | exact drawn_eq))
      · rw [if_neg (by simpa using h)]
        exact e_nx
    · apply e_ret
      apply e_bin
      · refine e_lcR (g := fun j => drawn c (10 * k + (j : Nat)) % 5 - 2) (e_rng (n := m) ?_ (by omega)) (by omega) fun j hj => ?_
        · (repeat' (first | (with_reducible first | exact DN.e_c | exact DN.e_nil | apply DN.e_set | apply DN.e_ret | apply DN.e_bin | apply DN.e_un | apply DN.e_fn | apply DN.e_cons | apply DN.e_b | apply DN.e_notT | apply DN.e_not | apply DN.e_and | apply DN.e_or | apply DN.e_andT | apply DN.e_orT | apply DN.e_chain | apply DN.e_asg | exact DN.o_add | exact DN.o_sub | exact DN.o_eqI | exact DN.o_neI | exact DN.o_I | exact DN.o_neg | exact DN.o_lst | exact DN.o_tup | exact DN.o_isN | exact DN.o_notN | exact DN.o_ty | exact DN.o_inst) | ((with_reducible apply DN.e_var); exact rfl) | exact DN.o_mulL (by decide) | exact DN.o_mulR (by decide) | exact DN.o_div (by decide) (by decide) | exact DN.o_mod (by decide) | exact DN.o_lenL | exact DN.o_lenT | exact DN.o_lenS))
        · (repeat' (first | (with_reducible first | exact DN.e_c | exact DN.e_nil | apply DN.e_set | apply DN.e_ret | apply DN.e_bin | apply DN.e_un | apply DN.e_fn | apply DN.e_cons | apply DN.e_b | apply DN.e_notT | apply DN.e_not | apply DN.e_and | apply DN.e_or | apply DN.e_andT | apply DN.e_orT | apply DN.e_chain | apply DN.e_asg | exact DN.o_add | exact DN.o_sub | exact DN.o_eqI | exact DN.o_neI | exact DN.o_I | exact DN.o_neg | exact DN.o_lst | exact DN.o_tup | exact DN.o_isN | exact DN.o_notN | exact DN.o_ty | exact DN.o_inst) | ((with_reducible apply DN.e_var); exact rfl) | exact DN.o_mulL (by decide) | exact DN.o_mulR (by decide) | exact DN.o_div (by decide) (by decide) | exact DN.o_mod (by decide) | exact DN.o_lenL | exact DN.o_lenT | exact DN.o_lenS | exact drawn_eq))
      · (repeat' (first | (with_reducible first | exact DN.e_c | exact DN.e_nil | apply DN.e_set | apply DN.e_ret | apply DN.e_bin | apply DN.e_un | apply DN.e_fn | apply DN.e_cons | apply DN.e_b | apply DN.e_notT | apply DN.e_not | apply DN.e_and | apply DN.e_or | apply DN.e_andT | apply DN.e_orT | apply DN.e_chain | apply DN.e_asg | exact DN.o_add | exact DN.o_sub | exact DN.o_eqI | exact DN.o_neI | exact DN.o_I | exact DN.o_neg | exact DN.o_lst | exact DN.o_tup | exact DN.o_isN | exact DN.o_notN | exact DN.o_ty | exact DN.o_inst) | ((with_reducible apply DN.e_var); exact rfl) | exact DN.o_mulL (by decide) | exact DN.o_mulR (by decide) | exact DN.o_div (by decide) (by decide) | exact DN.o_mod (by decide) | exact DN.o_lenL | exact DN.o_lenT | exact DN.o_lenS | exact drawn_eq))
      · exact o_catI (a := (List.range m).map fun j => drawn c (10 * k + (j : Nat)) % 5 - 2) (b := [_]) (by simp; omega)
structure Way where
  asks : List (List Int)
  gives : List (List Int)
def dW (w : Way) : D := .tup [LR w.asks, LR w.gives]
def WayOk (m : Nat) (w : Way) : Prop := w.asks.length ≤ 4 ∧ (∀ r ∈ w.asks, RowOk m r) ∧ w.gives.length = m ∧ ∀ r ∈ w.gives, RowOk m r
def stepF (c : Int) (k : Nat) : Int := drawn c (100 + (k : Nat)) % 7 - 3
def gives1 (c : Int) (m : Nat) : List (List Int) := if drawn c 3 % 4 = 1 ∨ drawn c 3 % 4 = 2 then (List.range m).map fun k : Nat => ((List.range m).map fun j : Nat => if (j : Int) = (k : Int) then 1 else 0) ++ [stepF c k] else (List.range m).map fun k => rowF c (6 + (k : Nat)) m
def asks1 (c : Int) (m : Nat) : List (List Int) := if drawn c 3 % 4 = 2 then ((List.range (drawn c 4 % 4).toNat).map fun k => rowF c (2 + (k : Nat)) m) ++ [(((List.range m).map (stepF c)).map fun x => 0 - x) ++ [drawn c 110 % 9]] else (List.range (drawn c 4 % 4).toNat).map fun k => rowF c (2 + (k : Nat)) m
def gives2 (c : Int) (m : Nat) : List (List Int) := if drawn c 3 % 4 = 3 then (gives1 c m).map fun r => List.replicate m 0 ++ DN.cutD r (some (m : Nat)) none else gives1 c m
def wayF (c : Int) (m : Nat) : Way := ⟨asks1 c m, gives2 c m⟩
theorem gives1_ok (c : Int) (m : Nat) : (gives1 c m).length = m ∧ ∀ r ∈ gives1 c m, RowOk m r := by
  unfold gives1
  split
  · refine ⟨by simp, fun r hr => ?_⟩
    obtain ⟨k, _, rfl⟩ := List.mem_map.mp hr
    refine ⟨by simp, fun x hx => ?_⟩
    rcases List.mem_append.mp hx with hx | hx
    · obtain ⟨j, _, rfl⟩ := List.mem_map.mp hx
      split <;> omega
    · rw [List.mem_singleton.mp hx]
      unfold stepF
      omega
  · refine ⟨by simp, fun r hr => ?_⟩
    obtain ⟨k, _, rfl⟩ := List.mem_map.mp hr
    exact rowF_ok _ _ _
theorem cut_last {α : Type} {r : List α} {m : Nat} (h : r.length = m + 1) : DN.cutD r (some (m : Nat)) none = r.drop m := by
  unfold DN.cutD
  rw [HT.sIx_nat, HT.sIx_none, h, Nat.min_eq_left (by omega)]
  exact List.take_of_length_le (by rw [List.length_drop, h]; omega)
theorem gives2_ok (c : Int) (m : Nat) : (gives2 c m).length = m ∧ ∀ r ∈ gives2 c m, RowOk m r := by
  obtain ⟨h1, h2⟩ := gives1_ok c m
  unfold gives2
  split
  · refine ⟨by rw [List.length_map, h1], fun r hr => ?_⟩
    obtain ⟨q, hq, rfl⟩ := List.mem_map.mp hr
    obtain ⟨q1, q2⟩ := h2 q hq
    rw [cut_last q1]
    refine ⟨by rw [List.length_append, List.length_replicate, List.length_drop, q1]; omega, fun x hx => ?_⟩
    rcases List.mem_append.mp hx with hx | hx
    · rw [List.eq_of_mem_replicate hx]; omega
    · exact q2 x (List.mem_of_mem_drop hx)
  · exact ⟨h1, h2⟩
theorem asks1_ok (c : Int) (m : Nat) : (asks1 c m).length ≤ 4 ∧ ∀ r ∈ asks1 c m, RowOk m r := by
  have h0 : (drawn c 4 % 4).toNat ≤ 3 := by omega
  unfold asks1
  split
  · refine ⟨by simp; omega, fun r hr => ?_⟩
    rcases List.mem_append.mp hr with hr | hr
    · obtain ⟨k, _, rfl⟩ := List.mem_map.mp hr
      exact rowF_ok _ _ _
    · rw [List.mem_singleton.mp hr]
      refine ⟨by simp, fun x hx => ?_⟩
      rcases List.mem_append.mp hx with hx | hx
      · obtain ⟨y, hy, rfl⟩ := List.mem_map.mp hx
        obtain ⟨j, _, rfl⟩ := List.mem_map.mp hy
        unfold stepF
        omega
      · rw [List.mem_singleton.mp hx]
        omega
  · refine ⟨by simp; omega, fun r hr => ?_⟩
    obtain ⟨k, _, rfl⟩ := List.mem_map.mp hr
    exact rowF_ok _ _ _
theorem wayF_ok (c : Int) (m : Nat) : WayOk m (wayF c m) := ⟨(asks1_ok c m).1, (asks1_ok c m).2, (gives2_ok c m).1, (gives2_ok c m).2⟩
theorem beq_or (a b c : Int) : ((a == b) || (a == c)) = decide (a = b ∨ a = c) := by
  by_cases h1 : a = b <;> by_cases h2 : a = c <;> simp [h1, h2]
theorem way_eq {c : Int} {m : Nat} (hm : m ≤ 100) : M_law_way_by [.int c, .int (m : Nat)] = some (dW (wayF c m)) := by
  have h0 : (drawn c 4 % 4).toNat ≤ 3 := by omega
  have h0' : drawn c 4 % 4 = (((drawn c 4 % 4).toNat : Nat) : Int) := by omega
  refine fn_rt (ρ := [some (.int c), some (.int (m : Nat)), none, none, none, none, none, none, none, none]) rfl ?_
  unfold m_law_way_by
  -- mode
  apply e_seq
  · (repeat' (first | (with_reducible first | exact DN.e_c | exact DN.e_nil | apply DN.e_set | apply DN.e_ret | apply DN.e_bin | apply DN.e_un | apply DN.e_fn | apply DN.e_cons | apply DN.e_b | apply DN.e_notT | apply DN.e_not | apply DN.e_and | apply DN.e_or | apply DN.e_andT | apply DN.e_orT | apply DN.e_chain | apply DN.e_asg | exact DN.o_add | exact DN.o_sub | exact DN.o_eqI | exact DN.o_neI | exact DN.o_I | exact DN.o_neg | exact DN.o_lst | exact DN.o_tup | exact DN.o_isN | exact DN.o_notN | exact DN.o_ty | exact DN.o_inst) | ((with_reducible apply DN.e_var); exact rfl) | exact DN.o_mulL (by decide) | exact DN.o_mulR (by decide) | exact DN.o_div (by decide) (by decide) | exact DN.o_mod (by decide) | exact DN.o_lenL | exact DN.o_lenT | exact DN.o_lenS | exact drawn_eq))
  -- asks
  apply e_seq
  · apply e_set
    refine e_lcRR (g := fun k => rowF c (2 + (k : Nat)) m) (e_rng (n := (drawn c 4 % 4).toNat) ?_ (by omega)) (by omega) fun j hj => ?_
    · rw [← h0']
      (repeat' (first | (with_reducible first | exact DN.e_c | exact DN.e_nil | apply DN.e_set | apply DN.e_ret | apply DN.e_bin | apply DN.e_un | apply DN.e_fn | apply DN.e_cons | apply DN.e_b | apply DN.e_notT | apply DN.e_not | apply DN.e_and | apply DN.e_or | apply DN.e_andT | apply DN.e_orT | apply DN.e_chain | apply DN.e_asg | exact DN.o_add | exact DN.o_sub | exact DN.o_eqI | exact DN.o_neI | exact DN.o_I | exact DN.o_neg | exact DN.o_lst | exact DN.o_tup | exact DN.o_isN | exact DN.o_notN | exact DN.o_ty | exact DN.o_inst) | ((with_reducible apply DN.e_var); exact rfl) | exact DN.o_mulL (by decide) | exact DN.o_mulR (by decide) | exact DN.o_div (by decide) (by decide) | exact DN.o_mod (by decide) | exact DN.o_lenL | exact DN.o_lenT | exact DN.o_lenS | exact drawn_eq))
    · (repeat' (first | (with_reducible first | exact DN.e_c | exact DN.e_nil | apply DN.e_set | apply DN.e_ret | apply DN.e_bin | apply DN.e_un | apply DN.e_fn | apply DN.e_cons | apply DN.e_b | apply DN.e_notT | apply DN.e_not | apply DN.e_and | apply DN.e_or | apply DN.e_andT | apply DN.e_orT | apply DN.e_chain | apply DN.e_asg | exact DN.o_add | exact DN.o_sub | exact DN.o_eqI | exact DN.o_neI | exact DN.o_I | exact DN.o_neg | exact DN.o_lst | exact DN.o_tup | exact DN.o_isN | exact DN.o_notN | exact DN.o_ty | exact DN.o_inst) | ((with_reducible apply DN.e_var); exact rfl) | exact DN.o_mulL (by decide) | exact DN.o_mulR (by decide) | exact DN.o_div (by decide) (by decide) | exact DN.o_mod (by decide) | exact DN.o_lenL | exact DN.o_lenT | exact DN.o_lenS | exact row_eq hm))
  -- gives
  apply e_seq
  · apply e_set
    refine e_lcRR (g := fun k => rowF c (6 + (k : Nat)) m) (e_rng (n := m) ?_ (by omega)) (by omega) fun j hj => ?_
    · (repeat' (first | (with_reducible first | exact DN.e_c | exact DN.e_nil | apply DN.e_set | apply DN.e_ret | apply DN.e_bin | apply DN.e_un | apply DN.e_fn | apply DN.e_cons | apply DN.e_b | apply DN.e_notT | apply DN.e_not | apply DN.e_and | apply DN.e_or | apply DN.e_andT | apply DN.e_orT | apply DN.e_chain | apply DN.e_asg | exact DN.o_add | exact DN.o_sub | exact DN.o_eqI | exact DN.o_neI | exact DN.o_I | exact DN.o_neg | exact DN.o_lst | exact DN.o_tup | exact DN.o_isN | exact DN.o_notN | exact DN.o_ty | exact DN.o_inst) | ((with_reducible apply DN.e_var); exact rfl) | exact DN.o_mulL (by decide) | exact DN.o_mulR (by decide) | exact DN.o_div (by decide) (by decide) | exact DN.o_mod (by decide) | exact DN.o_lenL | exact DN.o_lenT | exact DN.o_lenS))
    · (repeat' (first | (with_reducible first | exact DN.e_c | exact DN.e_nil | apply DN.e_set | apply DN.e_ret | apply DN.e_bin | apply DN.e_un | apply DN.e_fn | apply DN.e_cons | apply DN.e_b | apply DN.e_notT | apply DN.e_not | apply DN.e_and | apply DN.e_or | apply DN.e_andT | apply DN.e_orT | apply DN.e_chain | apply DN.e_asg | exact DN.o_add | exact DN.o_sub | exact DN.o_eqI | exact DN.o_neI | exact DN.o_I | exact DN.o_neg | exact DN.o_lst | exact DN.o_tup | exact DN.o_isN | exact DN.o_notN | exact DN.o_ty | exact DN.o_inst) | ((with_reducible apply DN.e_var); exact rfl) | exact DN.o_mulL (by decide) | exact DN.o_mulR (by decide) | exact DN.o_div (by decide) (by decide) | exact DN.o_mod (by decide) | exact DN.o_lenL | exact DN.o_lenT | exact DN.o_lenS | exact row_eq hm))
  -- steps
  apply e_seq
  · apply e_set
    refine e_lcR (g := stepF c) (e_rng (n := m) ?_ (by omega)) (by omega) fun j hj => ?_
    · (repeat' (first | (with_reducible first | exact DN.e_c | exact DN.e_nil | apply DN.e_set | apply DN.e_ret | apply DN.e_bin | apply DN.e_un | apply DN.e_fn | apply DN.e_cons | apply DN.e_b | apply DN.e_notT | apply DN.e_not | apply DN.e_and | apply DN.e_or | apply DN.e_andT | apply DN.e_orT | apply DN.e_chain | apply DN.e_asg | exact DN.o_add | exact DN.o_sub | exact DN.o_eqI | exact DN.o_neI | exact DN.o_I | exact DN.o_neg | exact DN.o_lst | exact DN.o_tup | exact DN.o_isN | exact DN.o_notN | exact DN.o_ty | exact DN.o_inst) | ((with_reducible apply DN.e_var); exact rfl) | exact DN.o_mulL (by decide) | exact DN.o_mulR (by decide) | exact DN.o_div (by decide) (by decide) | exact DN.o_mod (by decide) | exact DN.o_lenL | exact DN.o_lenT | exact DN.o_lenS))
    · unfold stepF
      (repeat' (first | (with_reducible first | exact DN.e_c | exact DN.e_nil | apply DN.e_set | apply DN.e_ret | apply DN.e_bin | apply DN.e_un | apply DN.e_fn | apply DN.e_cons | apply DN.e_b | apply DN.e_notT | apply DN.e_not | apply DN.e_and | apply DN.e_or | apply DN.e_andT | apply DN.e_orT | apply DN.e_chain | apply DN.e_asg | exact DN.o_add | exact DN.o_sub | exact DN.o_eqI | exact DN.o_neI | exact DN.o_I | exact DN.o_neg | exact DN.o_lst | exact DN.o_tup | exact DN.o_isN | exact DN.o_notN | exact DN.o_ty | exact DN.o_inst) | ((with_reducible apply DN.e_var); exact rfl) | exact DN.o_mulL (by decide) | exact DN.o_mulR (by decide) | exact DN.o_div (by decide) (by decide) | exact DN.o_mod (by decide) | exact DN.o_lenL | exact DN.o_lenT | exact DN.o_lenS | exact drawn_eq))
  -- modes 1 and 2
  apply e_seq
  · refine e_ifSet (d := LR (gives1 c m)) (k := (drawn c 3 % 4 == 1) || (drawn c 3 % 4 == 2)) ?_ (fun hk => ?_) (fun hk => ?_)
    · apply e_orT
      · (repeat' (first | (with_reducible first | exact DN.e_c | exact DN.e_nil | apply DN.e_set | apply DN.e_ret | apply DN.e_bin | apply DN.e_un | apply DN.e_fn | apply DN.e_cons | apply DN.e_b | apply DN.e_notT | apply DN.e_not | apply DN.e_and | apply DN.e_or | apply DN.e_andT | apply DN.e_orT | apply DN.e_chain | apply DN.e_asg | exact DN.o_add | exact DN.o_sub | exact DN.o_eqI | exact DN.o_neI | exact DN.o_I | exact DN.o_neg | exact DN.o_lst | exact DN.o_tup | exact DN.o_isN | exact DN.o_notN | exact DN.o_ty | exact DN.o_inst) | ((with_reducible apply DN.e_var); exact rfl) | exact DN.o_mulL (by decide) | exact DN.o_mulR (by decide) | exact DN.o_div (by decide) (by decide) | exact DN.o_mod (by decide) | exact DN.o_lenL | exact DN.o_lenT | exact DN.o_lenS))
      · intro _
        (repeat' (first | (with_reducible first | exact DN.e_c | exact DN.e_nil | apply DN.e_set | apply DN.e_ret | apply DN.e_bin | apply DN.e_un | apply DN.e_fn | apply DN.e_cons | apply DN.e_b | apply DN.e_notT | apply DN.e_not | apply DN.e_and | apply DN.e_or | apply DN.e_andT | apply DN.e_orT | apply DN.e_chain | apply DN.e_asg | exact DN.o_add | exact DN.o_sub | exact DN.o_eqI | exact DN.o_neI | exact DN.o_I | exact DN.o_neg | exact DN.o_lst | exact DN.o_tup | exact DN.o_isN | exact DN.o_notN | exact DN.o_ty | exact DN.o_inst) | ((with_reducible apply DN.e_var); exact rfl) | exact DN.o_mulL (by decide) | exact DN.o_mulR (by decide) | exact DN.o_div (by decide) (by decide) | exact DN.o_mod (by decide) | exact DN.o_lenL | exact DN.o_lenT | exact DN.o_lenS))
    · rw [beq_or] at hk
      unfold gives1
      rw [if_pos (of_decide_eq_true hk)]
      refine e_lcRR (e_rng (n := m) ?_ (by omega)) (by omega) fun j hj => ?_
      · (repeat' (first | (with_reducible first | exact DN.e_c | exact DN.e_nil | apply DN.e_set | apply DN.e_ret | apply DN.e_bin | apply DN.e_un | apply DN.e_fn | apply DN.e_cons | apply DN.e_b | apply DN.e_notT | apply DN.e_not | apply DN.e_and | apply DN.e_or | apply DN.e_andT | apply DN.e_orT | apply DN.e_chain | apply DN.e_asg | exact DN.o_add | exact DN.o_sub | exact DN.o_eqI | exact DN.o_neI | exact DN.o_I | exact DN.o_neg | exact DN.o_lst | exact DN.o_tup | exact DN.o_isN | exact DN.o_notN | exact DN.o_ty | exact DN.o_inst) | ((with_reducible apply DN.e_var); exact rfl) | exact DN.o_mulL (by decide) | exact DN.o_mulR (by decide) | exact DN.o_div (by decide) (by decide) | exact DN.o_mod (by decide) | exact DN.o_lenL | exact DN.o_lenT | exact DN.o_lenS))
      · apply e_bin
        · refine e_lcR (g := fun i => if (i : Int) = (j : Int) then 1 else 0) (e_rng (n := m) ?_ (by omega)) (by omega) fun i hi => ?_
          · (repeat' (first | (with_reducible first | exact DN.e_c | exact DN.e_nil | apply DN.e_set | apply DN.e_ret | apply DN.e_bin | apply DN.e_un | apply DN.e_fn | apply DN.e_cons | apply DN.e_b | apply DN.e_notT | apply DN.e_not | apply DN.e_and | apply DN.e_or | apply DN.e_andT | apply DN.e_orT | apply DN.e_chain | apply DN.e_asg | exact DN.o_add | exact DN.o_sub | exact DN.o_eqI | exact DN.o_neI | exact DN.o_I | exact DN.o_neg | exact DN.o_lst | exact DN.o_tup | exact DN.o_isN | exact DN.o_notN | exact DN.o_ty | exact DN.o_inst) | ((with_reducible apply DN.e_var); exact rfl) | exact DN.o_mulL (by decide) | exact DN.o_mulR (by decide) | exact DN.o_div (by decide) (by decide) | exact DN.o_mod (by decide) | exact DN.o_lenL | exact DN.o_lenT | exact DN.o_lenS))
          · apply e_fn
            · (repeat' (first | (with_reducible first | exact DN.e_c | exact DN.e_nil | apply DN.e_set | apply DN.e_ret | apply DN.e_bin | apply DN.e_un | apply DN.e_fn | apply DN.e_cons | apply DN.e_b | apply DN.e_notT | apply DN.e_not | apply DN.e_and | apply DN.e_or | apply DN.e_andT | apply DN.e_orT | apply DN.e_chain | apply DN.e_asg | exact DN.o_add | exact DN.o_sub | exact DN.o_eqI | exact DN.o_neI | exact DN.o_I | exact DN.o_neg | exact DN.o_lst | exact DN.o_tup | exact DN.o_isN | exact DN.o_notN | exact DN.o_ty | exact DN.o_inst) | ((with_reducible apply DN.e_var); exact rfl) | exact DN.o_mulL (by decide) | exact DN.o_mulR (by decide) | exact DN.o_div (by decide) (by decide) | exact DN.o_mod (by decide) | exact DN.o_lenL | exact DN.o_lenT | exact DN.o_lenS))
            · by_cases hij : (i : Int) = (j : Int)
              · rw [if_pos hij, hij]
                simp [gInt, g1, hInt]
              · rw [if_neg hij]
                have e : ((i : Int) == (j : Int)) = false := by simpa using hij
                rw [e]
                rfl
        · (repeat' (first | (with_reducible first | exact DN.e_c | exact DN.e_nil | apply DN.e_set | apply DN.e_ret | apply DN.e_bin | apply DN.e_un | apply DN.e_fn | apply DN.e_cons | apply DN.e_b | apply DN.e_notT | apply DN.e_not | apply DN.e_and | apply DN.e_or | apply DN.e_andT | apply DN.e_orT | apply DN.e_chain | apply DN.e_asg | exact DN.o_add | exact DN.o_sub | exact DN.o_eqI | exact DN.o_neI | exact DN.o_I | exact DN.o_neg | exact DN.o_lst | exact DN.o_tup | exact DN.o_isN | exact DN.o_notN | exact DN.o_ty | exact DN.o_inst) | ((with_reducible apply DN.e_var); exact rfl) | exact DN.o_mulL (by decide) | exact DN.o_mulR (by decide) | exact DN.o_div (by decide) (by decide) | exact DN.o_mod (by decide) | exact DN.o_lenL | exact DN.o_lenT | exact DN.o_lenS | exact o_ixI (l := (List.range m).map (stepF c)) (k := j) (x := stepF c j) (by rw [List.getElem?_map, List.getElem?_range hj]; rfl)))
        · exact o_catI (b := [_]) (by simp; omega)
    · rw [beq_or] at hk
      unfold gives1
      rw [if_neg (of_decide_eq_false hk)]
      rfl
  -- mode 2
  apply e_seq
  · refine e_ifSet (d := LR (asks1 c m)) (k := drawn c 3 % 4 == 2) ?_ (fun hk => ?_) (fun hk => ?_)
    · (repeat' (first | (with_reducible first | exact DN.e_c | exact DN.e_nil | apply DN.e_set | apply DN.e_ret | apply DN.e_bin | apply DN.e_un | apply DN.e_fn | apply DN.e_cons | apply DN.e_b | apply DN.e_notT | apply DN.e_not | apply DN.e_and | apply DN.e_or | apply DN.e_andT | apply DN.e_orT | apply DN.e_chain | apply DN.e_asg | exact DN.o_add | exact DN.o_sub | exact DN.o_eqI | exact DN.o_neI | exact DN.o_I | exact DN.o_neg | exact DN.o_lst | exact DN.o_tup | exact DN.o_isN | exact DN.o_notN | exact DN.o_ty | exact DN.o_inst) | ((with_reducible apply DN.e_var); exact rfl) | exact DN.o_mulL (by decide) | exact DN.o_mulR (by decide) | exact DN.o_div (by decide) (by decide) | exact DN.o_mod (by decide) | exact DN.o_lenL | exact DN.o_lenT | exact DN.o_lenS))
    · unfold asks1
      rw [if_pos (by simpa using hk)]
      apply e_bin
      · (repeat' (first | (with_reducible first | exact DN.e_c | exact DN.e_nil | apply DN.e_set | apply DN.e_ret | apply DN.e_bin | apply DN.e_un | apply DN.e_fn | apply DN.e_cons | apply DN.e_b | apply DN.e_notT | apply DN.e_not | apply DN.e_and | apply DN.e_or | apply DN.e_andT | apply DN.e_orT | apply DN.e_chain | apply DN.e_asg | exact DN.o_add | exact DN.o_sub | exact DN.o_eqI | exact DN.o_neI | exact DN.o_I | exact DN.o_neg | exact DN.o_lst | exact DN.o_tup | exact DN.o_isN | exact DN.o_notN | exact DN.o_ty | exact DN.o_inst) | ((with_reducible apply DN.e_var); exact rfl) | exact DN.o_mulL (by decide) | exact DN.o_mulR (by decide) | exact DN.o_div (by decide) (by decide) | exact DN.o_mod (by decide) | exact DN.o_lenL | exact DN.o_lenT | exact DN.o_lenS))
      · apply e_fn
        · apply e_cons
          · apply e_bin
            · refine e_lcI (l := (List.range m).map (stepF c)) (g := fun x => 0 - x) (e_lsI ?_) (by simp; omega) fun x hx => ?_
              · (repeat' (first | (with_reducible first | exact DN.e_c | exact DN.e_nil | apply DN.e_set | apply DN.e_ret | apply DN.e_bin | apply DN.e_un | apply DN.e_fn | apply DN.e_cons | apply DN.e_b | apply DN.e_notT | apply DN.e_not | apply DN.e_and | apply DN.e_or | apply DN.e_andT | apply DN.e_orT | apply DN.e_chain | apply DN.e_asg | exact DN.o_add | exact DN.o_sub | exact DN.o_eqI | exact DN.o_neI | exact DN.o_I | exact DN.o_neg | exact DN.o_lst | exact DN.o_tup | exact DN.o_isN | exact DN.o_notN | exact DN.o_ty | exact DN.o_inst) | ((with_reducible apply DN.e_var); exact rfl) | exact DN.o_mulL (by decide) | exact DN.o_mulR (by decide) | exact DN.o_div (by decide) (by decide) | exact DN.o_mod (by decide) | exact DN.o_lenL | exact DN.o_lenT | exact DN.o_lenS))
              · (repeat' (first | (with_reducible first | exact DN.e_c | exact DN.e_nil | apply DN.e_set | apply DN.e_ret | apply DN.e_bin | apply DN.e_un | apply DN.e_fn | apply DN.e_cons | apply DN.e_b | apply DN.e_notT | apply DN.e_not | apply DN.e_and | apply DN.e_or | apply DN.e_andT | apply DN.e_orT | apply DN.e_chain | apply DN.e_asg | exact DN.o_add | exact DN.o_sub | exact DN.o_eqI | exact DN.o_neI | exact DN.o_I | exact DN.o_neg | exact DN.o_lst | exact DN.o_tup | exact DN.o_isN | exact DN.o_notN | exact DN.o_ty | exact DN.o_inst) | ((with_reducible apply DN.e_var); exact rfl) | exact DN.o_mulL (by decide) | exact DN.o_mulR (by decide) | exact DN.o_div (by decide) (by decide) | exact DN.o_mod (by decide) | exact DN.o_lenL | exact DN.o_lenT | exact DN.o_lenS))
            · (repeat' (first | (with_reducible first | exact DN.e_c | exact DN.e_nil | apply DN.e_set | apply DN.e_ret | apply DN.e_bin | apply DN.e_un | apply DN.e_fn | apply DN.e_cons | apply DN.e_b | apply DN.e_notT | apply DN.e_not | apply DN.e_and | apply DN.e_or | apply DN.e_andT | apply DN.e_orT | apply DN.e_chain | apply DN.e_asg | exact DN.o_add | exact DN.o_sub | exact DN.o_eqI | exact DN.o_neI | exact DN.o_I | exact DN.o_neg | exact DN.o_lst | exact DN.o_tup | exact DN.o_isN | exact DN.o_notN | exact DN.o_ty | exact DN.o_inst) | ((with_reducible apply DN.e_var); exact rfl) | exact DN.o_mulL (by decide) | exact DN.o_mulR (by decide) | exact DN.o_div (by decide) (by decide) | exact DN.o_mod (by decide) | exact DN.o_lenL | exact DN.o_lenT | exact DN.o_lenS | exact drawn_eq))
            · exact o_catI (b := [_]) (by simp; omega)
          · exact e_nil
        · rfl
      · exact o_catR (b := [_]) (by simp; omega)
    · unfold asks1
      rw [if_neg (by simpa using hk)]
      rfl
  -- mode 3
  apply e_seq
  · refine e_ifSet (d := LR (gives2 c m)) (k := drawn c 3 % 4 == 3) ?_ (fun hk => ?_) (fun hk => ?_)
    · (repeat' (first | (with_reducible first | exact DN.e_c | exact DN.e_nil | apply DN.e_set | apply DN.e_ret | apply DN.e_bin | apply DN.e_un | apply DN.e_fn | apply DN.e_cons | apply DN.e_b | apply DN.e_notT | apply DN.e_not | apply DN.e_and | apply DN.e_or | apply DN.e_andT | apply DN.e_orT | apply DN.e_chain | apply DN.e_asg | exact DN.o_add | exact DN.o_sub | exact DN.o_eqI | exact DN.o_neI | exact DN.o_I | exact DN.o_neg | exact DN.o_lst | exact DN.o_tup | exact DN.o_isN | exact DN.o_notN | exact DN.o_ty | exact DN.o_inst) | ((with_reducible apply DN.e_var); exact rfl) | exact DN.o_mulL (by decide) | exact DN.o_mulR (by decide) | exact DN.o_div (by decide) (by decide) | exact DN.o_mod (by decide) | exact DN.o_lenL | exact DN.o_lenT | exact DN.o_lenS))
    · unfold gives2
      rw [if_pos (by simpa using hk)]
      refine e_lcLL (l := gives1 c m) (g := fun r => List.replicate m 0 ++ DN.cutD r (some (m : Nat)) none) (e_lsR ?_) (by rw [(gives1_ok c m).1]; omega) fun r hr => ?_
      · (repeat' (first | (with_reducible first | exact DN.e_c | exact DN.e_nil | apply DN.e_set | apply DN.e_ret | apply DN.e_bin | apply DN.e_un | apply DN.e_fn | apply DN.e_cons | apply DN.e_b | apply DN.e_notT | apply DN.e_not | apply DN.e_and | apply DN.e_or | apply DN.e_andT | apply DN.e_orT | apply DN.e_chain | apply DN.e_asg | exact DN.o_add | exact DN.o_sub | exact DN.o_eqI | exact DN.o_neI | exact DN.o_I | exact DN.o_neg | exact DN.o_lst | exact DN.o_tup | exact DN.o_isN | exact DN.o_notN | exact DN.o_ty | exact DN.o_inst) | ((with_reducible apply DN.e_var); exact rfl) | exact DN.o_mulL (by decide) | exact DN.o_mulR (by decide) | exact DN.o_div (by decide) (by decide) | exact DN.o_mod (by decide) | exact DN.o_lenL | exact DN.o_lenT | exact DN.o_lenS))
      · obtain ⟨q1, _⟩ := (gives1_ok c m).2 r hr
        apply e_bin
        · (repeat' (first | (with_reducible first | exact DN.e_c | exact DN.e_nil | apply DN.e_set | apply DN.e_ret | apply DN.e_bin | apply DN.e_un | apply DN.e_fn | apply DN.e_cons | apply DN.e_b | apply DN.e_notT | apply DN.e_not | apply DN.e_and | apply DN.e_or | apply DN.e_andT | apply DN.e_orT | apply DN.e_chain | apply DN.e_asg | exact DN.o_add | exact DN.o_sub | exact DN.o_eqI | exact DN.o_neI | exact DN.o_I | exact DN.o_neg | exact DN.o_lst | exact DN.o_tup | exact DN.o_isN | exact DN.o_notN | exact DN.o_ty | exact DN.o_inst) | ((with_reducible apply DN.e_var); exact rfl) | exact DN.o_mulL (by decide) | exact DN.o_mulR (by decide) | exact DN.o_div (by decide) (by decide) | exact DN.o_mod (by decide) | exact DN.o_lenL | exact DN.o_lenT | exact DN.o_lenS | exact o_zeros (n := m) (by omega)))
        · show (some (LI r)).bind _ = _
          simp only [Option.bind_some]
          show gSl (LI r) (some (m : Nat)) none = some (LI (DN.cutD r (some (m : Nat)) none))
          show some (D.lst (DN.cutD (r.map D.int) (some (m : Nat)) none)) = some (D.lst ((DN.cutD r (some (m : Nat)) none).map D.int))
          unfold DN.cutD
          rw [List.length_map, ← List.map_drop, ← List.map_take]
        · exact o_catI (by rw [cut_last q1, List.length_replicate, List.length_drop, q1]; omega)
    · unfold gives2
      rw [if_neg (by simpa using hk)]
      rfl
  · apply e_ret
    apply e_fn
    · (repeat' (first | (with_reducible first | exact DN.e_c | exact DN.e_nil | apply DN.e_set | apply DN.e_ret | apply DN.e_bin | apply DN.e_un | apply DN.e_fn | apply DN.e_cons | apply DN.e_b | apply DN.e_notT | apply DN.e_not | apply DN.e_and | apply DN.e_or | apply DN.e_andT | apply DN.e_orT | apply DN.e_chain | apply DN.e_asg | exact DN.o_add | exact DN.o_sub | exact DN.o_eqI | exact DN.o_neI | exact DN.o_I | exact DN.o_neg | exact DN.o_lst | exact DN.o_tup | exact DN.o_isN | exact DN.o_notN | exact DN.o_ty | exact DN.o_inst) | ((with_reducible apply DN.e_var); exact rfl) | exact DN.o_mulL (by decide) | exact DN.o_mulR (by decide) | exact DN.o_div (by decide) (by decide) | exact DN.o_mod (by decide) | exact DN.o_lenL | exact DN.o_lenT | exact DN.o_lenS))
    · rfl
end K02

set_option Elab.async false
set_option linter.all false
set_option maxRecDepth 100000
set_option maxHeartbeats 400000
namespace K02
open PySem PySem.Spec PyProof.Rows L2 DN
def farX (x : Int) : Int := pMax (-1000) (pMin 1000 (250 * x))
theorem farX_ok (x : Int) : -1000 ≤ farX x ∧ farX x ≤ 1000 := by
  unfold farX pMax pMin
  split <;> split <;> omega
theorem far_eq {r : List Int} (h : r.length < 1000000) : M_law_far [LI r] = some (LI (r.map farX)) := by
  refine fn_rt (ρ := [some (LI r), none]) rfl ?_
  unfold m_law_far
  apply e_ret
  refine e_lcI (e_lsI ?_) h fun x hx => ?_
  · (repeat' (first | (with_reducible first | exact DN.e_c | exact DN.e_nil | apply DN.e_set | apply DN.e_ret | apply DN.e_bin | apply DN.e_un | apply DN.e_fn | apply DN.e_cons | apply DN.e_b | apply DN.e_notT | apply DN.e_not | apply DN.e_and | apply DN.e_or | apply DN.e_andT | apply DN.e_orT | apply DN.e_chain | apply DN.e_asg | exact DN.o_add | exact DN.o_sub | exact DN.o_eqI | exact DN.o_neI | exact DN.o_I | exact DN.o_neg | exact DN.o_lst | exact DN.o_tup | exact DN.o_isN | exact DN.o_notN | exact DN.o_ty | exact DN.o_inst) | ((with_reducible apply DN.e_var); exact rfl) | exact DN.o_mulL (by decide) | exact DN.o_mulR (by decide) | exact DN.o_div (by decide) (by decide) | exact DN.o_mod (by decide) | exact DN.o_lenL | exact DN.o_lenT | exact DN.o_lenS))
  · (repeat' (first | (with_reducible first | exact DN.e_c | exact DN.e_nil | apply DN.e_set | apply DN.e_ret | apply DN.e_bin | apply DN.e_un | apply DN.e_fn | apply DN.e_cons | apply DN.e_b | apply DN.e_notT | apply DN.e_not | apply DN.e_and | apply DN.e_or | apply DN.e_andT | apply DN.e_orT | apply DN.e_chain | apply DN.e_asg | exact DN.o_add | exact DN.o_sub | exact DN.o_eqI | exact DN.o_neI | exact DN.o_I | exact DN.o_neg | exact DN.o_lst | exact DN.o_tup | exact DN.o_isN | exact DN.o_notN | exact DN.o_ty | exact DN.o_inst) | ((with_reducible apply DN.e_var); exact rfl) | exact DN.o_mulL (by decide) | exact DN.o_mulR (by decide) | exact DN.o_div (by decide) (by decide) | exact DN.o_mod (by decide) | exact DN.o_lenL | exact DN.o_lenT | exact DN.o_lenS | exact (show g2 pMin [.int 1000, .int (250 * x)] = some (.int (pMin 1000 (250 * x))) from rfl) | exact (show g2 pMax [.int (-1000), .int (pMin 1000 (250 * x))] = some (.int (farX x)) from rfl)))
def farW (w : Way) : Way := ⟨w.asks.map fun r => r.map farX, w.gives.map fun r => r.map farX⟩
theorem farR_ok {m : Nat} {r : List Int} (h : RowOk m r) : RowOk m (r.map farX) := ⟨by rw [List.length_map]; exact h.1, fun x hx => by
  obtain ⟨y, _, rfl⟩ := List.mem_map.mp hx
  exact farX_ok y⟩
theorem farW_ok {m : Nat} {w : Way} (h : WayOk m w) : WayOk m (farW w) := by
  obtain ⟨h1, h2, h3, h4⟩ := h
  refine ⟨by unfold farW; rw [List.length_map]; exact h1, fun r hr => ?_, by unfold farW; rw [List.length_map]; exact h3, fun r hr => ?_⟩
  · obtain ⟨q, hq, rfl⟩ := List.mem_map.mp hr
    exact farR_ok (h2 q hq)
  · obtain ⟨q, hq, rfl⟩ := List.mem_map.mp hr
    exact farR_ok (h4 q hq)
structure Lp where
  many : Nat
  ways : List Way
def dL (L : Lp) : D := .tup [.int (L.many : Nat), .lst (L.ways.map dW)]
structure LpOk (L : Lp) : Prop where
  m1 : 1 ≤ L.many
  m3 : L.many ≤ 3
  w1 : 1 ≤ L.ways.length
  w3 : L.ways.length ≤ 3
  ok : ∀ w ∈ L.ways, WayOk L.many w
def manyF (c : Int) : Nat := (([1, 2, 3, 1, 2, 2, 1, 3] : List Nat)[(c % 8).toNat]?).getD 1
def sizeF (c : Int) : Nat := (([1, 2, 1, 1, 2, 1, 3] : List Nat)[(c / 8 % 7).toNat]?).getD 1
theorem many_at (c : Int) : 1 ≤ manyF c ∧ manyF c ≤ 3 ∧ gIx (.lst [.int 1, .int 2, .int 3, .int 1, .int 2, .int 2, .int 1, .int 3]) (.int (c % 8)) = some (.int (manyF c : Nat)) := by
  unfold manyF
  have h : c % 8 = 0 ∨ c % 8 = 1 ∨ c % 8 = 2 ∨ c % 8 = 3 ∨ c % 8 = 4 ∨ c % 8 = 5 ∨ c % 8 = 6 ∨ c % 8 = 7 := by omega
  rcases h with h | h | h | h | h | h | h | h <;> rw [h] <;> exact ⟨by decide, by decide, rfl⟩
theorem size_at (c : Int) : 1 ≤ sizeF c ∧ sizeF c ≤ 3 ∧ gIx (.lst [.int 1, .int 2, .int 1, .int 1, .int 2, .int 1, .int 3]) (.int (c / 8 % 7)) = some (.int (sizeF c : Nat)) := by
  unfold sizeF
  have h : c / 8 % 7 = 0 ∨ c / 8 % 7 = 1 ∨ c / 8 % 7 = 2 ∨ c / 8 % 7 = 3 ∨ c / 8 % 7 = 4 ∨ c / 8 % 7 = 5 ∨ c / 8 % 7 = 6 := by omega
  rcases h with h | h | h | h | h | h | h <;> rw [h] <;> exact ⟨by decide, by decide, rfl⟩
def ways0 (ns : List Int) (at_ : Nat) : List Way := (List.range (sizeF (cell ns at_))).map fun k => wayF (cell ns (at_ + 1 + k)) (manyF (cell ns at_))
def loopF (ns : List Int) (at_ : Nat) : Lp := ⟨manyF (cell ns at_), if cell ns at_ / 56 % 8 = 5 then (ways0 ns at_).map farW else ways0 ns at_⟩
theorem ways0_ok (ns : List Int) (at_ : Nat) : ∀ w ∈ ways0 ns at_, WayOk (manyF (cell ns at_)) w := fun w hw => by
  obtain ⟨k, _, rfl⟩ := List.mem_map.mp hw
  exact wayF_ok _ _
theorem loopF_ok (ns : List Int) (at_ : Nat) : LpOk (loopF ns at_) := by
  obtain ⟨a1, a2, _⟩ := many_at (cell ns at_)
  obtain ⟨b1, b2, _⟩ := size_at (cell ns at_)
  have hl : (ways0 ns at_).length = sizeF (cell ns at_) := by unfold ways0; simp
  unfold loopF
  split
  · refine ⟨a1, a2, by simp only [List.length_map]; omega, by simp only [List.length_map]; omega, fun w hw => ?_⟩
    obtain ⟨v, hv, rfl⟩ := List.mem_map.mp hw
    exact farW_ok (ways0_ok ns at_ v hv)
  · exact ⟨a1, a2, by simp only; omega, by simp only; omega, ways0_ok ns at_⟩
theorem row_len {m : Nat} {w : Way} (hm : m ≤ 3) (h : WayOk m w) : w.asks.length < 1000000 ∧ w.gives.length < 1000000 ∧ (∀ r ∈ w.asks, r.length < 1000000) ∧ ∀ r ∈ w.gives, r.length < 1000000 := by
  obtain ⟨h1, h2, h3, h4⟩ := h
  exact ⟨by omega, by omega, fun r hr => by have := (h2 r hr).1; omega, fun r hr => by have := (h4 r hr).1; omega⟩
theorem far_loop {m : Nat} {a0 a1 a2 a3 a4 a5 a6 : Option D} (hm : m ≤ 3) : ∀ (ws : List Way) (acc : List D) (x8 x9 x10 : Option D), (∀ w ∈ ws, WayOk m w) → acc.length + ws.length < 1000 → ∃ y8 y9 y10,
    forGo [7] (bd2 8 9) (sApp 7 (ev false [7] (dFn (fun ds => some (.tup ds)) (dCons (dLc [10] (dLs (dVar 8)) (bd1 10) tYesD (dFn M_law_far (dCons (dVar 10) dNil))) (dCons (dLc [10] (dLs (dVar 9)) (bd1 10) tYesD (dFn M_law_far (dCons (dVar 10) dNil))) dNil))))) (ws.map dW)
      [a0, a1, a2, a3, a4, a5, a6, some (.lst acc), x8, x9, x10] = some (.nx [a0, a1, a2, a3, a4, a5, a6, some (.lst (acc ++ (ws.map farW).map dW)), y8, y9, y10])
  | [], acc, x8, x9, x10, _, _ => ⟨x8, x9, x10, by simp [forGo]⟩
  | w :: ws, acc, x8, x9, x10, h, hl => by
    obtain ⟨l1, l2, l3, l4⟩ := row_len hm (h w List.mem_cons_self)
    rw [List.length_cons] at hl
    obtain ⟨y8, y9, y10, e⟩ := far_loop hm ws (acc ++ [dW (farW w)]) (some (LR w.asks)) (some (LR w.gives)) x10 (fun v hv => h v (List.mem_cons_of_mem _ hv)) (by rw [List.length_append, List.length_singleton]; omega)
    refine ⟨y8, y9, y10, ?_⟩
    rw [List.map_cons, forGo]
    have hb : bd2 8 9 (dW w) (wipeD [a0, a1, a2, a3, a4, a5, a6, some (D.lst acc), x8, x9, x10] [7]) = some [a0, a1, a2, a3, a4, a5, a6, none, some (LR w.asks), some (LR w.gives), x10] := rfl
    rw [hb]
    simp only [Option.bind_some]
    have hg : mrg [7] [a0, a1, a2, a3, a4, a5, a6, some (D.lst acc), x8, x9, x10] [a0, a1, a2, a3, a4, a5, a6, none, some (LR w.asks), some (LR w.gives), x10] = [a0, a1, a2, a3, a4, a5, a6, some (D.lst acc), some (LR w.asks), some (LR w.gives), x10] := rfl
    rw [hg, e_app (d := dW (farW w)) (ds := acc) ?_ rfl (by omega)]
    · simp only [Option.bind_some]
      have hs : (List.set [a0, a1, a2, a3, a4, a5, a6, some (D.lst acc), some (LR w.asks), some (LR w.gives), x10] 7 (some (D.lst (acc ++ [dW (farW w)])))) = [a0, a1, a2, a3, a4, a5, a6, some (D.lst (acc ++ [dW (farW w)])), some (LR w.asks), some (LR w.gives), x10] := rfl
      rw [hs, e]
      simp [List.append_assoc]
    · apply e_fn
      · apply e_cons
        · refine e_lcLL (l := w.asks) (g := fun r => r.map farX) (e_lsR ?_) l1 fun r hr => ?_
          · (repeat' (first | (with_reducible first | exact DN.e_c | exact DN.e_nil | apply DN.e_set | apply DN.e_ret | apply DN.e_bin | apply DN.e_un | apply DN.e_fn | apply DN.e_cons | apply DN.e_b | apply DN.e_notT | apply DN.e_not | apply DN.e_and | apply DN.e_or | apply DN.e_andT | apply DN.e_orT | apply DN.e_chain | apply DN.e_asg | exact DN.o_add | exact DN.o_sub | exact DN.o_eqI | exact DN.o_neI | exact DN.o_I | exact DN.o_neg | exact DN.o_lst | exact DN.o_tup | exact DN.o_isN | exact DN.o_notN | exact DN.o_ty | exact DN.o_inst) | ((with_reducible apply DN.e_var); exact rfl) | exact DN.o_mulL (by decide) | exact DN.o_mulR (by decide) | exact DN.o_div (by decide) (by decide) | exact DN.o_mod (by decide) | exact DN.o_lenL | exact DN.o_lenT | exact DN.o_lenS))
          · (repeat' (first | (with_reducible first | exact DN.e_c | exact DN.e_nil | apply DN.e_set | apply DN.e_ret | apply DN.e_bin | apply DN.e_un | apply DN.e_fn | apply DN.e_cons | apply DN.e_b | apply DN.e_notT | apply DN.e_not | apply DN.e_and | apply DN.e_or | apply DN.e_andT | apply DN.e_orT | apply DN.e_chain | apply DN.e_asg | exact DN.o_add | exact DN.o_sub | exact DN.o_eqI | exact DN.o_neI | exact DN.o_I | exact DN.o_neg | exact DN.o_lst | exact DN.o_tup | exact DN.o_isN | exact DN.o_notN | exact DN.o_ty | exact DN.o_inst) | ((with_reducible apply DN.e_var); exact rfl) | exact DN.o_mulL (by decide) | exact DN.o_mulR (by decide) | exact DN.o_div (by decide) (by decide) | exact DN.o_mod (by decide) | exact DN.o_lenL | exact DN.o_lenT | exact DN.o_lenS | exact far_eq (l3 r hr)))
        · apply e_cons
          · refine e_lcLL (l := w.gives) (g := fun r => r.map farX) (e_lsR ?_) l2 fun r hr => ?_
            · (repeat' (first | (with_reducible first | exact DN.e_c | exact DN.e_nil | apply DN.e_set | apply DN.e_ret | apply DN.e_bin | apply DN.e_un | apply DN.e_fn | apply DN.e_cons | apply DN.e_b | apply DN.e_notT | apply DN.e_not | apply DN.e_and | apply DN.e_or | apply DN.e_andT | apply DN.e_orT | apply DN.e_chain | apply DN.e_asg | exact DN.o_add | exact DN.o_sub | exact DN.o_eqI | exact DN.o_neI | exact DN.o_I | exact DN.o_neg | exact DN.o_lst | exact DN.o_tup | exact DN.o_isN | exact DN.o_notN | exact DN.o_ty | exact DN.o_inst) | ((with_reducible apply DN.e_var); exact rfl) | exact DN.o_mulL (by decide) | exact DN.o_mulR (by decide) | exact DN.o_div (by decide) (by decide) | exact DN.o_mod (by decide) | exact DN.o_lenL | exact DN.o_lenT | exact DN.o_lenS))
            · (repeat' (first | (with_reducible first | exact DN.e_c | exact DN.e_nil | apply DN.e_set | apply DN.e_ret | apply DN.e_bin | apply DN.e_un | apply DN.e_fn | apply DN.e_cons | apply DN.e_b | apply DN.e_notT | apply DN.e_not | apply DN.e_and | apply DN.e_or | apply DN.e_andT | apply DN.e_orT | apply DN.e_chain | apply DN.e_asg | exact DN.o_add | exact DN.o_sub | exact DN.o_eqI | exact DN.o_neI | exact DN.o_I | exact DN.o_neg | exact DN.o_lst | exact DN.o_tup | exact DN.o_isN | exact DN.o_notN | exact DN.o_ty | exact DN.o_inst) | ((with_reducible apply DN.e_var); exact rfl) | exact DN.o_mulL (by decide) | exact DN.o_mulR (by decide) | exact DN.o_div (by decide) (by decide) | exact DN.o_mod (by decide) | exact DN.o_lenL | exact DN.o_lenT | exact DN.o_lenS | exact far_eq (l4 r hr)))
          · exact e_nil
      · rfl
theorem loop_eq {ns : List Int} {at_ : Nat} : M_law_loop_by [.scr ns, .int (at_ : Nat)] = some (dL (loopF ns at_)) := by
  obtain ⟨a1, a2, a3⟩ := many_at (cell ns at_)
  obtain ⟨b1, b2, b3⟩ := size_at (cell ns at_)
  refine fn_rt (ρ := [some (.scr ns), some (.int (at_ : Nat)), none, none, none, none, none, none, none, none, none]) rfl ?_
  unfold m_law_loop_by
  apply e_seq
  · (repeat' (first | (with_reducible first | exact DN.e_c | exact DN.e_nil | apply DN.e_set | apply DN.e_ret | apply DN.e_bin | apply DN.e_un | apply DN.e_fn | apply DN.e_cons | apply DN.e_b | apply DN.e_notT | apply DN.e_not | apply DN.e_and | apply DN.e_or | apply DN.e_andT | apply DN.e_orT | apply DN.e_chain | apply DN.e_asg | exact DN.o_add | exact DN.o_sub | exact DN.o_eqI | exact DN.o_neI | exact DN.o_I | exact DN.o_neg | exact DN.o_lst | exact DN.o_tup | exact DN.o_isN | exact DN.o_notN | exact DN.o_ty | exact DN.o_inst) | ((with_reducible apply DN.e_var); exact rfl) | exact DN.o_mulL (by decide) | exact DN.o_mulR (by decide) | exact DN.o_div (by decide) (by decide) | exact DN.o_mod (by decide) | exact DN.o_lenL | exact DN.o_lenT | exact DN.o_lenS | exact cell_eq))
  apply e_seq
  · (repeat' (first | (with_reducible first | exact DN.e_c | exact DN.e_nil | apply DN.e_set | apply DN.e_ret | apply DN.e_bin | apply DN.e_un | apply DN.e_fn | apply DN.e_cons | apply DN.e_b | apply DN.e_notT | apply DN.e_not | apply DN.e_and | apply DN.e_or | apply DN.e_andT | apply DN.e_orT | apply DN.e_chain | apply DN.e_asg | exact DN.o_add | exact DN.o_sub | exact DN.o_eqI | exact DN.o_neI | exact DN.o_I | exact DN.o_neg | exact DN.o_lst | exact DN.o_tup | exact DN.o_isN | exact DN.o_notN | exact DN.o_ty | exact DN.o_inst) | ((with_reducible apply DN.e_var); exact rfl) | exact DN.o_mulL (by decide) | exact DN.o_mulR (by decide) | exact DN.o_div (by decide) (by decide) | exact DN.o_mod (by decide) | exact DN.o_lenL | exact DN.o_lenT | exact DN.o_lenS | exact a3))
  apply e_seq
  · (repeat' (first | (with_reducible first | exact DN.e_c | exact DN.e_nil | apply DN.e_set | apply DN.e_ret | apply DN.e_bin | apply DN.e_un | apply DN.e_fn | apply DN.e_cons | apply DN.e_b | apply DN.e_notT | apply DN.e_not | apply DN.e_and | apply DN.e_or | apply DN.e_andT | apply DN.e_orT | apply DN.e_chain | apply DN.e_asg | exact DN.o_add | exact DN.o_sub | exact DN.o_eqI | exact DN.o_neI | exact DN.o_I | exact DN.o_neg | exact DN.o_lst | exact DN.o_tup | exact DN.o_isN | exact DN.o_notN | exact DN.o_ty | exact DN.o_inst) | ((with_reducible apply DN.e_var); exact rfl) | exact DN.o_mulL (by decide) | exact DN.o_mulR (by decide) | exact DN.o_div (by decide) (by decide) | exact DN.o_mod (by decide) | exact DN.o_lenL | exact DN.o_lenT | exact DN.o_lenS | exact b3))
  apply e_seq
  · apply e_set
    refine e_lc (l := List.range (sizeF (cell ns at_))) (emb := fun k : Nat => D.int (k : Nat)) (f := fun k => dW (wayF (cell ns (at_ + 1 + k)) (manyF (cell ns at_)))) (e_rng (n := sizeF (cell ns at_)) ?_ (by omega)) (by simp; omega) fun j hj => ?_
    · (repeat' (first | (with_reducible first | exact DN.e_c | exact DN.e_nil | apply DN.e_set | apply DN.e_ret | apply DN.e_bin | apply DN.e_un | apply DN.e_fn | apply DN.e_cons | apply DN.e_b | apply DN.e_notT | apply DN.e_not | apply DN.e_and | apply DN.e_or | apply DN.e_andT | apply DN.e_orT | apply DN.e_chain | apply DN.e_asg | exact DN.o_add | exact DN.o_sub | exact DN.o_eqI | exact DN.o_neI | exact DN.o_I | exact DN.o_neg | exact DN.o_lst | exact DN.o_tup | exact DN.o_isN | exact DN.o_notN | exact DN.o_ty | exact DN.o_inst) | ((with_reducible apply DN.e_var); exact rfl) | exact DN.o_mulL (by decide) | exact DN.o_mulR (by decide) | exact DN.o_div (by decide) (by decide) | exact DN.o_mod (by decide) | exact DN.o_lenL | exact DN.o_lenT | exact DN.o_lenS))
    · (repeat' (first | (with_reducible first | exact DN.e_c | exact DN.e_nil | apply DN.e_set | apply DN.e_ret | apply DN.e_bin | apply DN.e_un | apply DN.e_fn | apply DN.e_cons | apply DN.e_b | apply DN.e_notT | apply DN.e_not | apply DN.e_and | apply DN.e_or | apply DN.e_andT | apply DN.e_orT | apply DN.e_chain | apply DN.e_asg | exact DN.o_add | exact DN.o_sub | exact DN.o_eqI | exact DN.o_neI | exact DN.o_I | exact DN.o_neg | exact DN.o_lst | exact DN.o_tup | exact DN.o_isN | exact DN.o_notN | exact DN.o_ty | exact DN.o_inst) | ((with_reducible apply DN.e_var); exact rfl) | exact DN.o_mulL (by decide) | exact DN.o_mulR (by decide) | exact DN.o_div (by decide) (by decide) | exact DN.o_mod (by decide) | exact DN.o_lenL | exact DN.o_lenT | exact DN.o_lenS | exact (show M_law_cell_at [.scr ns, .int ((at_ : Nat) + 1 + (j : Nat))] = some (.int (cell ns (at_ + 1 + j))) from cell_eq (k := at_ + 1 + j)) | exact way_eq (c := cell ns (at_ + 1 + j)) (m := manyF (cell ns at_)) (by omega)))
  -- far ones
  have hw : (List.range (sizeF (cell ns at_))).map (fun k => dW (wayF (cell ns (at_ + 1 + k)) (manyF (cell ns at_)))) = (ways0 ns at_).map dW := by
    unfold ways0
    rw [List.map_map]
    rfl
  rw [hw]
  have hl : (ways0 ns at_).length = sizeF (cell ns at_) := by unfold ways0; simp
  by_cases h : cell ns at_ / 56 % 8 = 5
  · obtain ⟨y8, y9, y10, e⟩ := far_loop (a0 := some (.scr ns)) (a1 := some (.int (at_ : Nat))) (a2 := some (.int (cell ns at_))) (a3 := some (.int (manyF (cell ns at_) : Nat))) (a4 := some (.int (sizeF (cell ns at_) : Nat))) (a5 := some (.lst ((ways0 ns at_).map dW))) (a6 := none) a2 (ways0 ns at_) [] none none none (ways0_ok ns at_) (by rw [hl]; simp; omega)
    apply e_seq
    · refine e_if (k := (cell ns at_ / 56 % 8 == 5)) ?_ ?_
      · (repeat' (first | (with_reducible first | exact DN.e_c | exact DN.e_nil | apply DN.e_set | apply DN.e_ret | apply DN.e_bin | apply DN.e_un | apply DN.e_fn | apply DN.e_cons | apply DN.e_b | apply DN.e_notT | apply DN.e_not | apply DN.e_and | apply DN.e_or | apply DN.e_andT | apply DN.e_orT | apply DN.e_chain | apply DN.e_asg | exact DN.o_add | exact DN.o_sub | exact DN.o_eqI | exact DN.o_neI | exact DN.o_I | exact DN.o_neg | exact DN.o_lst | exact DN.o_tup | exact DN.o_isN | exact DN.o_notN | exact DN.o_ty | exact DN.o_inst) | ((with_reducible apply DN.e_var); exact rfl) | exact DN.o_mulL (by decide) | exact DN.o_mulR (by decide) | exact DN.o_div (by decide) (by decide) | exact DN.o_mod (by decide) | exact DN.o_lenL | exact DN.o_lenT | exact DN.o_lenS))
      · rw [if_pos (by simpa using h)]
        apply e_seq
        · exact (rfl : sLst 7 [] dNil _ = some (.nx _))
        · apply e_seq
          · unfold sFor
            rw [show (dLs (dVar 5) (wipeD _ [7])) = some ((ways0 ns at_).map dW) from rfl]
            simp only [Option.bind_some]
            exact e
          · (repeat' (first | (with_reducible first | exact DN.e_c | exact DN.e_nil | apply DN.e_set | apply DN.e_ret | apply DN.e_bin | apply DN.e_un | apply DN.e_fn | apply DN.e_cons | apply DN.e_b | apply DN.e_notT | apply DN.e_not | apply DN.e_and | apply DN.e_or | apply DN.e_andT | apply DN.e_orT | apply DN.e_chain | apply DN.e_asg | exact DN.o_add | exact DN.o_sub | exact DN.o_eqI | exact DN.o_neI | exact DN.o_I | exact DN.o_neg | exact DN.o_lst | exact DN.o_tup | exact DN.o_isN | exact DN.o_notN | exact DN.o_ty | exact DN.o_inst) | ((with_reducible apply DN.e_var); exact rfl) | exact DN.o_mulL (by decide) | exact DN.o_mulR (by decide) | exact DN.o_div (by decide) (by decide) | exact DN.o_mod (by decide) | exact DN.o_lenL | exact DN.o_lenT | exact DN.o_lenS))
    · unfold loopF
      rw [if_pos h]
      apply e_ret
      apply e_fn
      · (repeat' (first | (with_reducible first | exact DN.e_c | exact DN.e_nil | apply DN.e_set | apply DN.e_ret | apply DN.e_bin | apply DN.e_un | apply DN.e_fn | apply DN.e_cons | apply DN.e_b | apply DN.e_notT | apply DN.e_not | apply DN.e_and | apply DN.e_or | apply DN.e_andT | apply DN.e_orT | apply DN.e_chain | apply DN.e_asg | exact DN.o_add | exact DN.o_sub | exact DN.o_eqI | exact DN.o_neI | exact DN.o_I | exact DN.o_neg | exact DN.o_lst | exact DN.o_tup | exact DN.o_isN | exact DN.o_notN | exact DN.o_ty | exact DN.o_inst) | ((with_reducible apply DN.e_var); exact rfl) | exact DN.o_mulL (by decide) | exact DN.o_mulR (by decide) | exact DN.o_div (by decide) (by decide) | exact DN.o_mod (by decide) | exact DN.o_lenL | exact DN.o_lenT | exact DN.o_lenS))
      · rfl
  · apply e_seq
    · refine e_if (k := (cell ns at_ / 56 % 8 == 5)) ?_ ?_
      · (repeat' (first | (with_reducible first | exact DN.e_c | exact DN.e_nil | apply DN.e_set | apply DN.e_ret | apply DN.e_bin | apply DN.e_un | apply DN.e_fn | apply DN.e_cons | apply DN.e_b | apply DN.e_notT | apply DN.e_not | apply DN.e_and | apply DN.e_or | apply DN.e_andT | apply DN.e_orT | apply DN.e_chain | apply DN.e_asg | exact DN.o_add | exact DN.o_sub | exact DN.o_eqI | exact DN.o_neI | exact DN.o_I | exact DN.o_neg | exact DN.o_lst | exact DN.o_tup | exact DN.o_isN | exact DN.o_notN | exact DN.o_ty | exact DN.o_inst) | ((with_reducible apply DN.e_var); exact rfl) | exact DN.o_mulL (by decide) | exact DN.o_mulR (by decide) | exact DN.o_div (by decide) (by decide) | exact DN.o_mod (by decide) | exact DN.o_lenL | exact DN.o_lenT | exact DN.o_lenS))
      · rw [if_neg (by simpa using h)]
        exact e_nx
    · unfold loopF
      rw [if_neg h]
      apply e_ret
      apply e_fn
      · (repeat' (first | (with_reducible first | exact DN.e_c | exact DN.e_nil | apply DN.e_set | apply DN.e_ret | apply DN.e_bin | apply DN.e_un | apply DN.e_fn | apply DN.e_cons | apply DN.e_b | apply DN.e_notT | apply DN.e_not | apply DN.e_and | apply DN.e_or | apply DN.e_andT | apply DN.e_orT | apply DN.e_chain | apply DN.e_asg | exact DN.o_add | exact DN.o_sub | exact DN.o_eqI | exact DN.o_neI | exact DN.o_I | exact DN.o_neg | exact DN.o_lst | exact DN.o_tup | exact DN.o_isN | exact DN.o_notN | exact DN.o_ty | exact DN.o_inst) | ((with_reducible apply DN.e_var); exact rfl) | exact DN.o_mulL (by decide) | exact DN.o_mulR (by decide) | exact DN.o_div (by decide) (by decide) | exact DN.o_mod (by decide) | exact DN.o_lenL | exact DN.o_lenT | exact DN.o_lenS))
      · rfl
/-! copies -/
def Cp : Nat → D → Prop
  | 0, _ => False
  | _ + 1, .int _ => True
  | n + 1, .lst ds => ds.length < 1000000 ∧ ∀ d ∈ ds, Cp n d
  | n + 1, .tup ds => ds.length < 1000000 ∧ ∀ d ∈ ds, Cp n d
  | _ + 1, _ => False
theorem copied_eq : ∀ (n : Nat) (d : D), Cp n d → M_law_copied_n n [d] = some d
  | n + 1, .int i, _ => by
    refine fn_rt (ρ := [some (.int i), none]) rfl ?_
    unfold m_law_copied
    apply e_seq
    · apply e_ifF
      · (repeat' (first | (with_reducible first | exact DN.e_c | exact DN.e_nil | apply DN.e_set | apply DN.e_ret | apply DN.e_bin | apply DN.e_un | apply DN.e_fn | apply DN.e_cons | apply DN.e_b | apply DN.e_notT | apply DN.e_not | apply DN.e_and | apply DN.e_or | apply DN.e_andT | apply DN.e_orT | apply DN.e_chain | apply DN.e_asg | exact DN.o_add | exact DN.o_sub | exact DN.o_eqI | exact DN.o_neI | exact DN.o_I | exact DN.o_neg | exact DN.o_lst | exact DN.o_tup | exact DN.o_isN | exact DN.o_notN | exact DN.o_ty | exact DN.o_inst) | ((with_reducible apply DN.e_var); exact rfl) | exact DN.o_mulL (by decide) | exact DN.o_mulR (by decide) | exact DN.o_div (by decide) (by decide) | exact DN.o_mod (by decide) | exact DN.o_lenL | exact DN.o_lenT | exact DN.o_lenS))
        rfl
      · exact e_nx
    · apply e_seq
      · apply e_ifF
        · (repeat' (first | (with_reducible first | exact DN.e_c | exact DN.e_nil | apply DN.e_set | apply DN.e_ret | apply DN.e_bin | apply DN.e_un | apply DN.e_fn | apply DN.e_cons | apply DN.e_b | apply DN.e_notT | apply DN.e_not | apply DN.e_and | apply DN.e_or | apply DN.e_andT | apply DN.e_orT | apply DN.e_chain | apply DN.e_asg | exact DN.o_add | exact DN.o_sub | exact DN.o_eqI | exact DN.o_neI | exact DN.o_I | exact DN.o_neg | exact DN.o_lst | exact DN.o_tup | exact DN.o_isN | exact DN.o_notN | exact DN.o_ty | exact DN.o_inst) | ((with_reducible apply DN.e_var); exact rfl) | exact DN.o_mulL (by decide) | exact DN.o_mulR (by decide) | exact DN.o_div (by decide) (by decide) | exact DN.o_mod (by decide) | exact DN.o_lenL | exact DN.o_lenT | exact DN.o_lenS))
          rfl
        · exact e_nx
      · (repeat' (first | (with_reducible first | exact DN.e_c | exact DN.e_nil | apply DN.e_set | apply DN.e_ret | apply DN.e_bin | apply DN.e_un | apply DN.e_fn | apply DN.e_cons | apply DN.e_b | apply DN.e_notT | apply DN.e_not | apply DN.e_and | apply DN.e_or | apply DN.e_andT | apply DN.e_orT | apply DN.e_chain | apply DN.e_asg | exact DN.o_add | exact DN.o_sub | exact DN.o_eqI | exact DN.o_neI | exact DN.o_I | exact DN.o_neg | exact DN.o_lst | exact DN.o_tup | exact DN.o_isN | exact DN.o_notN | exact DN.o_ty | exact DN.o_inst) | ((with_reducible apply DN.e_var); exact rfl) | exact DN.o_mulL (by decide) | exact DN.o_mulR (by decide) | exact DN.o_div (by decide) (by decide) | exact DN.o_mod (by decide) | exact DN.o_lenL | exact DN.o_lenT | exact DN.o_lenS))
  | n + 1, .lst ds, h => by
    refine fn_rt (ρ := [some (.lst ds), none]) rfl ?_
    unfold m_law_copied
    apply e_seqR
    apply e_ifT
    · (repeat' (first | (with_reducible first | exact DN.e_c | exact DN.e_nil | apply DN.e_set | apply DN.e_ret | apply DN.e_bin | apply DN.e_un | apply DN.e_fn | apply DN.e_cons | apply DN.e_b | apply DN.e_notT | apply DN.e_not | apply DN.e_and | apply DN.e_or | apply DN.e_andT | apply DN.e_orT | apply DN.e_chain | apply DN.e_asg | exact DN.o_add | exact DN.o_sub | exact DN.o_eqI | exact DN.o_neI | exact DN.o_I | exact DN.o_neg | exact DN.o_lst | exact DN.o_tup | exact DN.o_isN | exact DN.o_notN | exact DN.o_ty | exact DN.o_inst) | ((with_reducible apply DN.e_var); exact rfl) | exact DN.o_mulL (by decide) | exact DN.o_mulR (by decide) | exact DN.o_div (by decide) (by decide) | exact DN.o_mod (by decide) | exact DN.o_lenL | exact DN.o_lenT | exact DN.o_lenS))
      rfl
    · apply e_ret
      refine e_lcAll (e_ls ?_) h.1 fun d hd => ⟨rfl, ?_⟩
      · (repeat' (first | (with_reducible first | exact DN.e_c | exact DN.e_nil | apply DN.e_set | apply DN.e_ret | apply DN.e_bin | apply DN.e_un | apply DN.e_fn | apply DN.e_cons | apply DN.e_b | apply DN.e_notT | apply DN.e_not | apply DN.e_and | apply DN.e_or | apply DN.e_andT | apply DN.e_orT | apply DN.e_chain | apply DN.e_asg | exact DN.o_add | exact DN.o_sub | exact DN.o_eqI | exact DN.o_neI | exact DN.o_I | exact DN.o_neg | exact DN.o_lst | exact DN.o_tup | exact DN.o_isN | exact DN.o_notN | exact DN.o_ty | exact DN.o_inst) | ((with_reducible apply DN.e_var); exact rfl) | exact DN.o_mulL (by decide) | exact DN.o_mulR (by decide) | exact DN.o_div (by decide) (by decide) | exact DN.o_mod (by decide) | exact DN.o_lenL | exact DN.o_lenT | exact DN.o_lenS))
      · (repeat' (first | (with_reducible first | exact DN.e_c | exact DN.e_nil | apply DN.e_set | apply DN.e_ret | apply DN.e_bin | apply DN.e_un | apply DN.e_fn | apply DN.e_cons | apply DN.e_b | apply DN.e_notT | apply DN.e_not | apply DN.e_and | apply DN.e_or | apply DN.e_andT | apply DN.e_orT | apply DN.e_chain | apply DN.e_asg | exact DN.o_add | exact DN.o_sub | exact DN.o_eqI | exact DN.o_neI | exact DN.o_I | exact DN.o_neg | exact DN.o_lst | exact DN.o_tup | exact DN.o_isN | exact DN.o_notN | exact DN.o_ty | exact DN.o_inst) | ((with_reducible apply DN.e_var); exact rfl) | exact DN.o_mulL (by decide) | exact DN.o_mulR (by decide) | exact DN.o_div (by decide) (by decide) | exact DN.o_mod (by decide) | exact DN.o_lenL | exact DN.o_lenT | exact DN.o_lenS | exact copied_eq n d (h.2 d hd)))
  | n + 1, .tup ds, h => by
    refine fn_rt (ρ := [some (.tup ds), none]) rfl ?_
    unfold m_law_copied
    apply e_seq
    · apply e_ifF
      · (repeat' (first | (with_reducible first | exact DN.e_c | exact DN.e_nil | apply DN.e_set | apply DN.e_ret | apply DN.e_bin | apply DN.e_un | apply DN.e_fn | apply DN.e_cons | apply DN.e_b | apply DN.e_notT | apply DN.e_not | apply DN.e_and | apply DN.e_or | apply DN.e_andT | apply DN.e_orT | apply DN.e_chain | apply DN.e_asg | exact DN.o_add | exact DN.o_sub | exact DN.o_eqI | exact DN.o_neI | exact DN.o_I | exact DN.o_neg | exact DN.o_lst | exact DN.o_tup | exact DN.o_isN | exact DN.o_notN | exact DN.o_ty | exact DN.o_inst) | ((with_reducible apply DN.e_var); exact rfl) | exact DN.o_mulL (by decide) | exact DN.o_mulR (by decide) | exact DN.o_div (by decide) (by decide) | exact DN.o_mod (by decide) | exact DN.o_lenL | exact DN.o_lenT | exact DN.o_lenS))
        rfl
      · exact e_nx
    · apply e_seqR
      apply e_ifT
      · (repeat' (first | (with_reducible first | exact DN.e_c | exact DN.e_nil | apply DN.e_set | apply DN.e_ret | apply DN.e_bin | apply DN.e_un | apply DN.e_fn | apply DN.e_cons | apply DN.e_b | apply DN.e_notT | apply DN.e_not | apply DN.e_and | apply DN.e_or | apply DN.e_andT | apply DN.e_orT | apply DN.e_chain | apply DN.e_asg | exact DN.o_add | exact DN.o_sub | exact DN.o_eqI | exact DN.o_neI | exact DN.o_I | exact DN.o_neg | exact DN.o_lst | exact DN.o_tup | exact DN.o_isN | exact DN.o_notN | exact DN.o_ty | exact DN.o_inst) | ((with_reducible apply DN.e_var); exact rfl) | exact DN.o_mulL (by decide) | exact DN.o_mulR (by decide) | exact DN.o_div (by decide) (by decide) | exact DN.o_mod (by decide) | exact DN.o_lenL | exact DN.o_lenT | exact DN.o_lenS))
        rfl
      · apply e_ret
        apply e_fn
        · apply e_cons
          · refine e_lcAll (e_tu ?_) h.1 fun d hd => ⟨rfl, ?_⟩
            · (repeat' (first | (with_reducible first | exact DN.e_c | exact DN.e_nil | apply DN.e_set | apply DN.e_ret | apply DN.e_bin | apply DN.e_un | apply DN.e_fn | apply DN.e_cons | apply DN.e_b | apply DN.e_notT | apply DN.e_not | apply DN.e_and | apply DN.e_or | apply DN.e_andT | apply DN.e_orT | apply DN.e_chain | apply DN.e_asg | exact DN.o_add | exact DN.o_sub | exact DN.o_eqI | exact DN.o_neI | exact DN.o_I | exact DN.o_neg | exact DN.o_lst | exact DN.o_tup | exact DN.o_isN | exact DN.o_notN | exact DN.o_ty | exact DN.o_inst) | ((with_reducible apply DN.e_var); exact rfl) | exact DN.o_mulL (by decide) | exact DN.o_mulR (by decide) | exact DN.o_div (by decide) (by decide) | exact DN.o_mod (by decide) | exact DN.o_lenL | exact DN.o_lenT | exact DN.o_lenS))
            · (repeat' (first | (with_reducible first | exact DN.e_c | exact DN.e_nil | apply DN.e_set | apply DN.e_ret | apply DN.e_bin | apply DN.e_un | apply DN.e_fn | apply DN.e_cons | apply DN.e_b | apply DN.e_notT | apply DN.e_not | apply DN.e_and | apply DN.e_or | apply DN.e_andT | apply DN.e_orT | apply DN.e_chain | apply DN.e_asg | exact DN.o_add | exact DN.o_sub | exact DN.o_eqI | exact DN.o_neI | exact DN.o_I | exact DN.o_neg | exact DN.o_lst | exact DN.o_tup | exact DN.o_isN | exact DN.o_notN | exact DN.o_ty | exact DN.o_inst) | ((with_reducible apply DN.e_var); exact rfl) | exact DN.o_mulL (by decide) | exact DN.o_mulR (by decide) | exact DN.o_div (by decide) (by decide) | exact DN.o_mod (by decide) | exact DN.o_lenL | exact DN.o_lenT | exact DN.o_lenS | exact copied_eq n d (h.2 d hd)))
          · exact e_nil
        · rfl
theorem cp_LI {n : Nat} {l : List Int} (h : l.length < 1000000) : Cp (n + 2) (LI l) := ⟨by rw [List.length_map]; exact h, fun d hd => by
  obtain ⟨x, _, rfl⟩ := List.mem_map.mp hd
  trivial⟩
theorem cp_LR {n : Nat} {l : List (List Int)} (h : l.length < 1000000) (h2 : ∀ r ∈ l, r.length < 1000000) : Cp (n + 3) (LR l) := ⟨by rw [List.length_map]; exact h, fun d hd => by
  obtain ⟨x, hx, rfl⟩ := List.mem_map.mp hd
  exact cp_LI (h2 x hx)⟩
theorem cp_dL {n : Nat} {L : Lp} (h : LpOk L) : Cp (n + 6) (dL L) := by
  refine ⟨by simp, fun d hd => ?_⟩
  rcases List.mem_cons.mp hd with rfl | hd
  · trivial
  · rw [List.mem_singleton.mp hd]
    refine ⟨by rw [List.length_map]; have := h.w3; omega, fun d hd => ?_⟩
    obtain ⟨w, hw, rfl⟩ := List.mem_map.mp hd
    obtain ⟨l1, l2, l3, l4⟩ := row_len h.m3 (h.ok w hw)
    refine ⟨by simp, fun d hd => ?_⟩
    rcases List.mem_cons.mp hd with rfl | hd
    · exact cp_LR l1 l3
    · rw [List.mem_singleton.mp hd]
      exact cp_LR l2 l4
theorem eq_dL {L : Lp} : EqOk 10 (dL L) := eq_tup (n := 9) fun d hd => by
  rcases List.mem_cons.mp hd with rfl | hd
  · exact eq_int
  · rw [List.mem_singleton.mp hd]
    refine eq_lst (n := 8) fun d hd => ?_
    obtain ⟨w, hw, rfl⟩ := List.mem_map.mp hd
    refine eq_tup (n := 7) fun d hd => ?_
    rcases List.mem_cons.mp hd with rfl | hd
    · exact eq_LR (n := 5)
    · rw [List.mem_singleton.mp hd]
      exact eq_LR (n := 5)
end K02

set_option Elab.async false
set_option linter.all false
set_option maxRecDepth 100000
set_option maxHeartbeats 400000
namespace K02
open PySem PySem.Spec PyProof.Rows L2 DN
/-! ### what the program's functions come to -/
def isI : D → Bool
  | .int _ => true
  | _ => false
theorem whole_eq {d : D} : M_is_whole [d] = some (.bl (isI d)) := by
  refine fn_rt (ρ := [some d]) rfl ?_
  unfold m_is_whole
  apply e_ret
  have e : gTy false "int" d = some (.bl (isI d)) := by cases d <;> rfl
  (repeat' (first | (with_reducible first | exact DN.e_c | exact DN.e_nil | apply DN.e_set | apply DN.e_ret | apply DN.e_bin | apply DN.e_un | apply DN.e_fn | apply DN.e_cons | apply DN.e_b | apply DN.e_notT | apply DN.e_not | apply DN.e_and | apply DN.e_or | apply DN.e_andT | apply DN.e_orT | apply DN.e_chain | apply DN.e_asg | exact DN.o_add | exact DN.o_sub | exact DN.o_eqI | exact DN.o_neI | exact DN.o_I | exact DN.o_neg | exact DN.o_lst | exact DN.o_tup | exact DN.o_isN | exact DN.o_notN | exact DN.o_ty | exact DN.o_inst) | ((with_reducible apply DN.e_var); exact rfl) | exact DN.o_mulL (by decide) | exact DN.o_mulR (by decide) | exact DN.o_div (by decide) (by decide) | exact DN.o_mod (by decide) | exact DN.o_lenL | exact DN.o_lenT | exact DN.o_lenS | exact e))
def within (lo hi : Int) : D → Bool
  | .int i => decide (lo ≤ i) && decide (i ≤ hi)
  | _ => false
theorem within_true {lo hi i : Int} (h1 : lo ≤ i) (h2 : i ≤ hi) : within lo hi (.int i) = true := by
  show (decide (lo ≤ i) && decide (i ≤ hi)) = true
  rw [decide_eq_true h1, decide_eq_true h2]
  rfl
theorem within_eq {d : D} {lo hi : Int} : M_is_whole_within [d, .int lo, .int hi] = some (.bl (within lo hi d)) := by
  refine fn_rt (ρ := [some d, some (.int lo), some (.int hi)]) rfl ?_
  unfold m_is_whole_within
  apply e_ret
  cases d with
  | int i =>
    have e : within lo hi (.int i) = (true && (pLe lo i && pLe i hi)) := rfl
    rw [e]
    apply e_and
    · (repeat' (first | (with_reducible first | exact DN.e_c | exact DN.e_nil | apply DN.e_set | apply DN.e_ret | apply DN.e_bin | apply DN.e_un | apply DN.e_fn | apply DN.e_cons | apply DN.e_b | apply DN.e_notT | apply DN.e_not | apply DN.e_and | apply DN.e_or | apply DN.e_andT | apply DN.e_orT | apply DN.e_chain | apply DN.e_asg | exact DN.o_add | exact DN.o_sub | exact DN.o_eqI | exact DN.o_neI | exact DN.o_I | exact DN.o_neg | exact DN.o_lst | exact DN.o_tup | exact DN.o_isN | exact DN.o_notN | exact DN.o_ty | exact DN.o_inst) | ((with_reducible apply DN.e_var); exact rfl) | exact DN.o_mulL (by decide) | exact DN.o_mulR (by decide) | exact DN.o_div (by decide) (by decide) | exact DN.o_mod (by decide) | exact DN.o_lenL | exact DN.o_lenT | exact DN.o_lenS | exact (show M_is_whole [.int i] = some (.bl true) from whole_eq)))
    · intro _
      apply e_chain
      · (repeat' (first | (with_reducible first | exact DN.e_c | exact DN.e_nil | apply DN.e_set | apply DN.e_ret | apply DN.e_bin | apply DN.e_un | apply DN.e_fn | apply DN.e_cons | apply DN.e_b | apply DN.e_notT | apply DN.e_not | apply DN.e_and | apply DN.e_or | apply DN.e_andT | apply DN.e_orT | apply DN.e_chain | apply DN.e_asg | exact DN.o_add | exact DN.o_sub | exact DN.o_eqI | exact DN.o_neI | exact DN.o_I | exact DN.o_neg | exact DN.o_lst | exact DN.o_tup | exact DN.o_isN | exact DN.o_notN | exact DN.o_ty | exact DN.o_inst) | ((with_reducible apply DN.e_var); exact rfl) | exact DN.o_mulL (by decide) | exact DN.o_mulR (by decide) | exact DN.o_div (by decide) (by decide) | exact DN.o_mod (by decide) | exact DN.o_lenL | exact DN.o_lenT | exact DN.o_lenS))
      · (repeat' (first | (with_reducible first | exact DN.e_c | exact DN.e_nil | apply DN.e_set | apply DN.e_ret | apply DN.e_bin | apply DN.e_un | apply DN.e_fn | apply DN.e_cons | apply DN.e_b | apply DN.e_notT | apply DN.e_not | apply DN.e_and | apply DN.e_or | apply DN.e_andT | apply DN.e_orT | apply DN.e_chain | apply DN.e_asg | exact DN.o_add | exact DN.o_sub | exact DN.o_eqI | exact DN.o_neI | exact DN.o_I | exact DN.o_neg | exact DN.o_lst | exact DN.o_tup | exact DN.o_isN | exact DN.o_notN | exact DN.o_ty | exact DN.o_inst) | ((with_reducible apply DN.e_var); exact rfl) | exact DN.o_mulL (by decide) | exact DN.o_mulR (by decide) | exact DN.o_div (by decide) (by decide) | exact DN.o_mod (by decide) | exact DN.o_lenL | exact DN.o_lenT | exact DN.o_lenS))
      · exact o_I
      · intro _
        (repeat' (first | (with_reducible first | exact DN.e_c | exact DN.e_nil | apply DN.e_set | apply DN.e_ret | apply DN.e_bin | apply DN.e_un | apply DN.e_fn | apply DN.e_cons | apply DN.e_b | apply DN.e_notT | apply DN.e_not | apply DN.e_and | apply DN.e_or | apply DN.e_andT | apply DN.e_orT | apply DN.e_chain | apply DN.e_asg | exact DN.o_add | exact DN.o_sub | exact DN.o_eqI | exact DN.o_neI | exact DN.o_I | exact DN.o_neg | exact DN.o_lst | exact DN.o_tup | exact DN.o_isN | exact DN.o_notN | exact DN.o_ty | exact DN.o_inst) | ((with_reducible apply DN.e_var); exact rfl) | exact DN.o_mulL (by decide) | exact DN.o_mulR (by decide) | exact DN.o_div (by decide) (by decide) | exact DN.o_mod (by decide) | exact DN.o_lenL | exact DN.o_lenT | exact DN.o_lenS))
      · intro _
        exact o_I
  | _ =>
    refine e_and (k := false) (l := false) ?_ (fun h => nomatch h)
    (repeat' (first | (with_reducible first | exact DN.e_c | exact DN.e_nil | apply DN.e_set | apply DN.e_ret | apply DN.e_bin | apply DN.e_un | apply DN.e_fn | apply DN.e_cons | apply DN.e_b | apply DN.e_notT | apply DN.e_not | apply DN.e_and | apply DN.e_or | apply DN.e_andT | apply DN.e_orT | apply DN.e_chain | apply DN.e_asg | exact DN.o_add | exact DN.o_sub | exact DN.o_eqI | exact DN.o_neI | exact DN.o_I | exact DN.o_neg | exact DN.o_lst | exact DN.o_tup | exact DN.o_isN | exact DN.o_notN | exact DN.o_ty | exact DN.o_inst) | ((with_reducible apply DN.e_var); exact rfl) | exact DN.o_mulL (by decide) | exact DN.o_mulR (by decide) | exact DN.o_div (by decide) (by decide) | exact DN.o_mod (by decide) | exact DN.o_lenL | exact DN.o_lenT | exact DN.o_lenS | exact whole_eq))
def lenIn (lo hi : Int) : D → Bool
  | .lst ds => decide (lo ≤ (ds.length : Int)) && decide ((ds.length : Int) ≤ hi)
  | .scr ns => decide (lo ≤ (ns.length : Int)) && decide ((ns.length : Int) ≤ hi)
  | _ => false
theorem lenIn_true {lo hi : Int} {ds : List D} (h1 : lo ≤ (ds.length : Int)) (h2 : (ds.length : Int) ≤ hi) : lenIn lo hi (.lst ds) = true := by
  show (decide (lo ≤ (ds.length : Int)) && decide ((ds.length : Int) ≤ hi)) = true
  rw [decide_eq_true h1, decide_eq_true h2]
  rfl
theorem list_eq {d : D} {lo hi : Int} : M_is_list_of [d, .int lo, .int hi] = some (.bl (lenIn lo hi d)) := by
  refine fn_rt (ρ := [some d, some (.int lo), some (.int hi)]) rfl ?_
  unfold m_is_list_of
  apply e_ret
  have go : ∀ n : Nat, gLen [d] = some (.int n) → gTy false "list" d = some (.bl true) → lenIn lo hi d = (true && (pLe lo n && pLe n hi)) → dAnd (dUn (gTy false "list") (dVar 0)) (dChain (gI pLe) (gI pLe) (dVar 1) (dFn gLen (dCons (dVar 0) dNil)) (dVar 2)) [some d, some (.int lo), some (.int hi)] = some (.bl (lenIn lo hi d)) := fun n h1 h2 h3 => by
    rw [h3]
    apply e_and
    · (repeat' (first | (with_reducible first | exact DN.e_c | exact DN.e_nil | apply DN.e_set | apply DN.e_ret | apply DN.e_bin | apply DN.e_un | apply DN.e_fn | apply DN.e_cons | apply DN.e_b | apply DN.e_notT | apply DN.e_not | apply DN.e_and | apply DN.e_or | apply DN.e_andT | apply DN.e_orT | apply DN.e_chain | apply DN.e_asg | exact DN.o_add | exact DN.o_sub | exact DN.o_eqI | exact DN.o_neI | exact DN.o_I | exact DN.o_neg | exact DN.o_lst | exact DN.o_tup | exact DN.o_isN | exact DN.o_notN | exact DN.o_ty | exact DN.o_inst) | ((with_reducible apply DN.e_var); exact rfl) | exact DN.o_mulL (by decide) | exact DN.o_mulR (by decide) | exact DN.o_div (by decide) (by decide) | exact DN.o_mod (by decide) | exact DN.o_lenL | exact DN.o_lenT | exact DN.o_lenS | exact h2))
    · intro _
      apply e_chain
      · (repeat' (first | (with_reducible first | exact DN.e_c | exact DN.e_nil | apply DN.e_set | apply DN.e_ret | apply DN.e_bin | apply DN.e_un | apply DN.e_fn | apply DN.e_cons | apply DN.e_b | apply DN.e_notT | apply DN.e_not | apply DN.e_and | apply DN.e_or | apply DN.e_andT | apply DN.e_orT | apply DN.e_chain | apply DN.e_asg | exact DN.o_add | exact DN.o_sub | exact DN.o_eqI | exact DN.o_neI | exact DN.o_I | exact DN.o_neg | exact DN.o_lst | exact DN.o_tup | exact DN.o_isN | exact DN.o_notN | exact DN.o_ty | exact DN.o_inst) | ((with_reducible apply DN.e_var); exact rfl) | exact DN.o_mulL (by decide) | exact DN.o_mulR (by decide) | exact DN.o_div (by decide) (by decide) | exact DN.o_mod (by decide) | exact DN.o_lenL | exact DN.o_lenT | exact DN.o_lenS))
      · (repeat' (first | (with_reducible first | exact DN.e_c | exact DN.e_nil | apply DN.e_set | apply DN.e_ret | apply DN.e_bin | apply DN.e_un | apply DN.e_fn | apply DN.e_cons | apply DN.e_b | apply DN.e_notT | apply DN.e_not | apply DN.e_and | apply DN.e_or | apply DN.e_andT | apply DN.e_orT | apply DN.e_chain | apply DN.e_asg | exact DN.o_add | exact DN.o_sub | exact DN.o_eqI | exact DN.o_neI | exact DN.o_I | exact DN.o_neg | exact DN.o_lst | exact DN.o_tup | exact DN.o_isN | exact DN.o_notN | exact DN.o_ty | exact DN.o_inst) | ((with_reducible apply DN.e_var); exact rfl) | exact DN.o_mulL (by decide) | exact DN.o_mulR (by decide) | exact DN.o_div (by decide) (by decide) | exact DN.o_mod (by decide) | exact DN.o_lenL | exact DN.o_lenT | exact DN.o_lenS | exact h1))
      · exact o_I
      · intro _
        (repeat' (first | (with_reducible first | exact DN.e_c | exact DN.e_nil | apply DN.e_set | apply DN.e_ret | apply DN.e_bin | apply DN.e_un | apply DN.e_fn | apply DN.e_cons | apply DN.e_b | apply DN.e_notT | apply DN.e_not | apply DN.e_and | apply DN.e_or | apply DN.e_andT | apply DN.e_orT | apply DN.e_chain | apply DN.e_asg | exact DN.o_add | exact DN.o_sub | exact DN.o_eqI | exact DN.o_neI | exact DN.o_I | exact DN.o_neg | exact DN.o_lst | exact DN.o_tup | exact DN.o_isN | exact DN.o_notN | exact DN.o_ty | exact DN.o_inst) | ((with_reducible apply DN.e_var); exact rfl) | exact DN.o_mulL (by decide) | exact DN.o_mulR (by decide) | exact DN.o_div (by decide) (by decide) | exact DN.o_mod (by decide) | exact DN.o_lenL | exact DN.o_lenT | exact DN.o_lenS))
      · intro _
        exact o_I
  cases d with
  | lst ds => exact go ds.length rfl rfl rfl
  | scr ns => exact go ns.length rfl rfl rfl
  | _ =>
    refine e_and (k := false) (l := false) ?_ (fun h => nomatch h)
    (repeat' (first | (with_reducible first | exact DN.e_c | exact DN.e_nil | apply DN.e_set | apply DN.e_ret | apply DN.e_bin | apply DN.e_un | apply DN.e_fn | apply DN.e_cons | apply DN.e_b | apply DN.e_notT | apply DN.e_not | apply DN.e_and | apply DN.e_or | apply DN.e_andT | apply DN.e_orT | apply DN.e_chain | apply DN.e_asg | exact DN.o_add | exact DN.o_sub | exact DN.o_eqI | exact DN.o_neI | exact DN.o_I | exact DN.o_neg | exact DN.o_lst | exact DN.o_tup | exact DN.o_isN | exact DN.o_notN | exact DN.o_ty | exact DN.o_inst) | ((with_reducible apply DN.e_var); exact rfl) | exact DN.o_mulL (by decide) | exact DN.o_mulR (by decide) | exact DN.o_div (by decide) (by decide) | exact DN.o_mod (by decide) | exact DN.o_lenL | exact DN.o_lenT | exact DN.o_lenS))
    rfl
theorem pair_eq {a b : D} : M_is_pair [.tup [a, b]] = some (.bl true) := by
  refine fn_rt (ρ := [some (.tup [a, b])]) rfl ?_
  unfold m_is_pair
  apply e_ret
  refine e_and (k := true) (l := true) ?_ (fun _ => ?_)
  · (repeat' (first | (with_reducible first | exact DN.e_c | exact DN.e_nil | apply DN.e_set | apply DN.e_ret | apply DN.e_bin | apply DN.e_un | apply DN.e_fn | apply DN.e_cons | apply DN.e_b | apply DN.e_notT | apply DN.e_not | apply DN.e_and | apply DN.e_or | apply DN.e_andT | apply DN.e_orT | apply DN.e_chain | apply DN.e_asg | exact DN.o_add | exact DN.o_sub | exact DN.o_eqI | exact DN.o_neI | exact DN.o_I | exact DN.o_neg | exact DN.o_lst | exact DN.o_tup | exact DN.o_isN | exact DN.o_notN | exact DN.o_ty | exact DN.o_inst) | ((with_reducible apply DN.e_var); exact rfl) | exact DN.o_mulL (by decide) | exact DN.o_mulR (by decide) | exact DN.o_div (by decide) (by decide) | exact DN.o_mod (by decide) | exact DN.o_lenL | exact DN.o_lenT | exact DN.o_lenS))
    rfl
  · refine e_bin (x := .int 2) ?_ e_c ?_
    · (repeat' (first | (with_reducible first | exact DN.e_c | exact DN.e_nil | apply DN.e_set | apply DN.e_ret | apply DN.e_bin | apply DN.e_un | apply DN.e_fn | apply DN.e_cons | apply DN.e_b | apply DN.e_notT | apply DN.e_not | apply DN.e_and | apply DN.e_or | apply DN.e_andT | apply DN.e_orT | apply DN.e_chain | apply DN.e_asg | exact DN.o_add | exact DN.o_sub | exact DN.o_eqI | exact DN.o_neI | exact DN.o_I | exact DN.o_neg | exact DN.o_lst | exact DN.o_tup | exact DN.o_isN | exact DN.o_notN | exact DN.o_ty | exact DN.o_inst) | ((with_reducible apply DN.e_var); exact rfl) | exact DN.o_mulL (by decide) | exact DN.o_mulR (by decide) | exact DN.o_div (by decide) (by decide) | exact DN.o_mod (by decide) | exact DN.o_lenL | exact DN.o_lenT | exact DN.o_lenS | exact (show gLen [.tup [a, b]] = some (.int 2) from rfl)))
    · rw [o_eqI]
      rfl
theorem all_of {α : Type} {l : List α} {p : α → Bool} (h : ∀ x ∈ l, p x = true) : l.all p = true := List.all_eq_true.mpr h
theorem is_row_eq {r : List Int} {m : Nat} (h : RowOk m r) : M_is_row [LI r, .int (m : Nat)] = some (.bl true) := by
  refine fn_rt (ρ := [some (LI r), some (.int (m : Nat))]) rfl ?_
  unfold m_is_row
  have hl : lenIn ((m : Nat) + 1) ((m : Nat) + 1) (LI r) = true := lenIn_true (by rw [List.length_map, h.1]; omega) (by rw [List.length_map, h.1]; omega)
  apply e_seq
  · refine e_if (k := !true) ?_ e_nx
    apply e_notT
    apply e_b
    (repeat' (first | (with_reducible first | exact DN.e_c | exact DN.e_nil | apply DN.e_set | apply DN.e_ret | apply DN.e_bin | apply DN.e_un | apply DN.e_fn | apply DN.e_cons | apply DN.e_b | apply DN.e_notT | apply DN.e_not | apply DN.e_and | apply DN.e_or | apply DN.e_andT | apply DN.e_orT | apply DN.e_chain | apply DN.e_asg | exact DN.o_add | exact DN.o_sub | exact DN.o_eqI | exact DN.o_neI | exact DN.o_I | exact DN.o_neg | exact DN.o_lst | exact DN.o_tup | exact DN.o_isN | exact DN.o_notN | exact DN.o_ty | exact DN.o_inst) | ((with_reducible apply DN.e_var); exact rfl) | exact DN.o_mulL (by decide) | exact DN.o_mulR (by decide) | exact DN.o_div (by decide) (by decide) | exact DN.o_mod (by decide) | exact DN.o_lenL | exact DN.o_lenT | exact DN.o_lenS | exact (show M_is_list_of [LI r, .int ((m : Nat) + 1), .int ((m : Nat) + 1)] = some (.bl true) from by rw [list_eq, hl])))
  · apply e_ret
    have ha : r.all (fun x => within (-1000) 1000 (.int x)) = true := all_of fun x hx => within_true (h.2 x hx).1 (h.2 x hx).2
    refine Eq.trans (e_all (emb := D.int) (l := r) (p := fun x => within (-1000) 1000 (.int x)) (e_lsI ?_) fun x hx => ?_) (by rw [ha])
    · (repeat' (first | (with_reducible first | exact DN.e_c | exact DN.e_nil | apply DN.e_set | apply DN.e_ret | apply DN.e_bin | apply DN.e_un | apply DN.e_fn | apply DN.e_cons | apply DN.e_b | apply DN.e_notT | apply DN.e_not | apply DN.e_and | apply DN.e_or | apply DN.e_andT | apply DN.e_orT | apply DN.e_chain | apply DN.e_asg | exact DN.o_add | exact DN.o_sub | exact DN.o_eqI | exact DN.o_neI | exact DN.o_I | exact DN.o_neg | exact DN.o_lst | exact DN.o_tup | exact DN.o_isN | exact DN.o_notN | exact DN.o_ty | exact DN.o_inst) | ((with_reducible apply DN.e_var); exact rfl) | exact DN.o_mulL (by decide) | exact DN.o_mulR (by decide) | exact DN.o_div (by decide) (by decide) | exact DN.o_mod (by decide) | exact DN.o_lenL | exact DN.o_lenT | exact DN.o_lenS))
    · (repeat' (first | (with_reducible first | exact DN.e_c | exact DN.e_nil | apply DN.e_set | apply DN.e_ret | apply DN.e_bin | apply DN.e_un | apply DN.e_fn | apply DN.e_cons | apply DN.e_b | apply DN.e_notT | apply DN.e_not | apply DN.e_and | apply DN.e_or | apply DN.e_andT | apply DN.e_orT | apply DN.e_chain | apply DN.e_asg | exact DN.o_add | exact DN.o_sub | exact DN.o_eqI | exact DN.o_neI | exact DN.o_I | exact DN.o_neg | exact DN.o_lst | exact DN.o_tup | exact DN.o_isN | exact DN.o_notN | exact DN.o_ty | exact DN.o_inst) | ((with_reducible apply DN.e_var); exact rfl) | exact DN.o_mulL (by decide) | exact DN.o_mulR (by decide) | exact DN.o_div (by decide) (by decide) | exact DN.o_mod (by decide) | exact DN.o_lenL | exact DN.o_lenT | exact DN.o_lenS | exact within_eq))
theorem are_rows_eq {l : List (List Int)} {m : Nat} {lo hi : Int} (h : ∀ r ∈ l, RowOk m r) (h1 : lo ≤ l.length) (h2 : l.length ≤ hi) : M_are_rows [LR l, .int (m : Nat), .int lo, .int hi] = some (.bl true) := by
  refine fn_rt (ρ := [some (LR l), some (.int (m : Nat)), some (.int lo), some (.int hi)]) rfl ?_
  unfold m_are_rows
  have hl : lenIn lo hi (LR l) = true := lenIn_true (by rw [List.length_map]; exact h1) (by rw [List.length_map]; exact h2)
  apply e_ret
  refine e_and (k := true) (l := true) ?_ (fun _ => ?_)
  · (repeat' (first | (with_reducible first | exact DN.e_c | exact DN.e_nil | apply DN.e_set | apply DN.e_ret | apply DN.e_bin | apply DN.e_un | apply DN.e_fn | apply DN.e_cons | apply DN.e_b | apply DN.e_notT | apply DN.e_not | apply DN.e_and | apply DN.e_or | apply DN.e_andT | apply DN.e_orT | apply DN.e_chain | apply DN.e_asg | exact DN.o_add | exact DN.o_sub | exact DN.o_eqI | exact DN.o_neI | exact DN.o_I | exact DN.o_neg | exact DN.o_lst | exact DN.o_tup | exact DN.o_isN | exact DN.o_notN | exact DN.o_ty | exact DN.o_inst) | ((with_reducible apply DN.e_var); exact rfl) | exact DN.o_mulL (by decide) | exact DN.o_mulR (by decide) | exact DN.o_div (by decide) (by decide) | exact DN.o_mod (by decide) | exact DN.o_lenL | exact DN.o_lenT | exact DN.o_lenS | exact (show M_is_list_of [LR l, .int lo, .int hi] = some (.bl true) from by rw [list_eq, hl])))
  · have ha : l.all (fun _ => true) = true := all_of fun _ _ => rfl
    refine Eq.trans (e_all (emb := LI) (l := l) (p := fun _ => true) (e_lsR ?_) fun x hx => ?_) (by rw [ha])
    · (repeat' (first | (with_reducible first | exact DN.e_c | exact DN.e_nil | apply DN.e_set | apply DN.e_ret | apply DN.e_bin | apply DN.e_un | apply DN.e_fn | apply DN.e_cons | apply DN.e_b | apply DN.e_notT | apply DN.e_not | apply DN.e_and | apply DN.e_or | apply DN.e_andT | apply DN.e_orT | apply DN.e_chain | apply DN.e_asg | exact DN.o_add | exact DN.o_sub | exact DN.o_eqI | exact DN.o_neI | exact DN.o_I | exact DN.o_neg | exact DN.o_lst | exact DN.o_tup | exact DN.o_isN | exact DN.o_notN | exact DN.o_ty | exact DN.o_inst) | ((with_reducible apply DN.e_var); exact rfl) | exact DN.o_mulL (by decide) | exact DN.o_mulR (by decide) | exact DN.o_div (by decide) (by decide) | exact DN.o_mod (by decide) | exact DN.o_lenL | exact DN.o_lenT | exact DN.o_lenS))
    · (repeat' (first | (with_reducible first | exact DN.e_c | exact DN.e_nil | apply DN.e_set | apply DN.e_ret | apply DN.e_bin | apply DN.e_un | apply DN.e_fn | apply DN.e_cons | apply DN.e_b | apply DN.e_notT | apply DN.e_not | apply DN.e_and | apply DN.e_or | apply DN.e_andT | apply DN.e_orT | apply DN.e_chain | apply DN.e_asg | exact DN.o_add | exact DN.o_sub | exact DN.o_eqI | exact DN.o_neI | exact DN.o_I | exact DN.o_neg | exact DN.o_lst | exact DN.o_tup | exact DN.o_isN | exact DN.o_notN | exact DN.o_ty | exact DN.o_inst) | ((with_reducible apply DN.e_var); exact rfl) | exact DN.o_mulL (by decide) | exact DN.o_mulR (by decide) | exact DN.o_div (by decide) (by decide) | exact DN.o_mod (by decide) | exact DN.o_lenL | exact DN.o_lenT | exact DN.o_lenS | exact is_row_eq (h x hx)))
theorem is_way_eq {w : Way} {m : Nat} (h : WayOk m w) : M_is_way [dW w, .int (m : Nat)] = some (.bl true) := by
  refine fn_rt (ρ := [some (dW w), some (.int (m : Nat)), none, none]) rfl ?_
  unfold m_is_way
  obtain ⟨h1, h2, h3, h4⟩ := h
  apply e_seq
  · refine e_if (k := !true) ?_ e_nx
    apply e_notT
    apply e_b
    (repeat' (first | (with_reducible first | exact DN.e_c | exact DN.e_nil | apply DN.e_set | apply DN.e_ret | apply DN.e_bin | apply DN.e_un | apply DN.e_fn | apply DN.e_cons | apply DN.e_b | apply DN.e_notT | apply DN.e_not | apply DN.e_and | apply DN.e_or | apply DN.e_andT | apply DN.e_orT | apply DN.e_chain | apply DN.e_asg | exact DN.o_add | exact DN.o_sub | exact DN.o_eqI | exact DN.o_neI | exact DN.o_I | exact DN.o_neg | exact DN.o_lst | exact DN.o_tup | exact DN.o_isN | exact DN.o_notN | exact DN.o_ty | exact DN.o_inst) | ((with_reducible apply DN.e_var); exact rfl) | exact DN.o_mulL (by decide) | exact DN.o_mulR (by decide) | exact DN.o_div (by decide) (by decide) | exact DN.o_mod (by decide) | exact DN.o_lenL | exact DN.o_lenT | exact DN.o_lenS | exact (show M_is_pair [dW w] = some (.bl true) from pair_eq)))
  · apply e_seq
    · exact e_asg (e_var rfl) rfl
    · apply e_ret
      refine e_and (k := true) (l := true) ?_ (fun _ => ?_)
      · (repeat' (first | (with_reducible first | exact DN.e_c | exact DN.e_nil | apply DN.e_set | apply DN.e_ret | apply DN.e_bin | apply DN.e_un | apply DN.e_fn | apply DN.e_cons | apply DN.e_b | apply DN.e_notT | apply DN.e_not | apply DN.e_and | apply DN.e_or | apply DN.e_andT | apply DN.e_orT | apply DN.e_chain | apply DN.e_asg | exact DN.o_add | exact DN.o_sub | exact DN.o_eqI | exact DN.o_neI | exact DN.o_I | exact DN.o_neg | exact DN.o_lst | exact DN.o_tup | exact DN.o_isN | exact DN.o_notN | exact DN.o_ty | exact DN.o_inst) | ((with_reducible apply DN.e_var); exact rfl) | exact DN.o_mulL (by decide) | exact DN.o_mulR (by decide) | exact DN.o_div (by decide) (by decide) | exact DN.o_mod (by decide) | exact DN.o_lenL | exact DN.o_lenT | exact DN.o_lenS | exact (show M_are_rows [LR w.asks, .int (m : Nat), .int 0, .int 4] = some (.bl true) from are_rows_eq h2 (by omega) (by omega))))
      · (repeat' (first | (with_reducible first | exact DN.e_c | exact DN.e_nil | apply DN.e_set | apply DN.e_ret | apply DN.e_bin | apply DN.e_un | apply DN.e_fn | apply DN.e_cons | apply DN.e_b | apply DN.e_notT | apply DN.e_not | apply DN.e_and | apply DN.e_or | apply DN.e_andT | apply DN.e_orT | apply DN.e_chain | apply DN.e_asg | exact DN.o_add | exact DN.o_sub | exact DN.o_eqI | exact DN.o_neI | exact DN.o_I | exact DN.o_neg | exact DN.o_lst | exact DN.o_tup | exact DN.o_isN | exact DN.o_notN | exact DN.o_ty | exact DN.o_inst) | ((with_reducible apply DN.e_var); exact rfl) | exact DN.o_mulL (by decide) | exact DN.o_mulR (by decide) | exact DN.o_div (by decide) (by decide) | exact DN.o_mod (by decide) | exact DN.o_lenL | exact DN.o_lenT | exact DN.o_lenS | exact (show M_are_rows [LR w.gives, .int (m : Nat), .int (m : Nat), .int (m : Nat)] = some (.bl true) from are_rows_eq h4 (by omega) (by omega))))
theorem is_loop_eq {L : Lp} (h : LpOk L) : M_is_loop [dL L] = some (.bl true) := by
  refine fn_rt (ρ := [some (dL L), none, none]) rfl ?_
  unfold m_is_loop
  have b1 := h.m1
  have b2 := h.m3
  have b3 := h.w1
  have b4 := h.w3
  have e1 : M_is_whole_within [.int (L.many : Nat), .int 1, .int 3] = some (.bl true) := by
    rw [within_eq, within_true (by omega) (by omega)]
  have e2 : M_is_list_of [.lst (L.ways.map dW), .int 1, .int 3] = some (.bl true) := by
    rw [list_eq, lenIn_true (by rw [List.length_map]; omega) (by rw [List.length_map]; omega)]
  apply e_seq
  · refine e_if (k := !true) ?_ e_nx
    apply e_notT
    apply e_b
    (repeat' (first | (with_reducible first | exact DN.e_c | exact DN.e_nil | apply DN.e_set | apply DN.e_ret | apply DN.e_bin | apply DN.e_un | apply DN.e_fn | apply DN.e_cons | apply DN.e_b | apply DN.e_notT | apply DN.e_not | apply DN.e_and | apply DN.e_or | apply DN.e_andT | apply DN.e_orT | apply DN.e_chain | apply DN.e_asg | exact DN.o_add | exact DN.o_sub | exact DN.o_eqI | exact DN.o_neI | exact DN.o_I | exact DN.o_neg | exact DN.o_lst | exact DN.o_tup | exact DN.o_isN | exact DN.o_notN | exact DN.o_ty | exact DN.o_inst) | ((with_reducible apply DN.e_var); exact rfl) | exact DN.o_mulL (by decide) | exact DN.o_mulR (by decide) | exact DN.o_div (by decide) (by decide) | exact DN.o_mod (by decide) | exact DN.o_lenL | exact DN.o_lenT | exact DN.o_lenS | exact (show M_is_pair [dL L] = some (.bl true) from pair_eq)))
  · apply e_seq
    · exact e_asg (e_var rfl) rfl
    · apply e_seq
      · refine e_if (k := false) ?_ e_nx
        refine e_orT (k := !true) (l := !true) ?_ (fun _ => ?_)
        · apply e_notT
          apply e_b
          (repeat' (first | (with_reducible first | exact DN.e_c | exact DN.e_nil | apply DN.e_set | apply DN.e_ret | apply DN.e_bin | apply DN.e_un | apply DN.e_fn | apply DN.e_cons | apply DN.e_b | apply DN.e_notT | apply DN.e_not | apply DN.e_and | apply DN.e_or | apply DN.e_andT | apply DN.e_orT | apply DN.e_chain | apply DN.e_asg | exact DN.o_add | exact DN.o_sub | exact DN.o_eqI | exact DN.o_neI | exact DN.o_I | exact DN.o_neg | exact DN.o_lst | exact DN.o_tup | exact DN.o_isN | exact DN.o_notN | exact DN.o_ty | exact DN.o_inst) | ((with_reducible apply DN.e_var); exact rfl) | exact DN.o_mulL (by decide) | exact DN.o_mulR (by decide) | exact DN.o_div (by decide) (by decide) | exact DN.o_mod (by decide) | exact DN.o_lenL | exact DN.o_lenT | exact DN.o_lenS | exact e1))
        · apply e_notT
          apply e_b
          (repeat' (first | (with_reducible first | exact DN.e_c | exact DN.e_nil | apply DN.e_set | apply DN.e_ret | apply DN.e_bin | apply DN.e_un | apply DN.e_fn | apply DN.e_cons | apply DN.e_b | apply DN.e_notT | apply DN.e_not | apply DN.e_and | apply DN.e_or | apply DN.e_andT | apply DN.e_orT | apply DN.e_chain | apply DN.e_asg | exact DN.o_add | exact DN.o_sub | exact DN.o_eqI | exact DN.o_neI | exact DN.o_I | exact DN.o_neg | exact DN.o_lst | exact DN.o_tup | exact DN.o_isN | exact DN.o_notN | exact DN.o_ty | exact DN.o_inst) | ((with_reducible apply DN.e_var); exact rfl) | exact DN.o_mulL (by decide) | exact DN.o_mulR (by decide) | exact DN.o_div (by decide) (by decide) | exact DN.o_mod (by decide) | exact DN.o_lenL | exact DN.o_lenT | exact DN.o_lenS | exact e2))
      · apply e_ret
        have ha : L.ways.all (fun _ => true) = true := all_of fun _ _ => rfl
        refine Eq.trans (e_all (emb := dW) (l := L.ways) (p := fun _ => true) (e_ls ?_) fun w hw => ?_) (by rw [ha])
        · (repeat' (first | (with_reducible first | exact DN.e_c | exact DN.e_nil | apply DN.e_set | apply DN.e_ret | apply DN.e_bin | apply DN.e_un | apply DN.e_fn | apply DN.e_cons | apply DN.e_b | apply DN.e_notT | apply DN.e_not | apply DN.e_and | apply DN.e_or | apply DN.e_andT | apply DN.e_orT | apply DN.e_chain | apply DN.e_asg | exact DN.o_add | exact DN.o_sub | exact DN.o_eqI | exact DN.o_neI | exact DN.o_I | exact DN.o_neg | exact DN.o_lst | exact DN.o_tup | exact DN.o_isN | exact DN.o_notN | exact DN.o_ty | exact DN.o_inst) | ((with_reducible apply DN.e_var); exact rfl) | exact DN.o_mulL (by decide) | exact DN.o_mulR (by decide) | exact DN.o_div (by decide) (by decide) | exact DN.o_mod (by decide) | exact DN.o_lenL | exact DN.o_lenT | exact DN.o_lenS))
        · (repeat' (first | (with_reducible first | exact DN.e_c | exact DN.e_nil | apply DN.e_set | apply DN.e_ret | apply DN.e_bin | apply DN.e_un | apply DN.e_fn | apply DN.e_cons | apply DN.e_b | apply DN.e_notT | apply DN.e_not | apply DN.e_and | apply DN.e_or | apply DN.e_andT | apply DN.e_orT | apply DN.e_chain | apply DN.e_asg | exact DN.o_add | exact DN.o_sub | exact DN.o_eqI | exact DN.o_neI | exact DN.o_I | exact DN.o_neg | exact DN.o_lst | exact DN.o_tup | exact DN.o_isN | exact DN.o_notN | exact DN.o_ty | exact DN.o_inst) | ((with_reducible apply DN.e_var); exact rfl) | exact DN.o_mulL (by decide) | exact DN.o_mulR (by decide) | exact DN.o_div (by decide) (by decide) | exact DN.o_mod (by decide) | exact DN.o_lenL | exact DN.o_lenT | exact DN.o_lenS | exact is_way_eq (h.ok w hw)))
theorem need_loop_eq {L : Lp} (h : LpOk L) : M_need_loop [dL L] = some (.ok .non) := by
  refine fr_nx (ρ := [some (dL L)]) rfl (ρ1 := [some (dL L)]) ?_
  unfold m_need_loop
  refine e_if (k := !true) ?_ e_nx
  apply e_notT
  apply e_b
  (repeat' (first | (with_reducible first | exact DN.e_c | exact DN.e_nil | apply DN.e_set | apply DN.e_ret | apply DN.e_bin | apply DN.e_un | apply DN.e_fn | apply DN.e_cons | apply DN.e_b | apply DN.e_notT | apply DN.e_not | apply DN.e_and | apply DN.e_or | apply DN.e_andT | apply DN.e_orT | apply DN.e_chain | apply DN.e_asg | exact DN.o_add | exact DN.o_sub | exact DN.o_eqI | exact DN.o_neI | exact DN.o_I | exact DN.o_neg | exact DN.o_lst | exact DN.o_tup | exact DN.o_isN | exact DN.o_notN | exact DN.o_ty | exact DN.o_inst) | ((with_reducible apply DN.e_var); exact rfl) | exact DN.o_mulL (by decide) | exact DN.o_mulR (by decide) | exact DN.o_div (by decide) (by decide) | exact DN.o_mod (by decide) | exact DN.o_lenL | exact DN.o_lenT | exact DN.o_lenS | exact is_loop_eq h))
def isSt (m : Nat) : D → Bool
  | .lst ds => decide (ds.length = m) && ds.all isI
  | _ => false
theorem wholes_eq {d : D} {m : Nat} (hd : ∀ ns, d ≠ .scr ns) : M_are_wholes [d, .int (m : Nat)] = some (.bl (isSt m d)) := by
  refine fn_rt (ρ := [some d, some (.int (m : Nat))]) rfl ?_
  unfold m_are_wholes
  apply e_ret
  have e0 : lenIn (m : Nat) (m : Nat) d = true → ∃ ds, d = .lst ds ∧ ds.length = m := fun h => by
    cases d with
    | lst ds =>
      have h : (decide ((m : Int) ≤ (ds.length : Int)) && decide ((ds.length : Int) ≤ (m : Int))) = true := h
      simp only [Bool.and_eq_true, decide_eq_true_eq] at h
      exact ⟨ds, rfl, by omega⟩
    | scr ns => exact absurd rfl (hd ns)
    | _ => cases h
  by_cases hl : lenIn (m : Nat) (m : Nat) d = true
  · obtain ⟨ds, rfl, hm⟩ := e0 hl
    have e : isSt m (.lst ds) = (true && ds.all isI) := by
      show (decide (ds.length = m) && ds.all isI) = _
      rw [decide_eq_true hm]
    rw [e]
    apply e_and
    · (repeat' (first | (with_reducible first | exact DN.e_c | exact DN.e_nil | apply DN.e_set | apply DN.e_ret | apply DN.e_bin | apply DN.e_un | apply DN.e_fn | apply DN.e_cons | apply DN.e_b | apply DN.e_notT | apply DN.e_not | apply DN.e_and | apply DN.e_or | apply DN.e_andT | apply DN.e_orT | apply DN.e_chain | apply DN.e_asg | exact DN.o_add | exact DN.o_sub | exact DN.o_eqI | exact DN.o_neI | exact DN.o_I | exact DN.o_neg | exact DN.o_lst | exact DN.o_tup | exact DN.o_isN | exact DN.o_notN | exact DN.o_ty | exact DN.o_inst) | ((with_reducible apply DN.e_var); exact rfl) | exact DN.o_mulL (by decide) | exact DN.o_mulR (by decide) | exact DN.o_div (by decide) (by decide) | exact DN.o_mod (by decide) | exact DN.o_lenL | exact DN.o_lenT | exact DN.o_lenS | exact (show M_is_list_of [.lst ds, .int (m : Nat), .int (m : Nat)] = some (.bl true) from by rw [list_eq, hl])))
    · intro _
      refine e_all (emb := id) (e_ls ?_) fun x hx => ?_
      · rw [List.map_id]
        (repeat' (first | (with_reducible first | exact DN.e_c | exact DN.e_nil | apply DN.e_set | apply DN.e_ret | apply DN.e_bin | apply DN.e_un | apply DN.e_fn | apply DN.e_cons | apply DN.e_b | apply DN.e_notT | apply DN.e_not | apply DN.e_and | apply DN.e_or | apply DN.e_andT | apply DN.e_orT | apply DN.e_chain | apply DN.e_asg | exact DN.o_add | exact DN.o_sub | exact DN.o_eqI | exact DN.o_neI | exact DN.o_I | exact DN.o_neg | exact DN.o_lst | exact DN.o_tup | exact DN.o_isN | exact DN.o_notN | exact DN.o_ty | exact DN.o_inst) | ((with_reducible apply DN.e_var); exact rfl) | exact DN.o_mulL (by decide) | exact DN.o_mulR (by decide) | exact DN.o_div (by decide) (by decide) | exact DN.o_mod (by decide) | exact DN.o_lenL | exact DN.o_lenT | exact DN.o_lenS))
      · (repeat' (first | (with_reducible first | exact DN.e_c | exact DN.e_nil | apply DN.e_set | apply DN.e_ret | apply DN.e_bin | apply DN.e_un | apply DN.e_fn | apply DN.e_cons | apply DN.e_b | apply DN.e_notT | apply DN.e_not | apply DN.e_and | apply DN.e_or | apply DN.e_andT | apply DN.e_orT | apply DN.e_chain | apply DN.e_asg | exact DN.o_add | exact DN.o_sub | exact DN.o_eqI | exact DN.o_neI | exact DN.o_I | exact DN.o_neg | exact DN.o_lst | exact DN.o_tup | exact DN.o_isN | exact DN.o_notN | exact DN.o_ty | exact DN.o_inst) | ((with_reducible apply DN.e_var); exact rfl) | exact DN.o_mulL (by decide) | exact DN.o_mulR (by decide) | exact DN.o_div (by decide) (by decide) | exact DN.o_mod (by decide) | exact DN.o_lenL | exact DN.o_lenT | exact DN.o_lenS | exact whole_eq))
  · have e : isSt m d = (false && false) := by
      cases d with
      | lst ds =>
        have hm : ¬ ds.length = m := fun z => hl (lenIn_true (by omega) (by omega))
        show (decide (ds.length = m) && ds.all isI) = _
        rw [decide_eq_false hm]
        rfl
      | _ => rfl
    rw [e]
    refine e_and ?_ (fun h => nomatch h)
    have e2 : lenIn (m : Nat) (m : Nat) d = false := by simpa using hl
    (repeat' (first | (with_reducible first | exact DN.e_c | exact DN.e_nil | apply DN.e_set | apply DN.e_ret | apply DN.e_bin | apply DN.e_un | apply DN.e_fn | apply DN.e_cons | apply DN.e_b | apply DN.e_notT | apply DN.e_not | apply DN.e_and | apply DN.e_or | apply DN.e_andT | apply DN.e_orT | apply DN.e_chain | apply DN.e_asg | exact DN.o_add | exact DN.o_sub | exact DN.o_eqI | exact DN.o_neI | exact DN.o_I | exact DN.o_neg | exact DN.o_lst | exact DN.o_tup | exact DN.o_isN | exact DN.o_notN | exact DN.o_ty | exact DN.o_inst) | ((with_reducible apply DN.e_var); exact rfl) | exact DN.o_mulL (by decide) | exact DN.o_mulR (by decide) | exact DN.o_div (by decide) (by decide) | exact DN.o_mod (by decide) | exact DN.o_lenL | exact DN.o_lenT | exact DN.o_lenS | exact (show M_is_list_of [d, .int (m : Nat), .int (m : Nat)] = some (.bl false) from by rw [list_eq, e2])))
theorem state_eq {d : D} {m : Nat} (hd : ∀ ns, d ≠ .scr ns) : M_is_state [d, .int (m : Nat)] = some (.bl (isSt m d)) := by
  refine fn_rt (ρ := [some d, some (.int (m : Nat))]) rfl ?_
  unfold m_is_state
  apply e_ret
  (repeat' (first | (with_reducible first | exact DN.e_c | exact DN.e_nil | apply DN.e_set | apply DN.e_ret | apply DN.e_bin | apply DN.e_un | apply DN.e_fn | apply DN.e_cons | apply DN.e_b | apply DN.e_notT | apply DN.e_not | apply DN.e_and | apply DN.e_or | apply DN.e_andT | apply DN.e_orT | apply DN.e_chain | apply DN.e_asg | exact DN.o_add | exact DN.o_sub | exact DN.o_eqI | exact DN.o_neI | exact DN.o_I | exact DN.o_neg | exact DN.o_lst | exact DN.o_tup | exact DN.o_isN | exact DN.o_notN | exact DN.o_ty | exact DN.o_inst) | ((with_reducible apply DN.e_var); exact rfl) | exact DN.o_mulL (by decide) | exact DN.o_mulR (by decide) | exact DN.o_div (by decide) (by decide) | exact DN.o_mod (by decide) | exact DN.o_lenL | exact DN.o_lenT | exact DN.o_lenS | exact wholes_eq hd))
theorem need_state_eq {d : D} {m : Nat} (hd : ∀ ns, d ≠ .scr ns) : M_need_state [d, .int (m : Nat)] = some (if isSt m d = true then .ok .non else .er "BadState") := by
  by_cases h : isSt m d = true
  · rw [if_pos h]
    refine fr_nx (ρ := [some d, some (.int (m : Nat))]) rfl (ρ1 := [some d, some (.int (m : Nat))]) ?_
    unfold m_need_state
    refine e_if (k := !true) ?_ e_nx
    apply e_notT
    apply e_b
    (repeat' (first | (with_reducible first | exact DN.e_c | exact DN.e_nil | apply DN.e_set | apply DN.e_ret | apply DN.e_bin | apply DN.e_un | apply DN.e_fn | apply DN.e_cons | apply DN.e_b | apply DN.e_notT | apply DN.e_not | apply DN.e_and | apply DN.e_or | apply DN.e_andT | apply DN.e_orT | apply DN.e_chain | apply DN.e_asg | exact DN.o_add | exact DN.o_sub | exact DN.o_eqI | exact DN.o_neI | exact DN.o_I | exact DN.o_neg | exact DN.o_lst | exact DN.o_tup | exact DN.o_isN | exact DN.o_notN | exact DN.o_ty | exact DN.o_inst) | ((with_reducible apply DN.e_var); exact rfl) | exact DN.o_mulL (by decide) | exact DN.o_mulR (by decide) | exact DN.o_div (by decide) (by decide) | exact DN.o_mod (by decide) | exact DN.o_lenL | exact DN.o_lenT | exact DN.o_lenS | exact (show M_is_state [d, .int (m : Nat)] = some (.bl true) from by rw [state_eq hd, h])))
  · rw [if_neg h]
    refine fr_ex (ρ := [some d, some (.int (m : Nat))]) rfl ?_
    unfold m_need_state
    refine e_if (k := !false) ?_ rfl
    apply e_notT
    apply e_b
    have h' : isSt m d = false := by simpa using h
    (repeat' (first | (with_reducible first | exact DN.e_c | exact DN.e_nil | apply DN.e_set | apply DN.e_ret | apply DN.e_bin | apply DN.e_un | apply DN.e_fn | apply DN.e_cons | apply DN.e_b | apply DN.e_notT | apply DN.e_not | apply DN.e_and | apply DN.e_or | apply DN.e_andT | apply DN.e_orT | apply DN.e_chain | apply DN.e_asg | exact DN.o_add | exact DN.o_sub | exact DN.o_eqI | exact DN.o_neI | exact DN.o_I | exact DN.o_neg | exact DN.o_lst | exact DN.o_tup | exact DN.o_isN | exact DN.o_notN | exact DN.o_ty | exact DN.o_inst) | ((with_reducible apply DN.e_var); exact rfl) | exact DN.o_mulL (by decide) | exact DN.o_mulR (by decide) | exact DN.o_div (by decide) (by decide) | exact DN.o_mod (by decide) | exact DN.o_lenL | exact DN.o_lenT | exact DN.o_lenS | exact (show M_is_state [d, .int (m : Nat)] = some (.bl false) from by rw [state_eq hd, h'])))
theorem need_count_eq {d : D} {hi : Int} : M_need_count [d, .int hi] = some (if within 0 hi d = true then .ok .non else .er "BadCount") := by
  by_cases h : within 0 hi d = true
  · rw [if_pos h]
    refine fr_nx (ρ := [some d, some (.int hi)]) rfl (ρ1 := [some d, some (.int hi)]) ?_
    unfold m_need_count
    refine e_if (k := !true) ?_ e_nx
    apply e_notT
    apply e_b
    (repeat' (first | (with_reducible first | exact DN.e_c | exact DN.e_nil | apply DN.e_set | apply DN.e_ret | apply DN.e_bin | apply DN.e_un | apply DN.e_fn | apply DN.e_cons | apply DN.e_b | apply DN.e_notT | apply DN.e_not | apply DN.e_and | apply DN.e_or | apply DN.e_andT | apply DN.e_orT | apply DN.e_chain | apply DN.e_asg | exact DN.o_add | exact DN.o_sub | exact DN.o_eqI | exact DN.o_neI | exact DN.o_I | exact DN.o_neg | exact DN.o_lst | exact DN.o_tup | exact DN.o_isN | exact DN.o_notN | exact DN.o_ty | exact DN.o_inst) | ((with_reducible apply DN.e_var); exact rfl) | exact DN.o_mulL (by decide) | exact DN.o_mulR (by decide) | exact DN.o_div (by decide) (by decide) | exact DN.o_mod (by decide) | exact DN.o_lenL | exact DN.o_lenT | exact DN.o_lenS | exact (show M_is_whole_within [d, .int 0, .int hi] = some (.bl true) from by rw [within_eq, h])))
  · rw [if_neg h]
    refine fr_ex (ρ := [some d, some (.int hi)]) rfl ?_
    unfold m_need_count
    refine e_if (k := !false) ?_ rfl
    apply e_notT
    apply e_b
    have h' : within 0 hi d = false := by simpa using h
    (repeat' (first | (with_reducible first | exact DN.e_c | exact DN.e_nil | apply DN.e_set | apply DN.e_ret | apply DN.e_bin | apply DN.e_un | apply DN.e_fn | apply DN.e_cons | apply DN.e_b | apply DN.e_notT | apply DN.e_not | apply DN.e_and | apply DN.e_or | apply DN.e_andT | apply DN.e_orT | apply DN.e_chain | apply DN.e_asg | exact DN.o_add | exact DN.o_sub | exact DN.o_eqI | exact DN.o_neI | exact DN.o_I | exact DN.o_neg | exact DN.o_lst | exact DN.o_tup | exact DN.o_isN | exact DN.o_notN | exact DN.o_ty | exact DN.o_inst) | ((with_reducible apply DN.e_var); exact rfl) | exact DN.o_mulL (by decide) | exact DN.o_mulR (by decide) | exact DN.o_div (by decide) (by decide) | exact DN.o_mod (by decide) | exact DN.o_lenL | exact DN.o_lenT | exact DN.o_lenS | exact (show M_is_whole_within [d, .int 0, .int hi] = some (.bl false) from by rw [within_eq, h'])))
/-! worths -/
def wsum (r s : List Int) : Int := (List.zipWith (· * ·) r s).sum + (r.getLast?).getD 0
theorem row_last {m : Nat} {r : List Int} (h : RowOk m r) : r.getLast? = some ((r.getLast?).getD 0) := by
  have hl : r ≠ [] := fun z => by have := h.1; rw [z] at this; cases this
  rw [List.getLast?_eq_some_getLast hl]
  rfl
theorem small_row {x : Int} (h : -1000 ≤ x ∧ x ≤ 1000) : x.natAbs < 18446744073709551616 := by omega
theorem worth_eq {m : Nat} {r s : List Int} (h : RowOk m r) : M_worth [LI r, LI s] = some (.int (wsum r s)) := by
  refine fn_rt (ρ := [some (LI r), some (LI s)]) rfl ?_
  unfold m_worth wsum
  apply e_ret
  apply e_bin
  · have hz : dZip (dVar 0) (dVar 1) [some (LI r), some (LI s)] = some (zipD (r.map D.int) (s.map D.int)) := rfl
    unfold dSum
    rw [hz]
    simp only [Option.bind_some]
    refine sum_pairs fun x hx y hy => ?_
    apply e_bin
    · exact e_var rfl
    · exact e_var rfl
    · exact o_mulL (small_row (h.2 x hx))
  · apply e_bin
    · (repeat' (first | (with_reducible first | exact DN.e_c | exact DN.e_nil | apply DN.e_set | apply DN.e_ret | apply DN.e_bin | apply DN.e_un | apply DN.e_fn | apply DN.e_cons | apply DN.e_b | apply DN.e_notT | apply DN.e_not | apply DN.e_and | apply DN.e_or | apply DN.e_andT | apply DN.e_orT | apply DN.e_chain | apply DN.e_asg | exact DN.o_add | exact DN.o_sub | exact DN.o_eqI | exact DN.o_neI | exact DN.o_I | exact DN.o_neg | exact DN.o_lst | exact DN.o_tup | exact DN.o_isN | exact DN.o_notN | exact DN.o_ty | exact DN.o_inst) | ((with_reducible apply DN.e_var); exact rfl) | exact DN.o_mulL (by decide) | exact DN.o_mulR (by decide) | exact DN.o_div (by decide) (by decide) | exact DN.o_mod (by decide) | exact DN.o_lenL | exact DN.o_lenT | exact DN.o_lenS))
    · (repeat' (first | (with_reducible first | exact DN.e_c | exact DN.e_nil | apply DN.e_set | apply DN.e_ret | apply DN.e_bin | apply DN.e_un | apply DN.e_fn | apply DN.e_cons | apply DN.e_b | apply DN.e_notT | apply DN.e_not | apply DN.e_and | apply DN.e_or | apply DN.e_andT | apply DN.e_orT | apply DN.e_chain | apply DN.e_asg | exact DN.o_add | exact DN.o_sub | exact DN.o_eqI | exact DN.o_neI | exact DN.o_I | exact DN.o_neg | exact DN.o_lst | exact DN.o_tup | exact DN.o_isN | exact DN.o_notN | exact DN.o_ty | exact DN.o_inst) | ((with_reducible apply DN.e_var); exact rfl) | exact DN.o_mulL (by decide) | exact DN.o_mulR (by decide) | exact DN.o_div (by decide) (by decide) | exact DN.o_mod (by decide) | exact DN.o_lenL | exact DN.o_lenT | exact DN.o_lenS))
    · exact o_lastI (row_last h)
  · rw [o_add, Int.zero_add]
theorem law_worth_eq {m : Nat} {r s : List Int} (h : RowOk m r) (hs : s.length = m) (hm : m ≤ 1000) : M_law_worth [LI r, LI s] = some (.int (wsum r s)) := by
  refine fn_rt (ρ := [some (LI r), some (LI s), none, none]) rfl ?_
  unfold m_law_worth
  apply e_seq
  · apply e_set
    apply e_bin
    · (repeat' (first | (with_reducible first | exact DN.e_c | exact DN.e_nil | apply DN.e_set | apply DN.e_ret | apply DN.e_bin | apply DN.e_un | apply DN.e_fn | apply DN.e_cons | apply DN.e_b | apply DN.e_notT | apply DN.e_not | apply DN.e_and | apply DN.e_or | apply DN.e_andT | apply DN.e_orT | apply DN.e_chain | apply DN.e_asg | exact DN.o_add | exact DN.o_sub | exact DN.o_eqI | exact DN.o_neI | exact DN.o_I | exact DN.o_neg | exact DN.o_lst | exact DN.o_tup | exact DN.o_isN | exact DN.o_notN | exact DN.o_ty | exact DN.o_inst) | ((with_reducible apply DN.e_var); exact rfl) | exact DN.o_mulL (by decide) | exact DN.o_mulR (by decide) | exact DN.o_div (by decide) (by decide) | exact DN.o_mod (by decide) | exact DN.o_lenL | exact DN.o_lenT | exact DN.o_lenS))
    · (repeat' (first | (with_reducible first | exact DN.e_c | exact DN.e_nil | apply DN.e_set | apply DN.e_ret | apply DN.e_bin | apply DN.e_un | apply DN.e_fn | apply DN.e_cons | apply DN.e_b | apply DN.e_notT | apply DN.e_not | apply DN.e_and | apply DN.e_or | apply DN.e_andT | apply DN.e_orT | apply DN.e_chain | apply DN.e_asg | exact DN.o_add | exact DN.o_sub | exact DN.o_eqI | exact DN.o_neI | exact DN.o_I | exact DN.o_neg | exact DN.o_lst | exact DN.o_tup | exact DN.o_isN | exact DN.o_notN | exact DN.o_ty | exact DN.o_inst) | ((with_reducible apply DN.e_var); exact rfl) | exact DN.o_mulL (by decide) | exact DN.o_mulR (by decide) | exact DN.o_div (by decide) (by decide) | exact DN.o_mod (by decide) | exact DN.o_lenL | exact DN.o_lenT | exact DN.o_lenS))
    · exact o_lastI (row_last h)
  have hz : (List.zipWith (· * ·) r s).length = m := by rw [List.length_zipWith, h.1, hs]; omega
  obtain ⟨ρ', h1, h2⟩ := for_rng (n := m) (s := sSet 2 (ev false [] (dBin gAdd (dVar 2) (dBin gMul (dBin gIx (dVar 0) (dVar 3)) (dBin gIx (dVar 1) (dVar 3)))))) (bd := bd1 3) (ρ := [some (LI r), some (LI s), some (.int ((r.getLast?).getD 0)), none])
    (P := fun k ρ => ∃ x, ρ = [some (LI r), some (LI s), some (.int (((List.zipWith (· * ·) r s).take k).sum + (r.getLast?).getD 0)), x]) ⟨none, by simp⟩ (fun k hk ρ ⟨x, hρ⟩ => by
      subst hρ
      have e1 : r[k]? = some (r[k]'(by rw [h.1]; omega)) := List.getElem?_eq_getElem _
      have e2 : s[k]? = some (s[k]'(by omega)) := List.getElem?_eq_getElem _
      refine ⟨_, [some (LI r), some (LI s), some (.int (((List.zipWith (· * ·) r s).take (k + 1)).sum + (r.getLast?).getD 0)), some (.int (k : Nat))], rfl, ?_, _, rfl⟩
      · have e3 : ((List.zipWith (· * ·) r s).take (k + 1)).sum + (r.getLast?).getD 0 = (((List.zipWith (· * ·) r s).take k).sum + (r.getLast?).getD 0) + r[k]'(by rw [h.1]; omega) * s[k]'(by omega) := by
          rw [List.take_add_one, List.getElem?_zipWith, e1, e2]
          simp only [Option.toList_some, List.sum_append, List.sum_cons, List.sum_nil]
          omega
        rw [e3]
        apply e_set
        apply e_bin
        · exact e_var rfl
        · apply e_bin
          · apply e_bin
            · exact e_var rfl
            · exact e_var rfl
            · exact o_ixI e1
          · apply e_bin
            · exact e_var rfl
            · exact e_var rfl
            · exact o_ixI e2
          · exact o_mulL (small_row (h.2 _ (List.getElem_mem _)))
        · exact o_add)
  obtain ⟨x, rfl⟩ := h2
  apply e_seq
  · apply e_for
    · refine e_rng (n := m) ?_ (by omega)
      rw [← hs]
      (repeat' (first | (with_reducible first | exact DN.e_c | exact DN.e_nil | apply DN.e_set | apply DN.e_ret | apply DN.e_bin | apply DN.e_un | apply DN.e_fn | apply DN.e_cons | apply DN.e_b | apply DN.e_notT | apply DN.e_not | apply DN.e_and | apply DN.e_or | apply DN.e_andT | apply DN.e_orT | apply DN.e_chain | apply DN.e_asg | exact DN.o_add | exact DN.o_sub | exact DN.o_eqI | exact DN.o_neI | exact DN.o_I | exact DN.o_neg | exact DN.o_lst | exact DN.o_tup | exact DN.o_isN | exact DN.o_notN | exact DN.o_ty | exact DN.o_inst) | ((with_reducible apply DN.e_var); exact rfl) | exact DN.o_mulL (by decide) | exact DN.o_mulR (by decide) | exact DN.o_div (by decide) (by decide) | exact DN.o_mod (by decide) | exact DN.o_lenL | exact DN.o_lenT | exact DN.o_lenS | exact o_lenI))
    · exact h1
  · rw [List.take_of_length_le (Nat.le_of_eq hz)]
    (repeat' (first | (with_reducible first | exact DN.e_c | exact DN.e_nil | apply DN.e_set | apply DN.e_ret | apply DN.e_bin | apply DN.e_un | apply DN.e_fn | apply DN.e_cons | apply DN.e_b | apply DN.e_notT | apply DN.e_not | apply DN.e_and | apply DN.e_or | apply DN.e_andT | apply DN.e_orT | apply DN.e_chain | apply DN.e_asg | exact DN.o_add | exact DN.o_sub | exact DN.o_eqI | exact DN.o_neI | exact DN.o_I | exact DN.o_neg | exact DN.o_lst | exact DN.o_tup | exact DN.o_isN | exact DN.o_notN | exact DN.o_ty | exact DN.o_inst) | ((with_reducible apply DN.e_var); exact rfl) | exact DN.o_mulL (by decide) | exact DN.o_mulR (by decide) | exact DN.o_div (by decide) (by decide) | exact DN.o_mod (by decide) | exact DN.o_lenL | exact DN.o_lenT | exact DN.o_lenS))
def gone (w : Way) (s : List Int) : Bool := w.asks.all fun a => decide (0 ≤ wsum a s)
def ledF (w : Way) (s : List Int) : D := if gone w s = true then LI (w.gives.map fun r => wsum r s) else .non
theorem gone_eq {m : Nat} {w : Way} {s : List Int} (h : WayOk m w) : M_may_be_gone [dW w, LI s] = some (.bl (gone w s)) := by
  refine fn_rt (ρ := [some (dW w), some (LI s), none, none]) rfl ?_
  unfold m_may_be_gone gone
  apply e_seq
  · exact e_asg (e_var rfl) rfl
  · apply e_ret
    refine e_all (emb := LI) (e_lsR ?_) fun r hr => ?_
    · exact e_var rfl
    · (repeat' (first | (with_reducible first | exact DN.e_c | exact DN.e_nil | apply DN.e_set | apply DN.e_ret | apply DN.e_bin | apply DN.e_un | apply DN.e_fn | apply DN.e_cons | apply DN.e_b | apply DN.e_notT | apply DN.e_not | apply DN.e_and | apply DN.e_or | apply DN.e_andT | apply DN.e_orT | apply DN.e_chain | apply DN.e_asg | exact DN.o_add | exact DN.o_sub | exact DN.o_eqI | exact DN.o_neI | exact DN.o_I | exact DN.o_neg | exact DN.o_lst | exact DN.o_tup | exact DN.o_isN | exact DN.o_notN | exact DN.o_ty | exact DN.o_inst) | ((with_reducible apply DN.e_var); exact rfl) | exact DN.o_mulL (by decide) | exact DN.o_mulR (by decide) | exact DN.o_div (by decide) (by decide) | exact DN.o_mod (by decide) | exact DN.o_lenL | exact DN.o_lenT | exact DN.o_lenS | exact worth_eq (h.2.1 r hr)))
      rfl
theorem led_eq {m : Nat} {w : Way} {s : List Int} (h : WayOk m w) (hm : m ≤ 3) : M_led_to [dW w, LI s] = some (ledF w s) := by
  refine fn_rt (ρ := [some (dW w), some (LI s), none, none, none]) rfl ?_
  unfold m_led_to ledF
  by_cases hg : gone w s = true
  · rw [if_pos hg]
    apply e_seq
    · refine e_if (k := !true) ?_ e_nx
      apply e_notT
      apply e_b
      (repeat' (first | (with_reducible first | exact DN.e_c | exact DN.e_nil | apply DN.e_set | apply DN.e_ret | apply DN.e_bin | apply DN.e_un | apply DN.e_fn | apply DN.e_cons | apply DN.e_b | apply DN.e_notT | apply DN.e_not | apply DN.e_and | apply DN.e_or | apply DN.e_andT | apply DN.e_orT | apply DN.e_chain | apply DN.e_asg | exact DN.o_add | exact DN.o_sub | exact DN.o_eqI | exact DN.o_neI | exact DN.o_I | exact DN.o_neg | exact DN.o_lst | exact DN.o_tup | exact DN.o_isN | exact DN.o_notN | exact DN.o_ty | exact DN.o_inst) | ((with_reducible apply DN.e_var); exact rfl) | exact DN.o_mulL (by decide) | exact DN.o_mulR (by decide) | exact DN.o_div (by decide) (by decide) | exact DN.o_mod (by decide) | exact DN.o_lenL | exact DN.o_lenT | exact DN.o_lenS | exact (show M_may_be_gone [dW w, LI s] = some (.bl true) from by rw [gone_eq h, hg])))
    · apply e_seq
      · exact e_asg (e_var rfl) rfl
      · refine e_retF ?_ flat_LI
        refine e_lcL (l := w.gives) (e_lsR ?_) (row_len hm h).2.1 fun r hr => ?_
        · exact e_var rfl
        · (repeat' (first | (with_reducible first | exact DN.e_c | exact DN.e_nil | apply DN.e_set | apply DN.e_ret | apply DN.e_bin | apply DN.e_un | apply DN.e_fn | apply DN.e_cons | apply DN.e_b | apply DN.e_notT | apply DN.e_not | apply DN.e_and | apply DN.e_or | apply DN.e_andT | apply DN.e_orT | apply DN.e_chain | apply DN.e_asg | exact DN.o_add | exact DN.o_sub | exact DN.o_eqI | exact DN.o_neI | exact DN.o_I | exact DN.o_neg | exact DN.o_lst | exact DN.o_tup | exact DN.o_isN | exact DN.o_notN | exact DN.o_ty | exact DN.o_inst) | ((with_reducible apply DN.e_var); exact rfl) | exact DN.o_mulL (by decide) | exact DN.o_mulR (by decide) | exact DN.o_div (by decide) (by decide) | exact DN.o_mod (by decide) | exact DN.o_lenL | exact DN.o_lenT | exact DN.o_lenS | exact worth_eq (h.2.2.2 r hr)))
  · rw [if_neg hg]
    have hg' : gone w s = false := by simpa using hg
    apply e_seqR
    refine e_if (k := !false) ?_ (e_retF e_c rfl)
    apply e_notT
    apply e_b
    (repeat' (first | (with_reducible first | exact DN.e_c | exact DN.e_nil | apply DN.e_set | apply DN.e_ret | apply DN.e_bin | apply DN.e_un | apply DN.e_fn | apply DN.e_cons | apply DN.e_b | apply DN.e_notT | apply DN.e_not | apply DN.e_and | apply DN.e_or | apply DN.e_andT | apply DN.e_orT | apply DN.e_chain | apply DN.e_asg | exact DN.o_add | exact DN.o_sub | exact DN.o_eqI | exact DN.o_neI | exact DN.o_I | exact DN.o_neg | exact DN.o_lst | exact DN.o_tup | exact DN.o_isN | exact DN.o_notN | exact DN.o_ty | exact DN.o_inst) | ((with_reducible apply DN.e_var); exact rfl) | exact DN.o_mulL (by decide) | exact DN.o_mulR (by decide) | exact DN.o_div (by decide) (by decide) | exact DN.o_mod (by decide) | exact DN.o_lenL | exact DN.o_lenT | exact DN.o_lenS | exact (show M_may_be_gone [dW w, LI s] = some (.bl false) from by rw [gone_eq h, hg'])))
theorem isSt_LI {s : List Int} {m : Nat} (h : s.length = m) : isSt m (LI s) = true := by
  show (decide ((s.map D.int).length = m) && (s.map D.int).all isI) = true
  rw [List.length_map, decide_eq_true h, Bool.true_and]
  refine all_of fun d hd => ?_
  obtain ⟨x, _, rfl⟩ := List.mem_map.mp hd
  rfl
/-! runs -/
end K02

set_option Elab.async false
set_option linter.all false
set_option maxRecDepth 100000
set_option maxHeartbeats 400000
namespace K02
open PySem PySem.Spec PyProof.Rows L2 DN
theorem after_count {L : Lp} {num st : D} (h : LpOk L) (hn : within 0 (L.ways.length - 1) num = false) : M_after [dL L, num, st] = some (.er "BadCount") := by
  refine fr_ex (ρ := [some (dL L), some num, some st, none, none]) rfl ?_
  unfold m_after
  apply e_seq
  · refine e_x ?_ (need_loop_eq h)
    (repeat' (first | (with_reducible first | exact DN.e_c | exact DN.e_nil | apply DN.e_set | apply DN.e_ret | apply DN.e_bin | apply DN.e_un | apply DN.e_fn | apply DN.e_cons | apply DN.e_b | apply DN.e_notT | apply DN.e_not | apply DN.e_and | apply DN.e_or | apply DN.e_andT | apply DN.e_orT | apply DN.e_chain | apply DN.e_asg | exact DN.o_add | exact DN.o_sub | exact DN.o_eqI | exact DN.o_neI | exact DN.o_I | exact DN.o_neg | exact DN.o_lst | exact DN.o_tup | exact DN.o_isN | exact DN.o_notN | exact DN.o_ty | exact DN.o_inst) | ((with_reducible apply DN.e_var); exact rfl) | exact DN.o_mulL (by decide) | exact DN.o_mulR (by decide) | exact DN.o_div (by decide) (by decide) | exact DN.o_mod (by decide) | exact DN.o_lenL | exact DN.o_lenT | exact DN.o_lenS))
  · apply e_seq
    · exact e_asg (e_var rfl) rfl
    · apply e_seqX
      refine e_xE (ds := [num, .int (L.ways.length - 1)]) ?_ (by rw [need_count_eq, hn]; rfl)
      (repeat' (first | (with_reducible first | exact DN.e_c | exact DN.e_nil | apply DN.e_set | apply DN.e_ret | apply DN.e_bin | apply DN.e_un | apply DN.e_fn | apply DN.e_cons | apply DN.e_b | apply DN.e_notT | apply DN.e_not | apply DN.e_and | apply DN.e_or | apply DN.e_andT | apply DN.e_orT | apply DN.e_chain | apply DN.e_asg | exact DN.o_add | exact DN.o_sub | exact DN.o_eqI | exact DN.o_neI | exact DN.o_I | exact DN.o_neg | exact DN.o_lst | exact DN.o_tup | exact DN.o_isN | exact DN.o_notN | exact DN.o_ty | exact DN.o_inst) | ((with_reducible apply DN.e_var); exact rfl) | exact DN.o_mulL (by decide) | exact DN.o_mulR (by decide) | exact DN.o_div (by decide) (by decide) | exact DN.o_mod (by decide) | exact DN.o_lenL | exact DN.o_lenT | exact DN.o_lenS | exact (show DN.gSub (D.int ((L.ways.map dW).length : Nat)) (D.int 1) = some (D.int ((L.ways.length : Nat) - 1)) from by rw [o_sub, List.length_map])))
theorem after_state {L : Lp} {k : Nat} {st : D} (h : LpOk L) (hk : k < L.ways.length) (hd : ∀ ns, st ≠ .scr ns) (hs : isSt L.many st = false) : M_after [dL L, .int (k : Nat), st] = some (.er "BadState") := by
  refine fr_ex (ρ := [some (dL L), some (.int (k : Nat)), some st, none, none]) rfl ?_
  unfold m_after
  have hw : within 0 ((L.ways.length : Nat) - 1) (.int (k : Nat)) = true := within_true (by omega) (by omega)
  apply e_seq
  · refine e_x ?_ (need_loop_eq h)
    (repeat' (first | (with_reducible first | exact DN.e_c | exact DN.e_nil | apply DN.e_set | apply DN.e_ret | apply DN.e_bin | apply DN.e_un | apply DN.e_fn | apply DN.e_cons | apply DN.e_b | apply DN.e_notT | apply DN.e_not | apply DN.e_and | apply DN.e_or | apply DN.e_andT | apply DN.e_orT | apply DN.e_chain | apply DN.e_asg | exact DN.o_add | exact DN.o_sub | exact DN.o_eqI | exact DN.o_neI | exact DN.o_I | exact DN.o_neg | exact DN.o_lst | exact DN.o_tup | exact DN.o_isN | exact DN.o_notN | exact DN.o_ty | exact DN.o_inst) | ((with_reducible apply DN.e_var); exact rfl) | exact DN.o_mulL (by decide) | exact DN.o_mulR (by decide) | exact DN.o_div (by decide) (by decide) | exact DN.o_mod (by decide) | exact DN.o_lenL | exact DN.o_lenT | exact DN.o_lenS))
  · apply e_seq
    · exact e_asg (e_var rfl) rfl
    · apply e_seq
      · refine e_x (ds := [.int (k : Nat), .int (L.ways.length - 1)]) (d := .non) ?_ (by rw [need_count_eq, hw]; rfl)
        (repeat' (first | (with_reducible first | exact DN.e_c | exact DN.e_nil | apply DN.e_set | apply DN.e_ret | apply DN.e_bin | apply DN.e_un | apply DN.e_fn | apply DN.e_cons | apply DN.e_b | apply DN.e_notT | apply DN.e_not | apply DN.e_and | apply DN.e_or | apply DN.e_andT | apply DN.e_orT | apply DN.e_chain | apply DN.e_asg | exact DN.o_add | exact DN.o_sub | exact DN.o_eqI | exact DN.o_neI | exact DN.o_I | exact DN.o_neg | exact DN.o_lst | exact DN.o_tup | exact DN.o_isN | exact DN.o_notN | exact DN.o_ty | exact DN.o_inst) | ((with_reducible apply DN.e_var); exact rfl) | exact DN.o_mulL (by decide) | exact DN.o_mulR (by decide) | exact DN.o_div (by decide) (by decide) | exact DN.o_mod (by decide) | exact DN.o_lenL | exact DN.o_lenT | exact DN.o_lenS | exact (show DN.gSub (D.int ((L.ways.map dW).length : Nat)) (D.int 1) = some (D.int ((L.ways.length : Nat) - 1)) from by rw [o_sub, List.length_map])))
      · apply e_seqX
        refine e_xE (ds := [st, .int (L.many : Nat)]) ?_ (by rw [need_state_eq hd, hs]; rfl)
        (repeat' (first | (with_reducible first | exact DN.e_c | exact DN.e_nil | apply DN.e_set | apply DN.e_ret | apply DN.e_bin | apply DN.e_un | apply DN.e_fn | apply DN.e_cons | apply DN.e_b | apply DN.e_notT | apply DN.e_not | apply DN.e_and | apply DN.e_or | apply DN.e_andT | apply DN.e_orT | apply DN.e_chain | apply DN.e_asg | exact DN.o_add | exact DN.o_sub | exact DN.o_eqI | exact DN.o_neI | exact DN.o_I | exact DN.o_neg | exact DN.o_lst | exact DN.o_tup | exact DN.o_isN | exact DN.o_notN | exact DN.o_ty | exact DN.o_inst) | ((with_reducible apply DN.e_var); exact rfl) | exact DN.o_mulL (by decide) | exact DN.o_mulR (by decide) | exact DN.o_div (by decide) (by decide) | exact DN.o_mod (by decide) | exact DN.o_lenL | exact DN.o_lenT | exact DN.o_lenS))
theorem after_ok {L : Lp} {k : Nat} {s : List Int} {w : Way} (h : LpOk L) (hk : L.ways[k]? = some w) (hs : s.length = L.many) : M_after [dL L, .int (k : Nat), LI s] = some (.ok (ledF w s)) := by
  have hlt : k < L.ways.length := (List.getElem?_eq_some_iff.mp hk).1
  have hwo := h.ok w (List.mem_of_getElem? hk)
  refine fr_rt (ρ := [some (dL L), some (.int (k : Nat)), some (LI s), none, none]) rfl ?_
  unfold m_after
  have hw : within 0 ((L.ways.length : Nat) - 1) (.int (k : Nat)) = true := within_true (by omega) (by omega)
  apply e_seq
  · refine e_x ?_ (need_loop_eq h)
    (repeat' (first | (with_reducible first | exact DN.e_c | exact DN.e_nil | apply DN.e_set | apply DN.e_ret | apply DN.e_bin | apply DN.e_un | apply DN.e_fn | apply DN.e_cons | apply DN.e_b | apply DN.e_notT | apply DN.e_not | apply DN.e_and | apply DN.e_or | apply DN.e_andT | apply DN.e_orT | apply DN.e_chain | apply DN.e_asg | exact DN.o_add | exact DN.o_sub | exact DN.o_eqI | exact DN.o_neI | exact DN.o_I | exact DN.o_neg | exact DN.o_lst | exact DN.o_tup | exact DN.o_isN | exact DN.o_notN | exact DN.o_ty | exact DN.o_inst) | ((with_reducible apply DN.e_var); exact rfl) | exact DN.o_mulL (by decide) | exact DN.o_mulR (by decide) | exact DN.o_div (by decide) (by decide) | exact DN.o_mod (by decide) | exact DN.o_lenL | exact DN.o_lenT | exact DN.o_lenS))
  · apply e_seq
    · exact e_asg (e_var rfl) rfl
    · apply e_seq
      · refine e_x (ds := [.int (k : Nat), .int (L.ways.length - 1)]) (d := .non) ?_ (by rw [need_count_eq, hw]; rfl)
        (repeat' (first | (with_reducible first | exact DN.e_c | exact DN.e_nil | apply DN.e_set | apply DN.e_ret | apply DN.e_bin | apply DN.e_un | apply DN.e_fn | apply DN.e_cons | apply DN.e_b | apply DN.e_notT | apply DN.e_not | apply DN.e_and | apply DN.e_or | apply DN.e_andT | apply DN.e_orT | apply DN.e_chain | apply DN.e_asg | exact DN.o_add | exact DN.o_sub | exact DN.o_eqI | exact DN.o_neI | exact DN.o_I | exact DN.o_neg | exact DN.o_lst | exact DN.o_tup | exact DN.o_isN | exact DN.o_notN | exact DN.o_ty | exact DN.o_inst) | ((with_reducible apply DN.e_var); exact rfl) | exact DN.o_mulL (by decide) | exact DN.o_mulR (by decide) | exact DN.o_div (by decide) (by decide) | exact DN.o_mod (by decide) | exact DN.o_lenL | exact DN.o_lenT | exact DN.o_lenS | exact (show DN.gSub (D.int ((L.ways.map dW).length : Nat)) (D.int 1) = some (D.int ((L.ways.length : Nat) - 1)) from by rw [o_sub, List.length_map])))
      · apply e_seq
        · refine e_x (ds := [LI s, .int (L.many : Nat)]) (d := .non) ?_ (by rw [need_state_eq (fun ns z => by cases z), isSt_LI hs]; rfl)
          (repeat' (first | (with_reducible first | exact DN.e_c | exact DN.e_nil | apply DN.e_set | apply DN.e_ret | apply DN.e_bin | apply DN.e_un | apply DN.e_fn | apply DN.e_cons | apply DN.e_b | apply DN.e_notT | apply DN.e_not | apply DN.e_and | apply DN.e_or | apply DN.e_andT | apply DN.e_orT | apply DN.e_chain | apply DN.e_asg | exact DN.o_add | exact DN.o_sub | exact DN.o_eqI | exact DN.o_neI | exact DN.o_I | exact DN.o_neg | exact DN.o_lst | exact DN.o_tup | exact DN.o_isN | exact DN.o_notN | exact DN.o_ty | exact DN.o_inst) | ((with_reducible apply DN.e_var); exact rfl) | exact DN.o_mulL (by decide) | exact DN.o_mulR (by decide) | exact DN.o_div (by decide) (by decide) | exact DN.o_mod (by decide) | exact DN.o_lenL | exact DN.o_lenT | exact DN.o_lenS))
        · (repeat' (first | (with_reducible first | exact DN.e_c | exact DN.e_nil | apply DN.e_set | apply DN.e_ret | apply DN.e_bin | apply DN.e_un | apply DN.e_fn | apply DN.e_cons | apply DN.e_b | apply DN.e_notT | apply DN.e_not | apply DN.e_and | apply DN.e_or | apply DN.e_andT | apply DN.e_orT | apply DN.e_chain | apply DN.e_asg | exact DN.o_add | exact DN.o_sub | exact DN.o_eqI | exact DN.o_neI | exact DN.o_I | exact DN.o_neg | exact DN.o_lst | exact DN.o_tup | exact DN.o_isN | exact DN.o_notN | exact DN.o_ty | exact DN.o_inst) | ((with_reducible apply DN.e_var); exact rfl) | exact DN.o_mulL (by decide) | exact DN.o_mulR (by decide) | exact DN.o_div (by decide) (by decide) | exact DN.o_mod (by decide) | exact DN.o_lenL | exact DN.o_lenT | exact DN.o_lenS | exact (show gIx (.lst (L.ways.map dW)) (.int (k : Nat)) = some (dW w) from o_ix (by rw [List.getElem?_map, hk]; rfl)) | exact led_eq hwo h.m3))
end K02

set_option Elab.async false
set_option linter.all false
set_option maxRecDepth 100000
set_option maxHeartbeats 400000
namespace K02
open PySem PySem.Spec PyProof.Rows L2 DN
/-! ### the law -/
theorem law_led_eq {m : Nat} {w : Way} {s : List Int} (h : WayOk m w) (hs : s.length = m) (hm : m ≤ 3) : M_law_led [dW w, LI s] = some (ledF w s) := by
  refine fn_rt (ρ := [some (dW w), some (LI s), none]) rfl ?_
  unfold m_law_led ledF gone
  have key : ∀ (l : List (List Int)) (x : Option D), (∀ r ∈ l, RowOk m r) → ∃ y, forGo [] (bd1 2) (sIf (dB (dBin (gI pLt) (dFn M_law_worth (dCons (dVar 2) (dCons (dVar 1) dNil))) (dC (.int 0)))) (sRet (dC .non)) sNx) (l.map LI) [some (dW w), some (LI s), x]
      = some (if l.all (fun a => decide (0 ≤ wsum a s)) = true then .nx [some (dW w), some (LI s), y] else .rt .non) := by
    intro l
    induction l with
    | nil => exact fun x _ => ⟨x, rfl⟩
    | cons r l ih =>
      intro x hl
      obtain ⟨y, e⟩ := ih (some (LI r)) fun q hq => hl q (List.mem_cons_of_mem _ hq)
      refine ⟨y, ?_⟩
      rw [List.map_cons, List.all_cons]
      have hw : dB (dBin (gI pLt) (dFn M_law_worth (dCons (dVar 2) (dCons (dVar 1) dNil))) (dC (.int 0))) [some (dW w), some (LI s), some (LI r)] = some (pLt (wsum r s) 0) := by
        (repeat' (first | (with_reducible first | exact DN.e_c | exact DN.e_nil | apply DN.e_set | apply DN.e_ret | apply DN.e_bin | apply DN.e_un | apply DN.e_fn | apply DN.e_cons | apply DN.e_b | apply DN.e_notT | apply DN.e_not | apply DN.e_and | apply DN.e_or | apply DN.e_andT | apply DN.e_orT | apply DN.e_chain | apply DN.e_asg | exact DN.o_add | exact DN.o_sub | exact DN.o_eqI | exact DN.o_neI | exact DN.o_I | exact DN.o_neg | exact DN.o_lst | exact DN.o_tup | exact DN.o_isN | exact DN.o_notN | exact DN.o_ty | exact DN.o_inst) | ((with_reducible apply DN.e_var); exact rfl) | exact DN.o_mulL (by decide) | exact DN.o_mulR (by decide) | exact DN.o_div (by decide) (by decide) | exact DN.o_mod (by decide) | exact DN.o_lenL | exact DN.o_lenT | exact DN.o_lenS | exact law_worth_eq (hl r List.mem_cons_self) hs (by omega)))
      by_cases h0 : 0 ≤ wsum r s
      · have e1 : pLt (wsum r s) 0 = false := decide_eq_false (by omega)
        rw [e1] at hw
        rw [decide_eq_true h0, Bool.true_and]
        exact for_cons rfl (ρ2 := [some (dW w), some (LI s), some (LI r)]) (e_ifF hw e_nx) e
      · have e1 : pLt (wsum r s) 0 = true := decide_eq_true (by omega)
        rw [e1] at hw
        rw [decide_eq_false h0, Bool.false_and, if_neg Bool.false_ne_true]
        exact for_rt rfl (e_ifT hw (e_ret e_c))
  obtain ⟨y, e⟩ := key w.asks none h.2.1
  by_cases hg : (w.asks.all fun a => decide (0 ≤ wsum a s)) = true
  · rw [if_pos hg] at e ⊢
    apply e_seq
    · refine e_for (e_lsR ?_) e
      (repeat' (first | (with_reducible first | exact DN.e_c | exact DN.e_nil | apply DN.e_set | apply DN.e_ret | apply DN.e_bin | apply DN.e_un | apply DN.e_fn | apply DN.e_cons | apply DN.e_b | apply DN.e_notT | apply DN.e_not | apply DN.e_and | apply DN.e_or | apply DN.e_andT | apply DN.e_orT | apply DN.e_chain | apply DN.e_asg | exact DN.o_add | exact DN.o_sub | exact DN.o_eqI | exact DN.o_neI | exact DN.o_I | exact DN.o_neg | exact DN.o_lst | exact DN.o_tup | exact DN.o_isN | exact DN.o_notN | exact DN.o_ty | exact DN.o_inst) | ((with_reducible apply DN.e_var); exact rfl) | exact DN.o_mulL (by decide) | exact DN.o_mulR (by decide) | exact DN.o_div (by decide) (by decide) | exact DN.o_mod (by decide) | exact DN.o_lenL | exact DN.o_lenT | exact DN.o_lenS | exact (show gIx (dW w) (.int 0) = some (LR w.asks) from o_ixT (k := 0) rfl)))
    · apply e_ret
      refine e_lcL (l := w.gives) (e_lsR ?_) (row_len hm h).2.1 fun r hr => ?_
      · (repeat' (first | (with_reducible first | exact DN.e_c | exact DN.e_nil | apply DN.e_set | apply DN.e_ret | apply DN.e_bin | apply DN.e_un | apply DN.e_fn | apply DN.e_cons | apply DN.e_b | apply DN.e_notT | apply DN.e_not | apply DN.e_and | apply DN.e_or | apply DN.e_andT | apply DN.e_orT | apply DN.e_chain | apply DN.e_asg | exact DN.o_add | exact DN.o_sub | exact DN.o_eqI | exact DN.o_neI | exact DN.o_I | exact DN.o_neg | exact DN.o_lst | exact DN.o_tup | exact DN.o_isN | exact DN.o_notN | exact DN.o_ty | exact DN.o_inst) | ((with_reducible apply DN.e_var); exact rfl) | exact DN.o_mulL (by decide) | exact DN.o_mulR (by decide) | exact DN.o_div (by decide) (by decide) | exact DN.o_mod (by decide) | exact DN.o_lenL | exact DN.o_lenT | exact DN.o_lenS | exact (show gIx (dW w) (.int 1) = some (LR w.gives) from o_ixT (k := 1) rfl)))
      · (repeat' (first | (with_reducible first | exact DN.e_c | exact DN.e_nil | apply DN.e_set | apply DN.e_ret | apply DN.e_bin | apply DN.e_un | apply DN.e_fn | apply DN.e_cons | apply DN.e_b | apply DN.e_notT | apply DN.e_not | apply DN.e_and | apply DN.e_or | apply DN.e_andT | apply DN.e_orT | apply DN.e_chain | apply DN.e_asg | exact DN.o_add | exact DN.o_sub | exact DN.o_eqI | exact DN.o_neI | exact DN.o_I | exact DN.o_neg | exact DN.o_lst | exact DN.o_tup | exact DN.o_isN | exact DN.o_notN | exact DN.o_ty | exact DN.o_inst) | ((with_reducible apply DN.e_var); exact rfl) | exact DN.o_mulL (by decide) | exact DN.o_mulR (by decide) | exact DN.o_div (by decide) (by decide) | exact DN.o_mod (by decide) | exact DN.o_lenL | exact DN.o_lenT | exact DN.o_lenS | exact law_worth_eq (h.2.2.2 r hr) hs (by omega)))
  · rw [if_neg hg] at e ⊢
    apply e_seqR
    refine e_for (e_lsR ?_) e
    (repeat' (first | (with_reducible first | exact DN.e_c | exact DN.e_nil | apply DN.e_set | apply DN.e_ret | apply DN.e_bin | apply DN.e_un | apply DN.e_fn | apply DN.e_cons | apply DN.e_b | apply DN.e_notT | apply DN.e_not | apply DN.e_and | apply DN.e_or | apply DN.e_andT | apply DN.e_orT | apply DN.e_chain | apply DN.e_asg | exact DN.o_add | exact DN.o_sub | exact DN.o_eqI | exact DN.o_neI | exact DN.o_I | exact DN.o_neg | exact DN.o_lst | exact DN.o_tup | exact DN.o_isN | exact DN.o_notN | exact DN.o_ty | exact DN.o_inst) | ((with_reducible apply DN.e_var); exact rfl) | exact DN.o_mulL (by decide) | exact DN.o_mulR (by decide) | exact DN.o_div (by decide) (by decide) | exact DN.o_mod (by decide) | exact DN.o_lenL | exact DN.o_lenT | exact DN.o_lenS | exact (show gIx (dW w) (.int 0) = some (LR w.asks) from o_ixT (k := 0) rfl)))
def stF (c : Int) (m : Nat) : List Int := if c % 5 = 4 then (List.range m).map fun k => drawn c (k : Nat) * (([1, 1000, 1000000000] : List Int)[(c / 5 % 3).toNat]?).getD 1 - 1000000000 else (List.range m).map fun k => drawn c (k : Nat) % 81 - 40
theorem stF_len (c : Int) (m : Nat) : (stF c m).length = m := by unfold stF; split <;> simp
theorem pow3 : gPow (.int 10) (.int 3) = some (.int 1000) := rfl
theorem pow9 : gPow (.int 10) (.int 9) = some (.int 1000000000) := rfl
theorem ten_at (c : Int) : ((([1, 1000, 1000000000] : List Int)[(c / 5 % 3).toNat]?).getD 1).natAbs < 18446744073709551616 ∧ gIx (.lst [.int 1, .int 1000, .int 1000000000]) (.int (c / 5 % 3)) = some (.int ((([1, 1000, 1000000000] : List Int)[(c / 5 % 3).toNat]?).getD 1)) := by
  have h : c / 5 % 3 = 0 ∨ c / 5 % 3 = 1 ∨ c / 5 % 3 = 2 := by omega
  rcases h with h | h | h <;> rw [h] <;> exact ⟨by decide, rfl⟩
theorem law_state_eq {c : Int} {m : Nat} (hm : m ≤ 3) : M_law_state [.int c, .int (m : Nat)] = some (LI (stF c m)) := by
  refine fn_rt (ρ := [some (.int c), some (.int (m : Nat)), none]) rfl ?_
  unfold m_law_state stF
  obtain ⟨t1, t2⟩ := ten_at c
  by_cases h : c % 5 = 4
  · rw [if_pos h]
    apply e_seqR
    refine e_if (k := c % 5 == 4) ?_ ?_
    · (repeat' (first | (with_reducible first | exact DN.e_c | exact DN.e_nil | apply DN.e_set | apply DN.e_ret | apply DN.e_bin | apply DN.e_un | apply DN.e_fn | apply DN.e_cons | apply DN.e_b | apply DN.e_notT | apply DN.e_not | apply DN.e_and | apply DN.e_or | apply DN.e_andT | apply DN.e_orT | apply DN.e_chain | apply DN.e_asg | exact DN.o_add | exact DN.o_sub | exact DN.o_eqI | exact DN.o_neI | exact DN.o_I | exact DN.o_neg | exact DN.o_lst | exact DN.o_tup | exact DN.o_isN | exact DN.o_notN | exact DN.o_ty | exact DN.o_inst) | ((with_reducible apply DN.e_var); exact rfl) | exact DN.o_mulL (by decide) | exact DN.o_mulR (by decide) | exact DN.o_div (by decide) (by decide) | exact DN.o_mod (by decide) | exact DN.o_lenL | exact DN.o_lenT | exact DN.o_lenS))
    · rw [if_pos (by simpa using h)]
      apply e_ret
      refine e_lcR (g := fun k => drawn c (k : Nat) * (([1, 1000, 1000000000] : List Int)[(c / 5 % 3).toNat]?).getD 1 - 1000000000) (e_rng (n := m) ?_ (by omega)) (by omega) fun j hj => ?_
      · (repeat' (first | (with_reducible first | exact DN.e_c | exact DN.e_nil | apply DN.e_set | apply DN.e_ret | apply DN.e_bin | apply DN.e_un | apply DN.e_fn | apply DN.e_cons | apply DN.e_b | apply DN.e_notT | apply DN.e_not | apply DN.e_and | apply DN.e_or | apply DN.e_andT | apply DN.e_orT | apply DN.e_chain | apply DN.e_asg | exact DN.o_add | exact DN.o_sub | exact DN.o_eqI | exact DN.o_neI | exact DN.o_I | exact DN.o_neg | exact DN.o_lst | exact DN.o_tup | exact DN.o_isN | exact DN.o_notN | exact DN.o_ty | exact DN.o_inst) | ((with_reducible apply DN.e_var); exact rfl) | exact DN.o_mulL (by decide) | exact DN.o_mulR (by decide) | exact DN.o_div (by decide) (by decide) | exact DN.o_mod (by decide) | exact DN.o_lenL | exact DN.o_lenT | exact DN.o_lenS))
      · (repeat' (first | (with_reducible first | exact DN.e_c | exact DN.e_nil | apply DN.e_set | apply DN.e_ret | apply DN.e_bin | apply DN.e_un | apply DN.e_fn | apply DN.e_cons | apply DN.e_b | apply DN.e_notT | apply DN.e_not | apply DN.e_and | apply DN.e_or | apply DN.e_andT | apply DN.e_orT | apply DN.e_chain | apply DN.e_asg | exact DN.o_add | exact DN.o_sub | exact DN.o_eqI | exact DN.o_neI | exact DN.o_I | exact DN.o_neg | exact DN.o_lst | exact DN.o_tup | exact DN.o_isN | exact DN.o_notN | exact DN.o_ty | exact DN.o_inst) | ((with_reducible apply DN.e_var); exact rfl) | exact DN.o_mulL (by decide) | exact DN.o_mulR (by decide) | exact DN.o_div (by decide) (by decide) | exact DN.o_mod (by decide) | exact DN.o_lenL | exact DN.o_lenT | exact DN.o_lenS | exact drawn_eq | exact pow3 | exact pow9 | exact t2 | exact o_mulR t1))
  · rw [if_neg h]
    apply e_seq
    · refine e_if (k := c % 5 == 4) ?_ ?_
      · (repeat' (first | (with_reducible first | exact DN.e_c | exact DN.e_nil | apply DN.e_set | apply DN.e_ret | apply DN.e_bin | apply DN.e_un | apply DN.e_fn | apply DN.e_cons | apply DN.e_b | apply DN.e_notT | apply DN.e_not | apply DN.e_and | apply DN.e_or | apply DN.e_andT | apply DN.e_orT | apply DN.e_chain | apply DN.e_asg | exact DN.o_add | exact DN.o_sub | exact DN.o_eqI | exact DN.o_neI | exact DN.o_I | exact DN.o_neg | exact DN.o_lst | exact DN.o_tup | exact DN.o_isN | exact DN.o_notN | exact DN.o_ty | exact DN.o_inst) | ((with_reducible apply DN.e_var); exact rfl) | exact DN.o_mulL (by decide) | exact DN.o_mulR (by decide) | exact DN.o_div (by decide) (by decide) | exact DN.o_mod (by decide) | exact DN.o_lenL | exact DN.o_lenT | exact DN.o_lenS))
      · rw [if_neg (by simpa using h)]
        exact e_nx
    · apply e_ret
      refine e_lcR (g := fun k => drawn c (k : Nat) % 81 - 40) (e_rng (n := m) ?_ (by omega)) (by omega) fun j hj => ?_
      · (repeat' (first | (with_reducible first | exact DN.e_c | exact DN.e_nil | apply DN.e_set | apply DN.e_ret | apply DN.e_bin | apply DN.e_un | apply DN.e_fn | apply DN.e_cons | apply DN.e_b | apply DN.e_notT | apply DN.e_not | apply DN.e_and | apply DN.e_or | apply DN.e_andT | apply DN.e_orT | apply DN.e_chain | apply DN.e_asg | exact DN.o_add | exact DN.o_sub | exact DN.o_eqI | exact DN.o_neI | exact DN.o_I | exact DN.o_neg | exact DN.o_lst | exact DN.o_tup | exact DN.o_isN | exact DN.o_notN | exact DN.o_ty | exact DN.o_inst) | ((with_reducible apply DN.e_var); exact rfl) | exact DN.o_mulL (by decide) | exact DN.o_mulR (by decide) | exact DN.o_div (by decide) (by decide) | exact DN.o_mod (by decide) | exact DN.o_lenL | exact DN.o_lenT | exact DN.o_lenS))
      · (repeat' (first | (with_reducible first | exact DN.e_c | exact DN.e_nil | apply DN.e_set | apply DN.e_ret | apply DN.e_bin | apply DN.e_un | apply DN.e_fn | apply DN.e_cons | apply DN.e_b | apply DN.e_notT | apply DN.e_not | apply DN.e_and | apply DN.e_or | apply DN.e_andT | apply DN.e_orT | apply DN.e_chain | apply DN.e_asg | exact DN.o_add | exact DN.o_sub | exact DN.o_eqI | exact DN.o_neI | exact DN.o_I | exact DN.o_neg | exact DN.o_lst | exact DN.o_tup | exact DN.o_isN | exact DN.o_notN | exact DN.o_ty | exact DN.o_inst) | ((with_reducible apply DN.e_var); exact rfl) | exact DN.o_mulL (by decide) | exact DN.o_mulR (by decide) | exact DN.o_div (by decide) (by decide) | exact DN.o_mod (by decide) | exact DN.o_lenL | exact DN.o_lenT | exact DN.o_lenS | exact drawn_eq))
theorem flat_led {w : Way} {s : List Int} : Flat (ledF w s) = true := by
  unfold ledF
  split
  · exact flat_LI
  · rfl
theorem okAfter {L : Lp} {k : Nat} {s : List Int} {w : Way} (h : LpOk L) (hk : L.ways[k]? = some w) (hs : s.length = L.many) : okOf M_after [dL L, .int (k : Nat), LI s] = some (ledF w s) := by
  unfold okOf
  rw [after_ok h hk hs]
  rfl
theorem right_eq {L : Lp} {s : List Int} (h : LpOk L) (hs : s.length = L.many) : M_law_right [dL L, LI s] = some (.bl true) := by
  refine fn_rt (ρ := [some (dL L), some (LI s), none, none, none, none, none, none]) rfl ?_
  unfold m_law_right
  have b3 := h.w3
  obtain ⟨ρ', h1, x2, x3, x4, x5, x6, x7, hρ⟩ := for_rng (n := L.ways.length) (bd := bd1 2) (ρ := [some (dL L), some (LI s), none, none, none, none, none, none])
    (s := (sSeq (sSet 3 (ev false [] (dFn M_law_led (dCons (dBin gIx (dBin gIx (dVar 0) (dC (.int 1))) (dVar 2)) (dCons (dVar 1) dNil)))))
    (sFor [] (dRng1 (dC (.int 2))) (bd1 4) (sSeq (sSet 5 (dFn (okOf M_after) (dCons (dVar 0) (dCons (dVar 2) (dCons (dVar 1) dNil)))))
    (sIf (tOrD (dB (dBin (gIsN false) (dVar 5) (dC .non))) (dB (dBin (gIsN false) (dVar 3) (dC .non)))) (sIf (tOrD (dB (dBin (gIsN true) (dVar 5) (dC .non))) (dB (dBin (gIsN true) (dVar 3) (dC .non)))) (sRet (dC (.bl false))) sNx) (sSeq (sNew 6 (dLc [7] (dLs (dVar 5)) (bd1 7) (tAndD (dB (dUn (gInst "int") (dVar 7))) (tNotD (dB (dUn (gInst "bool") (dVar 7))))) (dVar 7)))
    (sSeq (sIf (tOrD (tNotD (dB (dUn (gInst "list") (dVar 5)))) (tOrD (dB (dBin (gEqv true) (dVar 5) (dVar 3))) (dB (dBin (gEqv true) (dVar 6) (dVar 5))))) (sRet (dC (.bl false))) sNx)
    (sAppS 5 (ev false [6, 5] (dC (.int 0)))))))))))
    (P := fun _ ρ => ∃ x2 x3 x4 x5 x6 x7, ρ = [some (dL L), some (LI s), x2, x3, x4, x5, x6, x7]) ⟨_, _, _, _, _, _, rfl⟩ (fun k hk ρ ⟨x2, x3, x4, x5, x6, x7, hρ⟩ => by
      subst hρ
      obtain ⟨w, hw⟩ : ∃ w, L.ways[k]? = some w := ⟨_, List.getElem?_eq_getElem hk⟩
      have hwo := h.ok w (List.mem_of_getElem? hw)
      obtain ⟨ρ2, k1, y4, y5, y6, y7, k2⟩ := for_rng (n := 2) (bd := bd1 4) (ρ := [some (dL L), some (LI s), some (.int (k : Nat)), some (ledF w s), x4, x5, x6, x7])
        (s := (sSeq (sSet 5 (dFn (okOf M_after) (dCons (dVar 0) (dCons (dVar 2) (dCons (dVar 1) dNil)))))
    (sIf (tOrD (dB (dBin (gIsN false) (dVar 5) (dC .non))) (dB (dBin (gIsN false) (dVar 3) (dC .non)))) (sIf (tOrD (dB (dBin (gIsN true) (dVar 5) (dC .non))) (dB (dBin (gIsN true) (dVar 3) (dC .non)))) (sRet (dC (.bl false))) sNx) (sSeq (sNew 6 (dLc [7] (dLs (dVar 5)) (bd1 7) (tAndD (dB (dUn (gInst "int") (dVar 7))) (tNotD (dB (dUn (gInst "bool") (dVar 7))))) (dVar 7)))
    (sSeq (sIf (tOrD (tNotD (dB (dUn (gInst "list") (dVar 5)))) (tOrD (dB (dBin (gEqv true) (dVar 5) (dVar 3))) (dB (dBin (gEqv true) (dVar 6) (dVar 5))))) (sRet (dC (.bl false))) sNx)
    (sAppS 5 (ev false [6, 5] (dC (.int 0)))))))))
        (P := fun _ ρ => ∃ y4 y5 y6 y7, ρ = [some (dL L), some (LI s), some (.int (k : Nat)), some (ledF w s), y4, y5, y6, y7]) ⟨_, _, _, _, rfl⟩ (fun j hj ρ ⟨y4, y5, y6, y7, hρ⟩ => by
          subst hρ
          have hn : sSet 5 (dFn (okOf M_after) (dCons (dVar 0) (dCons (dVar 2) (dCons (dVar 1) dNil)))) [some (dL L), some (LI s), some (.int (k : Nat)), some (ledF w s), some (.int (j : Nat)), y5, y6, y7] = some (.nx [some (dL L), some (LI s), some (.int (k : Nat)), some (ledF w s), some (.int (j : Nat)), some (ledF w s), y6, y7]) := by
            refine e_setW ?_
            (repeat' (first | (with_reducible first | exact DN.e_c | exact DN.e_nil | apply DN.e_set | apply DN.e_ret | apply DN.e_bin | apply DN.e_un | apply DN.e_fn | apply DN.e_cons | apply DN.e_b | apply DN.e_notT | apply DN.e_not | apply DN.e_and | apply DN.e_or | apply DN.e_andT | apply DN.e_orT | apply DN.e_chain | apply DN.e_asg | exact DN.o_add | exact DN.o_sub | exact DN.o_eqI | exact DN.o_neI | exact DN.o_I | exact DN.o_neg | exact DN.o_lst | exact DN.o_tup | exact DN.o_isN | exact DN.o_notN | exact DN.o_ty | exact DN.o_inst) | ((with_reducible apply DN.e_var); exact rfl) | exact DN.o_mulL (by decide) | exact DN.o_mulR (by decide) | exact DN.o_div (by decide) (by decide) | exact DN.o_mod (by decide) | exact DN.o_lenL | exact DN.o_lenT | exact DN.o_lenS | exact okAfter h hw hs))
          by_cases hg : gone w s = true
          · have hl : ledF w s = LI (w.gives.map fun r => wsum r s) := if_pos hg
            have hlen := (row_len h.m3 hwo).2.1
            refine ⟨_, [some (dL L), some (LI s), some (.int (k : Nat)), some (ledF w s), some (.int (j : Nat)), some (.lst ((w.gives.map fun r => wsum r s).map D.int ++ [.int 0])), some (ledF w s), y7], rfl, ?_, _, _, _, _, rfl⟩
            refine e_seq hn ?_
            rw [hl]
            refine e_if (k := false) ?_ ?_
            · refine e_orT (k := false) (l := false) ?_ (fun _ => ?_)
              · (repeat' (first | (with_reducible first | exact DN.e_c | exact DN.e_nil | apply DN.e_set | apply DN.e_ret | apply DN.e_bin | apply DN.e_un | apply DN.e_fn | apply DN.e_cons | apply DN.e_b | apply DN.e_notT | apply DN.e_not | apply DN.e_and | apply DN.e_or | apply DN.e_andT | apply DN.e_orT | apply DN.e_chain | apply DN.e_asg | exact DN.o_add | exact DN.o_sub | exact DN.o_eqI | exact DN.o_neI | exact DN.o_I | exact DN.o_neg | exact DN.o_lst | exact DN.o_tup | exact DN.o_isN | exact DN.o_notN | exact DN.o_ty | exact DN.o_inst) | ((with_reducible apply DN.e_var); exact rfl) | exact DN.o_mulL (by decide) | exact DN.o_mulR (by decide) | exact DN.o_div (by decide) (by decide) | exact DN.o_mod (by decide) | exact DN.o_lenL | exact DN.o_lenT | exact DN.o_lenS))
                rfl
              · (repeat' (first | (with_reducible first | exact DN.e_c | exact DN.e_nil | apply DN.e_set | apply DN.e_ret | apply DN.e_bin | apply DN.e_un | apply DN.e_fn | apply DN.e_cons | apply DN.e_b | apply DN.e_notT | apply DN.e_not | apply DN.e_and | apply DN.e_or | apply DN.e_andT | apply DN.e_orT | apply DN.e_chain | apply DN.e_asg | exact DN.o_add | exact DN.o_sub | exact DN.o_eqI | exact DN.o_neI | exact DN.o_I | exact DN.o_neg | exact DN.o_lst | exact DN.o_tup | exact DN.o_isN | exact DN.o_notN | exact DN.o_ty | exact DN.o_inst) | ((with_reducible apply DN.e_var); exact rfl) | exact DN.o_mulL (by decide) | exact DN.o_mulR (by decide) | exact DN.o_div (by decide) (by decide) | exact DN.o_mod (by decide) | exact DN.o_lenL | exact DN.o_lenT | exact DN.o_lenS))
                rfl
            · refine e_seq (ρ1 := [some (dL L), some (LI s), some (.int (k : Nat)), some (LI (w.gives.map fun r => wsum r s)), some (.int (j : Nat)), some (LI (w.gives.map fun r => wsum r s)), some (LI (w.gives.map fun r => wsum r s)), y7]) ?_ ?_
              · refine e_new (d := LI (w.gives.map fun r => wsum r s)) ?_ flat_LI
                refine e_lcAll (e_lsI ?_) (by rw [List.length_map, List.length_map]; exact hlen) fun d hd => ?_
                · exact e_var rfl
                · obtain ⟨x, _, rfl⟩ := List.mem_map.mp hd
                  refine ⟨e_andT (k := true) (l := true) ?_ (fun _ => ?_), e_var rfl⟩
                  · (repeat' (first | (with_reducible first | exact DN.e_c | exact DN.e_nil | apply DN.e_set | apply DN.e_ret | apply DN.e_bin | apply DN.e_un | apply DN.e_fn | apply DN.e_cons | apply DN.e_b | apply DN.e_notT | apply DN.e_not | apply DN.e_and | apply DN.e_or | apply DN.e_andT | apply DN.e_orT | apply DN.e_chain | apply DN.e_asg | exact DN.o_add | exact DN.o_sub | exact DN.o_eqI | exact DN.o_neI | exact DN.o_I | exact DN.o_neg | exact DN.o_lst | exact DN.o_tup | exact DN.o_isN | exact DN.o_notN | exact DN.o_ty | exact DN.o_inst) | ((with_reducible apply DN.e_var); exact rfl) | exact DN.o_mulL (by decide) | exact DN.o_mulR (by decide) | exact DN.o_div (by decide) (by decide) | exact DN.o_mod (by decide) | exact DN.o_lenL | exact DN.o_lenT | exact DN.o_lenS))
                    rfl
                  · refine e_notT (k := false) ?_
                    (repeat' (first | (with_reducible first | exact DN.e_c | exact DN.e_nil | apply DN.e_set | apply DN.e_ret | apply DN.e_bin | apply DN.e_un | apply DN.e_fn | apply DN.e_cons | apply DN.e_b | apply DN.e_notT | apply DN.e_not | apply DN.e_and | apply DN.e_or | apply DN.e_andT | apply DN.e_orT | apply DN.e_chain | apply DN.e_asg | exact DN.o_add | exact DN.o_sub | exact DN.o_eqI | exact DN.o_neI | exact DN.o_I | exact DN.o_neg | exact DN.o_lst | exact DN.o_tup | exact DN.o_isN | exact DN.o_notN | exact DN.o_ty | exact DN.o_inst) | ((with_reducible apply DN.e_var); exact rfl) | exact DN.o_mulL (by decide) | exact DN.o_mulR (by decide) | exact DN.o_div (by decide) (by decide) | exact DN.o_mod (by decide) | exact DN.o_lenL | exact DN.o_lenT | exact DN.o_lenS))
                    rfl
              · refine e_seq ?_ (ρ1 := [some (dL L), some (LI s), some (.int (k : Nat)), some (LI (w.gives.map fun r => wsum r s)), some (.int (j : Nat)), some (LI (w.gives.map fun r => wsum r s)), some (LI (w.gives.map fun r => wsum r s)), y7]) ?_
                · refine e_if (k := false) ?_ e_nx
                  refine e_orT (k := !true) (l := false) ?_ (fun _ => ?_)
                  · apply e_notT
                    (repeat' (first | (with_reducible first | exact DN.e_c | exact DN.e_nil | apply DN.e_set | apply DN.e_ret | apply DN.e_bin | apply DN.e_un | apply DN.e_fn | apply DN.e_cons | apply DN.e_b | apply DN.e_notT | apply DN.e_not | apply DN.e_and | apply DN.e_or | apply DN.e_andT | apply DN.e_orT | apply DN.e_chain | apply DN.e_asg | exact DN.o_add | exact DN.o_sub | exact DN.o_eqI | exact DN.o_neI | exact DN.o_I | exact DN.o_neg | exact DN.o_lst | exact DN.o_tup | exact DN.o_isN | exact DN.o_notN | exact DN.o_ty | exact DN.o_inst) | ((with_reducible apply DN.e_var); exact rfl) | exact DN.o_mulL (by decide) | exact DN.o_mulR (by decide) | exact DN.o_div (by decide) (by decide) | exact DN.o_mod (by decide) | exact DN.o_lenL | exact DN.o_lenT | exact DN.o_lenS))
                    rfl
                  · refine e_orT (k := false) (l := false) ?_ (fun _ => ?_)
                    · (repeat' (first | (with_reducible first | exact DN.e_c | exact DN.e_nil | apply DN.e_set | apply DN.e_ret | apply DN.e_bin | apply DN.e_un | apply DN.e_fn | apply DN.e_cons | apply DN.e_b | apply DN.e_notT | apply DN.e_not | apply DN.e_and | apply DN.e_or | apply DN.e_andT | apply DN.e_orT | apply DN.e_chain | apply DN.e_asg | exact DN.o_add | exact DN.o_sub | exact DN.o_eqI | exact DN.o_neI | exact DN.o_I | exact DN.o_neg | exact DN.o_lst | exact DN.o_tup | exact DN.o_isN | exact DN.o_notN | exact DN.o_ty | exact DN.o_inst) | ((with_reducible apply DN.e_var); exact rfl) | exact DN.o_mulL (by decide) | exact DN.o_mulR (by decide) | exact DN.o_div (by decide) (by decide) | exact DN.o_mod (by decide) | exact DN.o_lenL | exact DN.o_lenT | exact DN.o_lenS | exact (show gEqv true (LI (w.gives.map fun r => wsum r s)) (LI (w.gives.map fun r => wsum r s)) = some (.bl false) from o_self (n := 1) eq_LI (by decide) true)))
                    · (repeat' (first | (with_reducible first | exact DN.e_c | exact DN.e_nil | apply DN.e_set | apply DN.e_ret | apply DN.e_bin | apply DN.e_un | apply DN.e_fn | apply DN.e_cons | apply DN.e_b | apply DN.e_notT | apply DN.e_not | apply DN.e_and | apply DN.e_or | apply DN.e_andT | apply DN.e_orT | apply DN.e_chain | apply DN.e_asg | exact DN.o_add | exact DN.o_sub | exact DN.o_eqI | exact DN.o_neI | exact DN.o_I | exact DN.o_neg | exact DN.o_lst | exact DN.o_tup | exact DN.o_isN | exact DN.o_notN | exact DN.o_ty | exact DN.o_inst) | ((with_reducible apply DN.e_var); exact rfl) | exact DN.o_mulL (by decide) | exact DN.o_mulR (by decide) | exact DN.o_div (by decide) (by decide) | exact DN.o_mod (by decide) | exact DN.o_lenL | exact DN.o_lenT | exact DN.o_lenS | exact (show gEqv true (LI (w.gives.map fun r => wsum r s)) (LI (w.gives.map fun r => wsum r s)) = some (.bl false) from o_self (n := 1) eq_LI (by decide) true)))
                · exact e_appS (d := .int 0) (e_ev (O := [6, 5]) e_c) rfl rfl (by rw [List.length_map, List.length_map]; exact hlen)
          · have hl : ledF w s = .non := if_neg hg
            refine ⟨_, [some (dL L), some (LI s), some (.int (k : Nat)), some (ledF w s), some (.int (j : Nat)), some (ledF w s), y6, y7], rfl, ?_, _, _, _, _, rfl⟩
            refine e_seq hn ?_
            rw [hl]
            refine e_if (k := true) ?_ ?_
            · refine e_orT (k := true) (l := true) ?_ (fun z => nomatch z)
              (repeat' (first | (with_reducible first | exact DN.e_c | exact DN.e_nil | apply DN.e_set | apply DN.e_ret | apply DN.e_bin | apply DN.e_un | apply DN.e_fn | apply DN.e_cons | apply DN.e_b | apply DN.e_notT | apply DN.e_not | apply DN.e_and | apply DN.e_or | apply DN.e_andT | apply DN.e_orT | apply DN.e_chain | apply DN.e_asg | exact DN.o_add | exact DN.o_sub | exact DN.o_eqI | exact DN.o_neI | exact DN.o_I | exact DN.o_neg | exact DN.o_lst | exact DN.o_tup | exact DN.o_isN | exact DN.o_notN | exact DN.o_ty | exact DN.o_inst) | ((with_reducible apply DN.e_var); exact rfl) | exact DN.o_mulL (by decide) | exact DN.o_mulR (by decide) | exact DN.o_div (by decide) (by decide) | exact DN.o_mod (by decide) | exact DN.o_lenL | exact DN.o_lenT | exact DN.o_lenS))
              rfl
            · refine e_if (k := false) ?_ e_nx
              refine e_orT (k := false) (l := false) ?_ (fun _ => ?_)
              · (repeat' (first | (with_reducible first | exact DN.e_c | exact DN.e_nil | apply DN.e_set | apply DN.e_ret | apply DN.e_bin | apply DN.e_un | apply DN.e_fn | apply DN.e_cons | apply DN.e_b | apply DN.e_notT | apply DN.e_not | apply DN.e_and | apply DN.e_or | apply DN.e_andT | apply DN.e_orT | apply DN.e_chain | apply DN.e_asg | exact DN.o_add | exact DN.o_sub | exact DN.o_eqI | exact DN.o_neI | exact DN.o_I | exact DN.o_neg | exact DN.o_lst | exact DN.o_tup | exact DN.o_isN | exact DN.o_notN | exact DN.o_ty | exact DN.o_inst) | ((with_reducible apply DN.e_var); exact rfl) | exact DN.o_mulL (by decide) | exact DN.o_mulR (by decide) | exact DN.o_div (by decide) (by decide) | exact DN.o_mod (by decide) | exact DN.o_lenL | exact DN.o_lenT | exact DN.o_lenS))
                rfl
              · (repeat' (first | (with_reducible first | exact DN.e_c | exact DN.e_nil | apply DN.e_set | apply DN.e_ret | apply DN.e_bin | apply DN.e_un | apply DN.e_fn | apply DN.e_cons | apply DN.e_b | apply DN.e_notT | apply DN.e_not | apply DN.e_and | apply DN.e_or | apply DN.e_andT | apply DN.e_orT | apply DN.e_chain | apply DN.e_asg | exact DN.o_add | exact DN.o_sub | exact DN.o_eqI | exact DN.o_neI | exact DN.o_I | exact DN.o_neg | exact DN.o_lst | exact DN.o_tup | exact DN.o_isN | exact DN.o_notN | exact DN.o_ty | exact DN.o_inst) | ((with_reducible apply DN.e_var); exact rfl) | exact DN.o_mulL (by decide) | exact DN.o_mulR (by decide) | exact DN.o_div (by decide) (by decide) | exact DN.o_mod (by decide) | exact DN.o_lenL | exact DN.o_lenT | exact DN.o_lenS))
                rfl)
      subst k2
      refine ⟨_, [some (dL L), some (LI s), some (.int (k : Nat)), some (ledF w s), y4, y5, y6, y7], rfl, ?_, _, _, _, _, _, _, rfl⟩
      refine e_seq (ρ1 := [some (dL L), some (LI s), some (.int (k : Nat)), some (ledF w s), x4, x5, x6, x7]) ?_ ?_
      · refine e_set (d := ledF w s) ?_
        (repeat' (first | (with_reducible first | exact DN.e_c | exact DN.e_nil | apply DN.e_set | apply DN.e_ret | apply DN.e_bin | apply DN.e_un | apply DN.e_fn | apply DN.e_cons | apply DN.e_b | apply DN.e_notT | apply DN.e_not | apply DN.e_and | apply DN.e_or | apply DN.e_andT | apply DN.e_orT | apply DN.e_chain | apply DN.e_asg | exact DN.o_add | exact DN.o_sub | exact DN.o_eqI | exact DN.o_neI | exact DN.o_I | exact DN.o_neg | exact DN.o_lst | exact DN.o_tup | exact DN.o_isN | exact DN.o_notN | exact DN.o_ty | exact DN.o_inst) | ((with_reducible apply DN.e_var); exact rfl) | exact DN.o_mulL (by decide) | exact DN.o_mulR (by decide) | exact DN.o_div (by decide) (by decide) | exact DN.o_mod (by decide) | exact DN.o_lenL | exact DN.o_lenT | exact DN.o_lenS | exact (show gIx (dL L) (.int 1) = some (.lst (L.ways.map dW)) from o_ixT (k := 1) rfl) | exact (show gIx (.lst (L.ways.map dW)) (.int (k : Nat)) = some (dW w) from o_ix (by rw [List.getElem?_map, hw]; rfl)) | exact law_led_eq hwo hs h.m3))
      · exact e_for (e_rng (n := 2) rfl (by decide)) k1)
  subst hρ
  apply e_seq
  · refine e_for (e_rng (n := L.ways.length) ?_ (by omega)) h1
    (repeat' (first | (with_reducible first | exact DN.e_c | exact DN.e_nil | apply DN.e_set | apply DN.e_ret | apply DN.e_bin | apply DN.e_un | apply DN.e_fn | apply DN.e_cons | apply DN.e_b | apply DN.e_notT | apply DN.e_not | apply DN.e_and | apply DN.e_or | apply DN.e_andT | apply DN.e_orT | apply DN.e_chain | apply DN.e_asg | exact DN.o_add | exact DN.o_sub | exact DN.o_eqI | exact DN.o_neI | exact DN.o_I | exact DN.o_neg | exact DN.o_lst | exact DN.o_tup | exact DN.o_isN | exact DN.o_notN | exact DN.o_ty | exact DN.o_inst) | ((with_reducible apply DN.e_var); exact rfl) | exact DN.o_mulL (by decide) | exact DN.o_mulR (by decide) | exact DN.o_div (by decide) (by decide) | exact DN.o_mod (by decide) | exact DN.o_lenL | exact DN.o_lenT | exact DN.o_lenS | exact (show gIx (dL L) (.int 1) = some (.lst (L.ways.map dW)) from o_ixT (k := 1) rfl) | exact (show gLen [.lst (L.ways.map dW)] = some (.int (L.ways.length : Nat)) from by rw [o_lenL, List.length_map])))
  · (repeat' (first | (with_reducible first | exact DN.e_c | exact DN.e_nil | apply DN.e_set | apply DN.e_ret | apply DN.e_bin | apply DN.e_un | apply DN.e_fn | apply DN.e_cons | apply DN.e_b | apply DN.e_notT | apply DN.e_not | apply DN.e_and | apply DN.e_or | apply DN.e_andT | apply DN.e_orT | apply DN.e_chain | apply DN.e_asg | exact DN.o_add | exact DN.o_sub | exact DN.o_eqI | exact DN.o_neI | exact DN.o_I | exact DN.o_neg | exact DN.o_lst | exact DN.o_tup | exact DN.o_isN | exact DN.o_notN | exact DN.o_ty | exact DN.o_inst) | ((with_reducible apply DN.e_var); exact rfl) | exact DN.o_mulL (by decide) | exact DN.o_mulR (by decide) | exact DN.o_div (by decide) (by decide) | exact DN.o_mod (by decide) | exact DN.o_lenL | exact DN.o_lenT | exact DN.o_lenS))
theorem word_eq {L : Lp} {num st : D} {n : Str} (h : M_after [dL L, num, st] = some (.er n)) (hn : n ∈ errs) : M_law_word [dL L, num, st] = some (.str (tellE n)) := by
  refine fn_rt (ρ := [some (dL L), some num, some st, none]) rfl ?_
  unfold m_law_word
  apply e_seqR
  refine e_try (e_xE ?_ h) hn
  (repeat' (first | (with_reducible first | exact DN.e_c | exact DN.e_nil | apply DN.e_set | apply DN.e_ret | apply DN.e_bin | apply DN.e_un | apply DN.e_fn | apply DN.e_cons | apply DN.e_b | apply DN.e_notT | apply DN.e_not | apply DN.e_and | apply DN.e_or | apply DN.e_andT | apply DN.e_orT | apply DN.e_chain | apply DN.e_asg | exact DN.o_add | exact DN.o_sub | exact DN.o_eqI | exact DN.o_neI | exact DN.o_I | exact DN.o_neg | exact DN.o_lst | exact DN.o_tup | exact DN.o_isN | exact DN.o_notN | exact DN.o_ty | exact DN.o_inst) | ((with_reducible apply DN.e_var); exact rfl) | exact DN.o_mulL (by decide) | exact DN.o_mulR (by decide) | exact DN.o_div (by decide) (by decide) | exact DN.o_mod (by decide) | exact DN.o_lenL | exact DN.o_lenT | exact DN.o_lenS))
end K02

set_option Elab.async false
set_option linter.all false
set_option maxRecDepth 100000
set_option maxHeartbeats 400000
namespace K02
open PySem PySem.Spec PyProof.Rows L2 DN
theorem tell_count : tellE "BadCount" = ("count " : Str) := by decide +kernel
theorem tell_state : tellE "BadState" = ("state " : Str) := by decide +kernel
theorem eq_strs {n : Nat} : EqOk n (.str "count ") ∧ EqOk n (.str "state ") := ⟨⟨_, rfl, by decide +kernel, by simp [PyData.depth]⟩, ⟨_, rfl, by decide +kernel, by simp [PyData.depth]⟩⟩
theorem word_count {L : Lp} {num st : D} (h : LpOk L) (hn : within 0 (L.ways.length - 1) num = false) : M_law_word [dL L, num, st] = some (.str "count ") := by
  rw [word_eq (after_count h hn) (by decide), tell_count]
theorem word_state {L : Lp} {k : Nat} {st : D} (h : LpOk L) (hk : k < L.ways.length) (hd : ∀ ns, st ≠ .scr ns) (hs : isSt L.many st = false) : M_law_word [dL L, .int (k : Nat), st] = some (.str "state ") := by
  rw [word_eq (after_state h hk hd hs) (by decide), tell_state]
theorem cut_le {α : Type} (l : List α) (lo hi : Option Int) : (DN.cutD l lo hi).length ≤ l.length := by
  unfold DN.cutD
  rw [List.length_take, List.length_drop]
  omega
theorem mem_at {α : Type} {xs : List α} {n : Nat} {x : α} (h : xs[n]? = some x) : x ∈ xs := List.mem_of_getElem? h
theorem law_eq (ns : List Int) : M_law [.scr ns] = some (.bl true) := by
  have h : LpOk (loopF ns 2) := loopF_ok ns 2
  generalize hL : loopF ns 2 = L at h
  have hloop : M_law_loop_by [.scr ns, .int 2] = some (dL L) := by rw [← hL]; exact loop_eq (at_ := 2)
  have hcp : M_law_copied [dL L] = some (dL L) := copied_eq 7 _ (cp_dL (n := 1) h)
  have b1 := h.m1
  have b2 := h.m3
  have b3 := h.w1
  have b4 := h.w3
  have hself : gEqv true (dL L) (dL L) = some (.bl false) := o_self (n := 10) eq_dL (by decide) true
  refine fn_rt (ρ := [some (.scr ns), none, none, none, none, none, none, none, none, none, none, none, none]) rfl ?_
  unfold m_law
  have fright : ∀ s : List Int, s.length = L.many → M_law_right [dL L, LI s] = some (.bl true) := fun s hs => right_eq h hs
  have fstate : ∀ c : Int, M_law_state [.int c, .int (L.many : Nat)] = some (LI (stF c L.many)) := fun c => law_state_eq b2
  have fcount : ∀ num st : D, within 0 (L.ways.length - 1) num = false → M_law_word [dL L, num, st] = some (.str "count ") := fun num st hn => word_count h hn
  have fbad : ∀ (k : Nat) (st : D), k < L.ways.length → (∀ ns, st ≠ .scr ns) → isSt L.many st = false → M_law_word [dL L, .int (k : Nat), st] = some (.str "state ") := fun k st hk hd hs => word_state h hk hd hs
  have fcell : ∀ k : Nat, M_law_cell_at [.scr ns, .int (k : Nat)] = some (.int (cell ns k)) := fun k => cell_eq
  revert hloop hcp fright fstate fcount fbad fcell
  generalize M_law_right = fR
  generalize M_law_state = fS
  generalize M_law_word = fW
  generalize M_law_cell_at = fC
  generalize M_law_loop_by = fL
  generalize M_law_copied = fK
  intro hloop hcp fright fstate fcount fbad fcell
  apply e_seq
  · (repeat' (first | (with_reducible first | exact DN.e_c | exact DN.e_nil | apply DN.e_set | apply DN.e_ret | apply DN.e_bin | apply DN.e_un | apply DN.e_fn | apply DN.e_cons | apply DN.e_b | apply DN.e_notT | apply DN.e_not | apply DN.e_and | apply DN.e_or | apply DN.e_andT | apply DN.e_orT | apply DN.e_chain | apply DN.e_asg | exact DN.o_add | exact DN.o_sub | exact DN.o_eqI | exact DN.o_neI | exact DN.o_I | exact DN.o_neg | exact DN.o_lst | exact DN.o_tup | exact DN.o_isN | exact DN.o_notN | exact DN.o_ty | exact DN.o_inst) | ((with_reducible apply DN.e_var); exact rfl) | exact DN.o_mulL (by decide) | exact DN.o_mulR (by decide) | exact DN.o_div (by decide) (by decide) | exact DN.o_mod (by decide) | exact DN.o_lenL | exact DN.o_lenT | exact DN.o_lenS | exact hloop))
  apply e_seq
  · (repeat' (first | (with_reducible first | exact DN.e_c | exact DN.e_nil | apply DN.e_set | apply DN.e_ret | apply DN.e_bin | apply DN.e_un | apply DN.e_fn | apply DN.e_cons | apply DN.e_b | apply DN.e_notT | apply DN.e_not | apply DN.e_and | apply DN.e_or | apply DN.e_andT | apply DN.e_orT | apply DN.e_chain | apply DN.e_asg | exact DN.o_add | exact DN.o_sub | exact DN.o_eqI | exact DN.o_neI | exact DN.o_I | exact DN.o_neg | exact DN.o_lst | exact DN.o_tup | exact DN.o_isN | exact DN.o_notN | exact DN.o_ty | exact DN.o_inst) | ((with_reducible apply DN.e_var); exact rfl) | exact DN.o_mulL (by decide) | exact DN.o_mulR (by decide) | exact DN.o_div (by decide) (by decide) | exact DN.o_mod (by decide) | exact DN.o_lenL | exact DN.o_lenT | exact DN.o_lenS | exact (show gIx (dL L) (.int 0) = some (.int (L.many : Nat)) from o_ixT (k := 0) rfl)))
  apply e_seq
  · (repeat' (first | (with_reducible first | exact DN.e_c | exact DN.e_nil | apply DN.e_set | apply DN.e_ret | apply DN.e_bin | apply DN.e_un | apply DN.e_fn | apply DN.e_cons | apply DN.e_b | apply DN.e_notT | apply DN.e_not | apply DN.e_and | apply DN.e_or | apply DN.e_andT | apply DN.e_orT | apply DN.e_chain | apply DN.e_asg | exact DN.o_add | exact DN.o_sub | exact DN.o_eqI | exact DN.o_neI | exact DN.o_I | exact DN.o_neg | exact DN.o_lst | exact DN.o_tup | exact DN.o_isN | exact DN.o_notN | exact DN.o_ty | exact DN.o_inst) | ((with_reducible apply DN.e_var); exact rfl) | exact DN.o_mulL (by decide) | exact DN.o_mulR (by decide) | exact DN.o_div (by decide) (by decide) | exact DN.o_mod (by decide) | exact DN.o_lenL | exact DN.o_lenT | exact DN.o_lenS | exact hcp))
  -- the states
  obtain ⟨ρ', h1, x4, x5, x6, hρ⟩ := for_inv (bd := bd1 4) (ds := (DN.cutD ns (some 6) (some 16)).map D.int) (ρ := [some (.scr ns), some (dL L), some (.int (L.many : Nat)), some (dL L), none, none, none, none, none, none, none, none, none])
    (s := (sSeq (sSet 5 (ev false [] (dFn fS (dCons (dVar 4) (dCons (dVar 2) dNil)))))
    (sSeq (sSet 6 (ev false [] (dFn gList (dCons (dVar 5) dNil))))
    (sIf (tOrD (tNotD (dB (dFn fR (dCons (dVar 1) (dCons (dVar 6) dNil))))) (tOrD (dB (dBin (gEqv true) (dVar 6) (dVar 5))) (dB (dBin (gEqv true) (dVar 1) (dVar 3))))) (sRet (dC (.bl false))) sNx))))
    (P := fun ρ => ∃ x4 x5 x6, ρ = [some (.scr ns), some (dL L), some (.int (L.many : Nat)), some (dL L), x4, x5, x6, none, none, none, none, none, none]) ⟨_, _, _, rfl⟩ (fun d hd ρ ⟨x4, x5, x6, hρ⟩ => by
      subst hρ
      obtain ⟨c, _, rfl⟩ := List.mem_map.mp hd
      refine ⟨_, [some (.scr ns), some (dL L), some (.int (L.many : Nat)), some (dL L), some (.int c), some (LI (stF c L.many)), some (LI (stF c L.many)), none, none, none, none, none, none], rfl, ?_, _, _, _, rfl⟩
      refine e_seq (ρ1 := [some (.scr ns), some (dL L), some (.int (L.many : Nat)), some (dL L), some (.int c), some (LI (stF c L.many)), x6, none, none, none, none, none, none]) ?_ ?_
      · refine e_set (d := LI (stF c L.many)) ?_
        (repeat' (first | (with_reducible first | exact DN.e_c | exact DN.e_nil | apply DN.e_set | apply DN.e_ret | apply DN.e_bin | apply DN.e_un | apply DN.e_fn | apply DN.e_cons | apply DN.e_b | apply DN.e_notT | apply DN.e_not | apply DN.e_and | apply DN.e_or | apply DN.e_andT | apply DN.e_orT | apply DN.e_chain | apply DN.e_asg | exact DN.o_add | exact DN.o_sub | exact DN.o_eqI | exact DN.o_neI | exact DN.o_I | exact DN.o_neg | exact DN.o_lst | exact DN.o_tup | exact DN.o_isN | exact DN.o_notN | exact DN.o_ty | exact DN.o_inst) | ((with_reducible apply DN.e_var); exact rfl) | exact DN.o_mulL (by decide) | exact DN.o_mulR (by decide) | exact DN.o_div (by decide) (by decide) | exact DN.o_mod (by decide) | exact DN.o_lenL | exact DN.o_lenT | exact DN.o_lenS | exact fstate c))
      · refine e_seq (ρ1 := [some (.scr ns), some (dL L), some (.int (L.many : Nat)), some (dL L), some (.int c), some (LI (stF c L.many)), some (LI (stF c L.many)), none, none, none, none, none, none]) ?_ ?_
        · refine e_set (d := LI (stF c L.many)) ?_
          (repeat' (first | (with_reducible first | exact DN.e_c | exact DN.e_nil | apply DN.e_set | apply DN.e_ret | apply DN.e_bin | apply DN.e_un | apply DN.e_fn | apply DN.e_cons | apply DN.e_b | apply DN.e_notT | apply DN.e_not | apply DN.e_and | apply DN.e_or | apply DN.e_andT | apply DN.e_orT | apply DN.e_chain | apply DN.e_asg | exact DN.o_add | exact DN.o_sub | exact DN.o_eqI | exact DN.o_neI | exact DN.o_I | exact DN.o_neg | exact DN.o_lst | exact DN.o_tup | exact DN.o_isN | exact DN.o_notN | exact DN.o_ty | exact DN.o_inst) | ((with_reducible apply DN.e_var); exact rfl) | exact DN.o_mulL (by decide) | exact DN.o_mulR (by decide) | exact DN.o_div (by decide) (by decide) | exact DN.o_mod (by decide) | exact DN.o_lenL | exact DN.o_lenT | exact DN.o_lenS | exact (show gList [LI (stF c L.many)] = some (LI (stF c L.many)) from rfl)))
        · refine e_if (k := false) ?_ e_nx
          refine e_orT (k := !true) (l := false) ?_ (fun _ => ?_)
          · apply e_notT
            apply e_b
            (repeat' (first | (with_reducible first | exact DN.e_c | exact DN.e_nil | apply DN.e_set | apply DN.e_ret | apply DN.e_bin | apply DN.e_un | apply DN.e_fn | apply DN.e_cons | apply DN.e_b | apply DN.e_notT | apply DN.e_not | apply DN.e_and | apply DN.e_or | apply DN.e_andT | apply DN.e_orT | apply DN.e_chain | apply DN.e_asg | exact DN.o_add | exact DN.o_sub | exact DN.o_eqI | exact DN.o_neI | exact DN.o_I | exact DN.o_neg | exact DN.o_lst | exact DN.o_tup | exact DN.o_isN | exact DN.o_notN | exact DN.o_ty | exact DN.o_inst) | ((with_reducible apply DN.e_var); exact rfl) | exact DN.o_mulL (by decide) | exact DN.o_mulR (by decide) | exact DN.o_div (by decide) (by decide) | exact DN.o_mod (by decide) | exact DN.o_lenL | exact DN.o_lenT | exact DN.o_lenS | exact fright _ (stF_len c L.many)))
          · refine e_orT (k := false) (l := false) ?_ (fun _ => ?_)
            · (repeat' (first | (with_reducible first | exact DN.e_c | exact DN.e_nil | apply DN.e_set | apply DN.e_ret | apply DN.e_bin | apply DN.e_un | apply DN.e_fn | apply DN.e_cons | apply DN.e_b | apply DN.e_notT | apply DN.e_not | apply DN.e_and | apply DN.e_or | apply DN.e_andT | apply DN.e_orT | apply DN.e_chain | apply DN.e_asg | exact DN.o_add | exact DN.o_sub | exact DN.o_eqI | exact DN.o_neI | exact DN.o_I | exact DN.o_neg | exact DN.o_lst | exact DN.o_tup | exact DN.o_isN | exact DN.o_notN | exact DN.o_ty | exact DN.o_inst) | ((with_reducible apply DN.e_var); exact rfl) | exact DN.o_mulL (by decide) | exact DN.o_mulR (by decide) | exact DN.o_div (by decide) (by decide) | exact DN.o_mod (by decide) | exact DN.o_lenL | exact DN.o_lenT | exact DN.o_lenS | exact (show gEqv true (LI (stF c L.many)) (LI (stF c L.many)) = some (.bl false) from o_self (n := 1) eq_LI (by decide) true)))
            · (repeat' (first | (with_reducible first | exact DN.e_c | exact DN.e_nil | apply DN.e_set | apply DN.e_ret | apply DN.e_bin | apply DN.e_un | apply DN.e_fn | apply DN.e_cons | apply DN.e_b | apply DN.e_notT | apply DN.e_not | apply DN.e_and | apply DN.e_or | apply DN.e_andT | apply DN.e_orT | apply DN.e_chain | apply DN.e_asg | exact DN.o_add | exact DN.o_sub | exact DN.o_eqI | exact DN.o_neI | exact DN.o_I | exact DN.o_neg | exact DN.o_lst | exact DN.o_tup | exact DN.o_isN | exact DN.o_notN | exact DN.o_ty | exact DN.o_inst) | ((with_reducible apply DN.e_var); exact rfl) | exact DN.o_mulL (by decide) | exact DN.o_mulR (by decide) | exact DN.o_div (by decide) (by decide) | exact DN.o_mod (by decide) | exact DN.o_lenL | exact DN.o_lenT | exact DN.o_lenS | exact hself)))
  subst hρ
  apply e_seq
  · refine e_for ?_ h1
    rfl
  generalize hc : cell ns 0 = c
  have hcell : fC [.scr ns, .int 0] = some (.int c) := by rw [← hc]; exact fcell 0
  -- cell, size
  apply e_seq
  · (repeat' (first | (with_reducible first | exact DN.e_c | exact DN.e_nil | apply DN.e_set | apply DN.e_ret | apply DN.e_bin | apply DN.e_un | apply DN.e_fn | apply DN.e_cons | apply DN.e_b | apply DN.e_notT | apply DN.e_not | apply DN.e_and | apply DN.e_or | apply DN.e_andT | apply DN.e_orT | apply DN.e_chain | apply DN.e_asg | exact DN.o_add | exact DN.o_sub | exact DN.o_eqI | exact DN.o_neI | exact DN.o_I | exact DN.o_neg | exact DN.o_lst | exact DN.o_tup | exact DN.o_isN | exact DN.o_notN | exact DN.o_ty | exact DN.o_inst) | ((with_reducible apply DN.e_var); exact rfl) | exact DN.o_mulL (by decide) | exact DN.o_mulR (by decide) | exact DN.o_div (by decide) (by decide) | exact DN.o_mod (by decide) | exact DN.o_lenL | exact DN.o_lenT | exact DN.o_lenS | exact hcell))
  apply e_seq
  · refine e_set (d := .int (L.ways.length : Nat)) ?_
    (repeat' (first | (with_reducible first | exact DN.e_c | exact DN.e_nil | apply DN.e_set | apply DN.e_ret | apply DN.e_bin | apply DN.e_un | apply DN.e_fn | apply DN.e_cons | apply DN.e_b | apply DN.e_notT | apply DN.e_not | apply DN.e_and | apply DN.e_or | apply DN.e_andT | apply DN.e_orT | apply DN.e_chain | apply DN.e_asg | exact DN.o_add | exact DN.o_sub | exact DN.o_eqI | exact DN.o_neI | exact DN.o_I | exact DN.o_neg | exact DN.o_lst | exact DN.o_tup | exact DN.o_isN | exact DN.o_notN | exact DN.o_ty | exact DN.o_inst) | ((with_reducible apply DN.e_var); exact rfl) | exact DN.o_mulL (by decide) | exact DN.o_mulR (by decide) | exact DN.o_div (by decide) (by decide) | exact DN.o_mod (by decide) | exact DN.o_lenL | exact DN.o_lenT | exact DN.o_lenS | exact (show gIx (dL L) (.int 1) = some (.lst (L.ways.map dW)) from o_ixT (k := 1) rfl) | exact (show gLen [.lst (L.ways.map dW)] = some (.int (L.ways.length : Nat)) from by rw [o_lenL, List.length_map])))
  -- number
  obtain ⟨kn, num, _, _, hn1, hn2⟩ := at_mod (a := c) (n := 8) (xs := [D.int (L.ways.length : Nat), .int (-1), .int ((L.ways.length : Nat) + c / 8 % 1000000000), .bl true, .non, .str "0", .lst [.int 0], .int (-1 - c / 8 % 1000000000)]) rfl (by decide)
  have hnum : within 0 ((L.ways.length : Nat) - 1) num = false := by
    have hm := mem_at hn1
    have neg : ∀ i : Int, (i < 0 ∨ (L.ways.length : Int) - 1 < i) → within 0 ((L.ways.length : Nat) - 1) (.int i) = false := fun i hi => by
      show (decide (0 ≤ i) && decide (i ≤ (L.ways.length : Int) - 1)) = false
      rcases hi with hi | hi
      · rw [decide_eq_false (by omega), Bool.false_and]
      · rw [decide_eq_false (p := i ≤ _) (by omega), Bool.and_false]
    simp only [List.mem_cons, List.not_mem_nil, or_false] at hm
    rcases hm with rfl | rfl | rfl | rfl | rfl | rfl | rfl | rfl
    · exact neg _ (by omega)
    · exact neg _ (by omega)
    · exact neg _ (by omega)
    · rfl
    · rfl
    · rfl
    · rfl
    · exact neg _ (by omega)
  apply e_seq
  · apply e_set
    apply e_bin
    · (repeat' (first | (with_reducible first | exact DN.e_c | exact DN.e_nil | apply DN.e_set | apply DN.e_ret | apply DN.e_bin | apply DN.e_un | apply DN.e_fn | apply DN.e_cons | apply DN.e_b | apply DN.e_notT | apply DN.e_not | apply DN.e_and | apply DN.e_or | apply DN.e_andT | apply DN.e_orT | apply DN.e_chain | apply DN.e_asg | exact DN.o_add | exact DN.o_sub | exact DN.o_eqI | exact DN.o_neI | exact DN.o_I | exact DN.o_neg | exact DN.o_lst | exact DN.o_tup | exact DN.o_isN | exact DN.o_notN | exact DN.o_ty | exact DN.o_inst) | ((with_reducible apply DN.e_var); exact rfl) | exact DN.o_mulL (by decide) | exact DN.o_mulR (by decide) | exact DN.o_div (by decide) (by decide) | exact DN.o_mod (by decide) | exact DN.o_lenL | exact DN.o_lenT | exact DN.o_lenS | exact pow9))
    · (repeat' (first | (with_reducible first | exact DN.e_c | exact DN.e_nil | apply DN.e_set | apply DN.e_ret | apply DN.e_bin | apply DN.e_un | apply DN.e_fn | apply DN.e_cons | apply DN.e_b | apply DN.e_notT | apply DN.e_not | apply DN.e_and | apply DN.e_or | apply DN.e_andT | apply DN.e_orT | apply DN.e_chain | apply DN.e_asg | exact DN.o_add | exact DN.o_sub | exact DN.o_eqI | exact DN.o_neI | exact DN.o_I | exact DN.o_neg | exact DN.o_lst | exact DN.o_tup | exact DN.o_isN | exact DN.o_notN | exact DN.o_ty | exact DN.o_inst) | ((with_reducible apply DN.e_var); exact rfl) | exact DN.o_mulL (by decide) | exact DN.o_mulR (by decide) | exact DN.o_div (by decide) (by decide) | exact DN.o_mod (by decide) | exact DN.o_lenL | exact DN.o_lenT | exact DN.o_lenS))
    · exact hn2
  -- good
  apply e_seq
  · refine e_set (d := LI (List.replicate L.many 0)) ?_
    (repeat' (first | (with_reducible first | exact DN.e_c | exact DN.e_nil | apply DN.e_set | apply DN.e_ret | apply DN.e_bin | apply DN.e_un | apply DN.e_fn | apply DN.e_cons | apply DN.e_b | apply DN.e_notT | apply DN.e_not | apply DN.e_and | apply DN.e_or | apply DN.e_andT | apply DN.e_orT | apply DN.e_chain | apply DN.e_asg | exact DN.o_add | exact DN.o_sub | exact DN.o_eqI | exact DN.o_neI | exact DN.o_I | exact DN.o_neg | exact DN.o_lst | exact DN.o_tup | exact DN.o_isN | exact DN.o_notN | exact DN.o_ty | exact DN.o_inst) | ((with_reducible apply DN.e_var); exact rfl) | exact DN.o_mulL (by decide) | exact DN.o_mulR (by decide) | exact DN.o_div (by decide) (by decide) | exact DN.o_mod (by decide) | exact DN.o_lenL | exact DN.o_lenT | exact DN.o_lenS | exact o_zeros (n := L.many) (by omega)))
  -- at
  apply e_seq
  · refine e_set (d := .int (c / 64 % (L.many : Nat))) ?_
    apply e_bin
    · (repeat' (first | (with_reducible first | exact DN.e_c | exact DN.e_nil | apply DN.e_set | apply DN.e_ret | apply DN.e_bin | apply DN.e_un | apply DN.e_fn | apply DN.e_cons | apply DN.e_b | apply DN.e_notT | apply DN.e_not | apply DN.e_and | apply DN.e_or | apply DN.e_andT | apply DN.e_orT | apply DN.e_chain | apply DN.e_asg | exact DN.o_add | exact DN.o_sub | exact DN.o_eqI | exact DN.o_neI | exact DN.o_I | exact DN.o_neg | exact DN.o_lst | exact DN.o_tup | exact DN.o_isN | exact DN.o_notN | exact DN.o_ty | exact DN.o_inst) | ((with_reducible apply DN.e_var); exact rfl) | exact DN.o_mulL (by decide) | exact DN.o_mulR (by decide) | exact DN.o_div (by decide) (by decide) | exact DN.o_mod (by decide) | exact DN.o_lenL | exact DN.o_lenT | exact DN.o_lenS))
    · (repeat' (first | (with_reducible first | exact DN.e_c | exact DN.e_nil | apply DN.e_set | apply DN.e_ret | apply DN.e_bin | apply DN.e_un | apply DN.e_fn | apply DN.e_cons | apply DN.e_b | apply DN.e_notT | apply DN.e_not | apply DN.e_and | apply DN.e_or | apply DN.e_andT | apply DN.e_orT | apply DN.e_chain | apply DN.e_asg | exact DN.o_add | exact DN.o_sub | exact DN.o_eqI | exact DN.o_neI | exact DN.o_I | exact DN.o_neg | exact DN.o_lst | exact DN.o_tup | exact DN.o_isN | exact DN.o_notN | exact DN.o_ty | exact DN.o_inst) | ((with_reducible apply DN.e_var); exact rfl) | exact DN.o_mulL (by decide) | exact DN.o_mulR (by decide) | exact DN.o_div (by decide) (by decide) | exact DN.o_mod (by decide) | exact DN.o_lenL | exact DN.o_lenT | exact DN.o_lenS))
    · exact o_mod (by omega)
  -- odd
  obtain ⟨ko, odd, _, _, ho1, ho2⟩ := at_mod (a := c / 256) (n := 6) (xs := [D.non, .bl true, .str "0", .lst [.int 0], .tup [.int 0], .bl false]) rfl (by decide)
  have hodd : isI odd = false := by
    have hm := mem_at ho1
    simp only [List.mem_cons, List.not_mem_nil, or_false] at hm
    rcases hm with rfl | rfl | rfl | rfl | rfl | rfl <;> rfl
  apply e_seq
  · apply e_set
    apply e_bin
    · (repeat' (first | (with_reducible first | exact DN.e_c | exact DN.e_nil | apply DN.e_set | apply DN.e_ret | apply DN.e_bin | apply DN.e_un | apply DN.e_fn | apply DN.e_cons | apply DN.e_b | apply DN.e_notT | apply DN.e_not | apply DN.e_and | apply DN.e_or | apply DN.e_andT | apply DN.e_orT | apply DN.e_chain | apply DN.e_asg | exact DN.o_add | exact DN.o_sub | exact DN.o_eqI | exact DN.o_neI | exact DN.o_I | exact DN.o_neg | exact DN.o_lst | exact DN.o_tup | exact DN.o_isN | exact DN.o_notN | exact DN.o_ty | exact DN.o_inst) | ((with_reducible apply DN.e_var); exact rfl) | exact DN.o_mulL (by decide) | exact DN.o_mulR (by decide) | exact DN.o_div (by decide) (by decide) | exact DN.o_mod (by decide) | exact DN.o_lenL | exact DN.o_lenT | exact DN.o_lenS))
    · (repeat' (first | (with_reducible first | exact DN.e_c | exact DN.e_nil | apply DN.e_set | apply DN.e_ret | apply DN.e_bin | apply DN.e_un | apply DN.e_fn | apply DN.e_cons | apply DN.e_b | apply DN.e_notT | apply DN.e_not | apply DN.e_and | apply DN.e_or | apply DN.e_andT | apply DN.e_orT | apply DN.e_chain | apply DN.e_asg | exact DN.o_add | exact DN.o_sub | exact DN.o_eqI | exact DN.o_neI | exact DN.o_I | exact DN.o_neg | exact DN.o_lst | exact DN.o_tup | exact DN.o_isN | exact DN.o_notN | exact DN.o_ty | exact DN.o_inst) | ((with_reducible apply DN.e_var); exact rfl) | exact DN.o_mulL (by decide) | exact DN.o_mulR (by decide) | exact DN.o_div (by decide) (by decide) | exact DN.o_mod (by decide) | exact DN.o_lenL | exact DN.o_lenT | exact DN.o_lenS))
    · exact ho2
  -- some
  generalize hA : c / 64 % (L.many : Nat) = A
  have hz : (List.replicate L.many (0 : Int)).length = L.many := List.length_replicate
  obtain ⟨ks, st, _, _, hs1, hs2⟩ := at_mod (a := cell ns 1) (n := 8) (xs := [LI (List.replicate L.many 0 ++ [0]), .lst (DN.cutD ((List.replicate L.many (0 : Int)).map D.int) (some 1) none), .tup ((List.replicate L.many (0 : Int)).map D.int), .non, .int 0, .str "0", .dct,
    .lst ((DN.cutD ((List.replicate L.many (0 : Int)).map D.int) none (some A) ++ [odd]) ++ DN.cutD ((List.replicate L.many (0 : Int)).map D.int) (some (A + 1)) none)]) rfl (by decide)
  have hst : isSt L.many st = false ∧ ∀ ms, st ≠ .scr ms := by
    have hm := mem_at hs1
    simp only [List.mem_cons, List.not_mem_nil, or_false] at hm
    rcases hm with rfl | rfl | rfl | rfl | rfl | rfl | rfl | rfl
    · refine ⟨?_, fun ms z => by cases z⟩
      show (decide (((List.replicate L.many 0 ++ [0] : List Int).map D.int).length = L.many) && _) = false
      rw [decide_eq_false (by rw [List.length_map, List.length_append, hz, List.length_singleton]; omega), Bool.false_and]
    · refine ⟨?_, fun ms z => by cases z⟩
      have hl : (DN.cutD ((List.replicate L.many (0 : Int)).map D.int) (some 1) none).length = L.many - 1 := by
        unfold DN.cutD
        rw [List.length_take, List.length_drop, List.length_map, hz, HT.sIx_none, show HT.sIx L.many 0 (some 1) = min 1 L.many from HT.sIx_nat L.many 0 1]
        omega
      show (decide ((DN.cutD ((List.replicate L.many (0 : Int)).map D.int) (some 1) none).length = L.many) && _) = false
      rw [hl, decide_eq_false (by omega), Bool.false_and]
    · exact ⟨rfl, fun ms z => by cases z⟩
    · exact ⟨rfl, fun ms z => by cases z⟩
    · exact ⟨rfl, fun ms z => by cases z⟩
    · exact ⟨rfl, fun ms z => by cases z⟩
    · exact ⟨rfl, fun ms z => by cases z⟩
    · refine ⟨?_, fun ms z => by cases z⟩
      have he : ((DN.cutD ((List.replicate L.many (0 : Int)).map D.int) none (some A) ++ [odd]) ++ DN.cutD ((List.replicate L.many (0 : Int)).map D.int) (some (A + 1)) none).all isI = false := by
        rw [List.all_append, List.all_append, List.all_cons, hodd]
        simp
      show (_ && ((DN.cutD ((List.replicate L.many (0 : Int)).map D.int) none (some A) ++ [odd]) ++ DN.cutD ((List.replicate L.many (0 : Int)).map D.int) (some (A + 1)) none).all isI) = false
      rw [he, Bool.and_false]
  have c1 := cut_le ((List.replicate L.many (0 : Int)).map D.int) none (some A)
  have c2 := cut_le ((List.replicate L.many (0 : Int)).map D.int) (some (A + 1)) none
  rw [List.length_map, hz] at c1 c2
  have sl : ∀ {lo hi : Option Int}, gSl (LI (List.replicate L.many 0)) lo hi = some (.lst (DN.cutD ((List.replicate L.many (0 : Int)).map D.int) lo hi)) := rfl
  have hsome := hs2
  apply e_seq
  · refine e_set (d := .lst [LI (List.replicate L.many 0 ++ [0]), .lst (DN.cutD ((List.replicate L.many (0 : Int)).map D.int) (some 1) none), .tup ((List.replicate L.many (0 : Int)).map D.int), .non, .int 0, .str "0", .dct,
      .lst ((DN.cutD ((List.replicate L.many (0 : Int)).map D.int) none (some A) ++ [odd]) ++ DN.cutD ((List.replicate L.many (0 : Int)).map D.int) (some (A + 1)) none)]) ?_
    apply e_fn
    · apply e_cons
      · apply e_bin
        · (repeat' (first | (with_reducible first | exact DN.e_c | exact DN.e_nil | apply DN.e_set | apply DN.e_ret | apply DN.e_bin | apply DN.e_un | apply DN.e_fn | apply DN.e_cons | apply DN.e_b | apply DN.e_notT | apply DN.e_not | apply DN.e_and | apply DN.e_or | apply DN.e_andT | apply DN.e_orT | apply DN.e_chain | apply DN.e_asg | exact DN.o_add | exact DN.o_sub | exact DN.o_eqI | exact DN.o_neI | exact DN.o_I | exact DN.o_neg | exact DN.o_lst | exact DN.o_tup | exact DN.o_isN | exact DN.o_notN | exact DN.o_ty | exact DN.o_inst) | ((with_reducible apply DN.e_var); exact rfl) | exact DN.o_mulL (by decide) | exact DN.o_mulR (by decide) | exact DN.o_div (by decide) (by decide) | exact DN.o_mod (by decide) | exact DN.o_lenL | exact DN.o_lenT | exact DN.o_lenS))
        · (repeat' (first | (with_reducible first | exact DN.e_c | exact DN.e_nil | apply DN.e_set | apply DN.e_ret | apply DN.e_bin | apply DN.e_un | apply DN.e_fn | apply DN.e_cons | apply DN.e_b | apply DN.e_notT | apply DN.e_not | apply DN.e_and | apply DN.e_or | apply DN.e_andT | apply DN.e_orT | apply DN.e_chain | apply DN.e_asg | exact DN.o_add | exact DN.o_sub | exact DN.o_eqI | exact DN.o_neI | exact DN.o_I | exact DN.o_neg | exact DN.o_lst | exact DN.o_tup | exact DN.o_isN | exact DN.o_notN | exact DN.o_ty | exact DN.o_inst) | ((with_reducible apply DN.e_var); exact rfl) | exact DN.o_mulL (by decide) | exact DN.o_mulR (by decide) | exact DN.o_div (by decide) (by decide) | exact DN.o_mod (by decide) | exact DN.o_lenL | exact DN.o_lenT | exact DN.o_lenS))
        · exact o_catI (b := [0]) (by rw [hz, List.length_singleton]; omega)
      apply e_cons
      · exact e_sl (e_var rfl) (e_part e_c) rfl sl
      apply e_cons
      · (repeat' (first | (with_reducible first | exact DN.e_c | exact DN.e_nil | apply DN.e_set | apply DN.e_ret | apply DN.e_bin | apply DN.e_un | apply DN.e_fn | apply DN.e_cons | apply DN.e_b | apply DN.e_notT | apply DN.e_not | apply DN.e_and | apply DN.e_or | apply DN.e_andT | apply DN.e_orT | apply DN.e_chain | apply DN.e_asg | exact DN.o_add | exact DN.o_sub | exact DN.o_eqI | exact DN.o_neI | exact DN.o_I | exact DN.o_neg | exact DN.o_lst | exact DN.o_tup | exact DN.o_isN | exact DN.o_notN | exact DN.o_ty | exact DN.o_inst) | ((with_reducible apply DN.e_var); exact rfl) | exact DN.o_mulL (by decide) | exact DN.o_mulR (by decide) | exact DN.o_div (by decide) (by decide) | exact DN.o_mod (by decide) | exact DN.o_lenL | exact DN.o_lenT | exact DN.o_lenS | exact (show gTuple [LI (List.replicate L.many 0)] = some (.tup ((List.replicate L.many (0 : Int)).map D.int)) from rfl)))
      apply e_cons
      · (repeat' (first | (with_reducible first | exact DN.e_c | exact DN.e_nil | apply DN.e_set | apply DN.e_ret | apply DN.e_bin | apply DN.e_un | apply DN.e_fn | apply DN.e_cons | apply DN.e_b | apply DN.e_notT | apply DN.e_not | apply DN.e_and | apply DN.e_or | apply DN.e_andT | apply DN.e_orT | apply DN.e_chain | apply DN.e_asg | exact DN.o_add | exact DN.o_sub | exact DN.o_eqI | exact DN.o_neI | exact DN.o_I | exact DN.o_neg | exact DN.o_lst | exact DN.o_tup | exact DN.o_isN | exact DN.o_notN | exact DN.o_ty | exact DN.o_inst) | ((with_reducible apply DN.e_var); exact rfl) | exact DN.o_mulL (by decide) | exact DN.o_mulR (by decide) | exact DN.o_div (by decide) (by decide) | exact DN.o_mod (by decide) | exact DN.o_lenL | exact DN.o_lenT | exact DN.o_lenS))
      apply e_cons
      · (repeat' (first | (with_reducible first | exact DN.e_c | exact DN.e_nil | apply DN.e_set | apply DN.e_ret | apply DN.e_bin | apply DN.e_un | apply DN.e_fn | apply DN.e_cons | apply DN.e_b | apply DN.e_notT | apply DN.e_not | apply DN.e_and | apply DN.e_or | apply DN.e_andT | apply DN.e_orT | apply DN.e_chain | apply DN.e_asg | exact DN.o_add | exact DN.o_sub | exact DN.o_eqI | exact DN.o_neI | exact DN.o_I | exact DN.o_neg | exact DN.o_lst | exact DN.o_tup | exact DN.o_isN | exact DN.o_notN | exact DN.o_ty | exact DN.o_inst) | ((with_reducible apply DN.e_var); exact rfl) | exact DN.o_mulL (by decide) | exact DN.o_mulR (by decide) | exact DN.o_div (by decide) (by decide) | exact DN.o_mod (by decide) | exact DN.o_lenL | exact DN.o_lenT | exact DN.o_lenS))
      apply e_cons
      · (repeat' (first | (with_reducible first | exact DN.e_c | exact DN.e_nil | apply DN.e_set | apply DN.e_ret | apply DN.e_bin | apply DN.e_un | apply DN.e_fn | apply DN.e_cons | apply DN.e_b | apply DN.e_notT | apply DN.e_not | apply DN.e_and | apply DN.e_or | apply DN.e_andT | apply DN.e_orT | apply DN.e_chain | apply DN.e_asg | exact DN.o_add | exact DN.o_sub | exact DN.o_eqI | exact DN.o_neI | exact DN.o_I | exact DN.o_neg | exact DN.o_lst | exact DN.o_tup | exact DN.o_isN | exact DN.o_notN | exact DN.o_ty | exact DN.o_inst) | ((with_reducible apply DN.e_var); exact rfl) | exact DN.o_mulL (by decide) | exact DN.o_mulR (by decide) | exact DN.o_div (by decide) (by decide) | exact DN.o_mod (by decide) | exact DN.o_lenL | exact DN.o_lenT | exact DN.o_lenS))
      apply e_cons
      · (repeat' (first | (with_reducible first | exact DN.e_c | exact DN.e_nil | apply DN.e_set | apply DN.e_ret | apply DN.e_bin | apply DN.e_un | apply DN.e_fn | apply DN.e_cons | apply DN.e_b | apply DN.e_notT | apply DN.e_not | apply DN.e_and | apply DN.e_or | apply DN.e_andT | apply DN.e_orT | apply DN.e_chain | apply DN.e_asg | exact DN.o_add | exact DN.o_sub | exact DN.o_eqI | exact DN.o_neI | exact DN.o_I | exact DN.o_neg | exact DN.o_lst | exact DN.o_tup | exact DN.o_isN | exact DN.o_notN | exact DN.o_ty | exact DN.o_inst) | ((with_reducible apply DN.e_var); exact rfl) | exact DN.o_mulL (by decide) | exact DN.o_mulR (by decide) | exact DN.o_div (by decide) (by decide) | exact DN.o_mod (by decide) | exact DN.o_lenL | exact DN.o_lenT | exact DN.o_lenS))
      apply e_cons
      · apply e_bin
        · apply e_bin
          · exact e_sl (e_var rfl) rfl (e_part (e_var rfl)) sl
          · (repeat' (first | (with_reducible first | exact DN.e_c | exact DN.e_nil | apply DN.e_set | apply DN.e_ret | apply DN.e_bin | apply DN.e_un | apply DN.e_fn | apply DN.e_cons | apply DN.e_b | apply DN.e_notT | apply DN.e_not | apply DN.e_and | apply DN.e_or | apply DN.e_andT | apply DN.e_orT | apply DN.e_chain | apply DN.e_asg | exact DN.o_add | exact DN.o_sub | exact DN.o_eqI | exact DN.o_neI | exact DN.o_I | exact DN.o_neg | exact DN.o_lst | exact DN.o_tup | exact DN.o_isN | exact DN.o_notN | exact DN.o_ty | exact DN.o_inst) | ((with_reducible apply DN.e_var); exact rfl) | exact DN.o_mulL (by decide) | exact DN.o_mulR (by decide) | exact DN.o_div (by decide) (by decide) | exact DN.o_mod (by decide) | exact DN.o_lenL | exact DN.o_lenT | exact DN.o_lenS))
          · exact o_cat (by rw [List.length_singleton]; omega)
        · exact e_sl (e_var rfl) (e_part (e_bin (e_var rfl) e_c o_add)) rfl sl
        · exact o_cat (by rw [List.length_append, List.length_singleton]; omega)
      · exact e_nil
    · rfl
  -- the bad state
  apply e_seq
  · refine e_set (d := st) ?_
    apply e_bin
    · exact e_var rfl
    · (repeat' (first | (with_reducible first | exact DN.e_c | exact DN.e_nil | apply DN.e_set | apply DN.e_ret | apply DN.e_bin | apply DN.e_un | apply DN.e_fn | apply DN.e_cons | apply DN.e_b | apply DN.e_notT | apply DN.e_not | apply DN.e_and | apply DN.e_or | apply DN.e_andT | apply DN.e_orT | apply DN.e_chain | apply DN.e_asg | exact DN.o_add | exact DN.o_sub | exact DN.o_eqI | exact DN.o_neI | exact DN.o_I | exact DN.o_neg | exact DN.o_lst | exact DN.o_tup | exact DN.o_isN | exact DN.o_notN | exact DN.o_ty | exact DN.o_inst) | ((with_reducible apply DN.e_var); exact rfl) | exact DN.o_mulL (by decide) | exact DN.o_mulR (by decide) | exact DN.o_div (by decide) (by decide) | exact DN.o_mod (by decide) | exact DN.o_lenL | exact DN.o_lenT | exact DN.o_lenS | exact (show fC [.scr ns, .int 1] = some (.int (cell ns 1)) from fcell 1)))
    · exact hs2
  have ne_c : gEqv true (.str "count ") (.str "count ") = some (.bl false) := o_self (n := 0) eq_strs.1 (by decide) true
  have eq_s : gEqv false (.str "state ") (.str "state ") = some (.bl true) := o_self (n := 0) eq_strs.2 (by decide) false
  apply e_seq
  · refine e_if (k := false) ?_ e_nx
    refine e_orT (k := false) (l := false) ?_ (fun _ => ?_)
    · apply e_b
      apply e_bin
      · (repeat' (first | (with_reducible first | exact DN.e_c | exact DN.e_nil | apply DN.e_set | apply DN.e_ret | apply DN.e_bin | apply DN.e_un | apply DN.e_fn | apply DN.e_cons | apply DN.e_b | apply DN.e_notT | apply DN.e_not | apply DN.e_and | apply DN.e_or | apply DN.e_andT | apply DN.e_orT | apply DN.e_chain | apply DN.e_asg | exact DN.o_add | exact DN.o_sub | exact DN.o_eqI | exact DN.o_neI | exact DN.o_I | exact DN.o_neg | exact DN.o_lst | exact DN.o_tup | exact DN.o_isN | exact DN.o_notN | exact DN.o_ty | exact DN.o_inst) | ((with_reducible apply DN.e_var); exact rfl) | exact DN.o_mulL (by decide) | exact DN.o_mulR (by decide) | exact DN.o_div (by decide) (by decide) | exact DN.o_mod (by decide) | exact DN.o_lenL | exact DN.o_lenT | exact DN.o_lenS | exact (show fW [dL L, num, LI (List.replicate L.many 0)] = some (.str "count ") from fcount _ _ hnum)))
      · (repeat' (first | (with_reducible first | exact DN.e_c | exact DN.e_nil | apply DN.e_set | apply DN.e_ret | apply DN.e_bin | apply DN.e_un | apply DN.e_fn | apply DN.e_cons | apply DN.e_b | apply DN.e_notT | apply DN.e_not | apply DN.e_and | apply DN.e_or | apply DN.e_andT | apply DN.e_orT | apply DN.e_chain | apply DN.e_asg | exact DN.o_add | exact DN.o_sub | exact DN.o_eqI | exact DN.o_neI | exact DN.o_I | exact DN.o_neg | exact DN.o_lst | exact DN.o_tup | exact DN.o_isN | exact DN.o_notN | exact DN.o_ty | exact DN.o_inst) | ((with_reducible apply DN.e_var); exact rfl) | exact DN.o_mulL (by decide) | exact DN.o_mulR (by decide) | exact DN.o_div (by decide) (by decide) | exact DN.o_mod (by decide) | exact DN.o_lenL | exact DN.o_lenT | exact DN.o_lenS))
      · exact ne_c
    · apply e_b
      apply e_bin
      · (repeat' (first | (with_reducible first | exact DN.e_c | exact DN.e_nil | apply DN.e_set | apply DN.e_ret | apply DN.e_bin | apply DN.e_un | apply DN.e_fn | apply DN.e_cons | apply DN.e_b | apply DN.e_notT | apply DN.e_not | apply DN.e_and | apply DN.e_or | apply DN.e_andT | apply DN.e_orT | apply DN.e_chain | apply DN.e_asg | exact DN.o_add | exact DN.o_sub | exact DN.o_eqI | exact DN.o_neI | exact DN.o_I | exact DN.o_neg | exact DN.o_lst | exact DN.o_tup | exact DN.o_isN | exact DN.o_notN | exact DN.o_ty | exact DN.o_inst) | ((with_reducible apply DN.e_var); exact rfl) | exact DN.o_mulL (by decide) | exact DN.o_mulR (by decide) | exact DN.o_div (by decide) (by decide) | exact DN.o_mod (by decide) | exact DN.o_lenL | exact DN.o_lenT | exact DN.o_lenS | exact (show fW [dL L, num, st] = some (.str "count ") from fcount _ _ hnum)))
      · (repeat' (first | (with_reducible first | exact DN.e_c | exact DN.e_nil | apply DN.e_set | apply DN.e_ret | apply DN.e_bin | apply DN.e_un | apply DN.e_fn | apply DN.e_cons | apply DN.e_b | apply DN.e_notT | apply DN.e_not | apply DN.e_and | apply DN.e_or | apply DN.e_andT | apply DN.e_orT | apply DN.e_chain | apply DN.e_asg | exact DN.o_add | exact DN.o_sub | exact DN.o_eqI | exact DN.o_neI | exact DN.o_I | exact DN.o_neg | exact DN.o_lst | exact DN.o_tup | exact DN.o_isN | exact DN.o_notN | exact DN.o_ty | exact DN.o_inst) | ((with_reducible apply DN.e_var); exact rfl) | exact DN.o_mulL (by decide) | exact DN.o_mulR (by decide) | exact DN.o_div (by decide) (by decide) | exact DN.o_mod (by decide) | exact DN.o_lenL | exact DN.o_lenT | exact DN.o_lenS))
      · exact ne_c
  · apply e_ret
    refine e_and (k := true) (l := true) ?_ (fun _ => ?_)
    · have hcast : ((L.ways.length : Nat) : Int) - 1 = ((L.ways.length - 1 : Nat) : Int) := by omega
      apply e_bin
      · apply e_fn
        · (repeat' (first | (with_reducible first | exact DN.e_c | exact DN.e_nil | apply DN.e_set | apply DN.e_ret | apply DN.e_bin | apply DN.e_un | apply DN.e_fn | apply DN.e_cons | apply DN.e_b | apply DN.e_notT | apply DN.e_not | apply DN.e_and | apply DN.e_or | apply DN.e_andT | apply DN.e_orT | apply DN.e_chain | apply DN.e_asg | exact DN.o_add | exact DN.o_sub | exact DN.o_eqI | exact DN.o_neI | exact DN.o_I | exact DN.o_neg | exact DN.o_lst | exact DN.o_tup | exact DN.o_isN | exact DN.o_notN | exact DN.o_ty | exact DN.o_inst) | ((with_reducible apply DN.e_var); exact rfl) | exact DN.o_mulL (by decide) | exact DN.o_mulR (by decide) | exact DN.o_div (by decide) (by decide) | exact DN.o_mod (by decide) | exact DN.o_lenL | exact DN.o_lenT | exact DN.o_lenS))
        · rw [hcast]
          exact fbad _ _ (by omega) hst.2 hst.1
      · (repeat' (first | (with_reducible first | exact DN.e_c | exact DN.e_nil | apply DN.e_set | apply DN.e_ret | apply DN.e_bin | apply DN.e_un | apply DN.e_fn | apply DN.e_cons | apply DN.e_b | apply DN.e_notT | apply DN.e_not | apply DN.e_and | apply DN.e_or | apply DN.e_andT | apply DN.e_orT | apply DN.e_chain | apply DN.e_asg | exact DN.o_add | exact DN.o_sub | exact DN.o_eqI | exact DN.o_neI | exact DN.o_I | exact DN.o_neg | exact DN.o_lst | exact DN.o_tup | exact DN.o_isN | exact DN.o_notN | exact DN.o_ty | exact DN.o_inst) | ((with_reducible apply DN.e_var); exact rfl) | exact DN.o_mulL (by decide) | exact DN.o_mulR (by decide) | exact DN.o_div (by decide) (by decide) | exact DN.o_mod (by decide) | exact DN.o_lenL | exact DN.o_lenT | exact DN.o_lenS))
      · exact eq_s
    · (repeat' (first | (with_reducible first | exact DN.e_c | exact DN.e_nil | apply DN.e_set | apply DN.e_ret | apply DN.e_bin | apply DN.e_un | apply DN.e_fn | apply DN.e_cons | apply DN.e_b | apply DN.e_notT | apply DN.e_not | apply DN.e_and | apply DN.e_or | apply DN.e_andT | apply DN.e_orT | apply DN.e_chain | apply DN.e_asg | exact DN.o_add | exact DN.o_sub | exact DN.o_eqI | exact DN.o_neI | exact DN.o_I | exact DN.o_neg | exact DN.o_lst | exact DN.o_tup | exact DN.o_isN | exact DN.o_notN | exact DN.o_ty | exact DN.o_inst) | ((with_reducible apply DN.e_var); exact rfl) | exact DN.o_mulL (by decide) | exact DN.o_mulR (by decide) | exact DN.o_div (by decide) (by decide) | exact DN.o_mod (by decide) | exact DN.o_lenL | exact DN.o_lenT | exact DN.o_lenS | exact (show gEqv false (dL L) (dL L) = some (.bl true) from o_self (n := 10) eq_dL (by decide) false)))
end K02

set_option Elab.async false
set_option linter.all false
set_option maxRecDepth 100000
set_option maxHeartbeats 8000000
namespace K02
open PySem PySem.Spec PyProof.Rows L2 L2H GxR GX DN
theorem all_mk {l : PySem.W.OpenLaw} {w : World} {K : PySem.W.Frag} {h : Heap} {mg : Str → Option Value} {fa : Addr} {f_is_whole c_is_whole f_is_whole_within c_is_whole_within f_is_list_of c_is_list_of f_are_wholes c_are_wholes f_is_pair c_is_pair f_is_row c_is_row f_are_rows c_are_rows f_is_way c_is_way f_is_loop c_is_loop f_is_state c_is_state f_need_loop c_need_loop f_need_state c_need_state f_need_count c_need_count f_worth c_worth f_may_be_gone c_may_be_gone f_led_to c_led_to f_after c_after f_law_cell_at c_law_cell_at f_law_drawn c_law_drawn f_law_row_by c_law_row_by f_law_way_by c_law_way_by f_law_far c_law_far f_law_loop_by c_law_loop_by f_law_name_of c_law_name_of f_law_copied c_law_copied f_law_worth c_law_worth f_law_led c_law_led f_law_word c_law_word f_law_state c_law_state f_law_right c_law_right f_law c_law p_are_wholes p_is_row p_are_rows p_is_loop p_worth p_may_be_gone x_LoopError x_BadLoop x_BadState x_BadCount x_BadGauge x_BadTable x_BadText : Addr} (X : K.In h) (G : h.Ns mainGlobals mg) (hfa : mg "law" = some (.ref fa)) (em : Empties K mg PySem.Challenge.pw_loopgauge_k02_ways_gone h)
    {od_is_whole an_is_whole od_is_whole_within an_is_whole_within od_is_list_of an_is_list_of od_are_wholes an_are_wholes od_is_pair an_is_pair od_is_row an_is_row od_are_rows an_are_rows od_is_way an_is_way od_is_loop an_is_loop od_is_state an_is_state od_need_loop an_need_loop od_need_state an_need_state od_need_count an_need_count od_worth an_worth od_may_be_gone an_may_be_gone od_led_to an_led_to od_after an_after od_law_cell_at an_law_cell_at od_law_drawn an_law_drawn od_law_row_by an_law_row_by od_law_way_by an_law_way_by od_law_far an_law_far od_law_loop_by an_law_loop_by od_law_name_of an_law_name_of od_law_copied an_law_copied od_law_worth an_law_worth od_law_led an_law_led od_law_word an_law_word od_law_state an_law_state od_law_right an_law_right od_law an_law : Option Addr} {sl_is_whole sl_is_whole_within sl_is_list_of sl_are_wholes sl_is_pair sl_is_row sl_are_rows sl_is_way sl_is_loop sl_is_state sl_need_loop sl_need_state sl_need_count sl_worth sl_may_be_gone sl_led_to sl_after sl_law_cell_at sl_law_drawn sl_law_row_by sl_law_way_by sl_law_far sl_law_loop_by sl_law_name_of sl_law_copied sl_law_worth sl_law_led sl_law_word sl_law_state sl_law_right sl_law : Array (Option Value)} {oc_is_whole kV_is_whole dc_is_whole pm_is_whole ct_is_whole oc_is_whole_within kV_is_whole_within dc_is_whole_within pm_is_whole_within ct_is_whole_within oc_is_list_of kV_is_list_of dc_is_list_of pm_is_list_of ct_is_list_of oc_are_wholes kV_are_wholes dc_are_wholes pm_are_wholes ct_are_wholes oc_is_pair kV_is_pair dc_is_pair pm_is_pair ct_is_pair oc_is_row kV_is_row dc_is_row pm_is_row ct_is_row oc_are_rows kV_are_rows dc_are_rows pm_are_rows ct_are_rows oc_is_way kV_is_way dc_is_way pm_is_way ct_is_way oc_is_loop kV_is_loop dc_is_loop pm_is_loop ct_is_loop oc_is_state kV_is_state dc_is_state pm_is_state ct_is_state oc_need_loop kV_need_loop dc_need_loop pm_need_loop ct_need_loop oc_need_state kV_need_state dc_need_state pm_need_state ct_need_state oc_need_count kV_need_count dc_need_count pm_need_count ct_need_count oc_worth kV_worth dc_worth pm_worth ct_worth oc_may_be_gone kV_may_be_gone dc_may_be_gone pm_may_be_gone ct_may_be_gone oc_led_to kV_led_to dc_led_to pm_led_to ct_led_to oc_after kV_after dc_after pm_after ct_after oc_law_cell_at kV_law_cell_at dc_law_cell_at pm_law_cell_at ct_law_cell_at oc_law_drawn kV_law_drawn dc_law_drawn pm_law_drawn ct_law_drawn oc_law_row_by kV_law_row_by dc_law_row_by pm_law_row_by ct_law_row_by oc_law_way_by kV_law_way_by dc_law_way_by pm_law_way_by ct_law_way_by oc_law_far kV_law_far dc_law_far pm_law_far ct_law_far oc_law_loop_by kV_law_loop_by dc_law_loop_by pm_law_loop_by ct_law_loop_by oc_law_name_of kV_law_name_of dc_law_name_of pm_law_name_of ct_law_name_of oc_law_copied kV_law_copied dc_law_copied pm_law_copied ct_law_copied oc_law_worth kV_law_worth dc_law_worth pm_law_worth ct_law_worth oc_law_led kV_law_led dc_law_led pm_law_led ct_law_led oc_law_word kV_law_word dc_law_word pm_law_word ct_law_word oc_law_state kV_law_state dc_law_state pm_law_state ct_law_state oc_law_right kV_law_right dc_law_right pm_law_right ct_law_right oc_law kV_law dc_law pm_law ct_law : Value}
    {e_are_wholes e_is_row e_are_rows e_is_loop e_worth e_may_be_gone : Value} {dd_are_wholes dd_is_row dd_are_rows dd_is_loop dd_worth dd_may_be_gone : Option Addr} {vs_are_wholes vs_is_row vs_are_rows vs_is_loop vs_worth vs_may_be_gone : Array Value} {sm_are_wholes sm_is_row sm_are_rows sm_is_loop sm_worth sm_may_be_gone : Array (Option Value)}
    {t_FARTHEST t_MOST_ASKS t_MOST_NAMES t_MOST_WAYS : Tok}
    (a_is_whole : PySem.W.nsIn K mainGlobals "is_whole" = some (some (.ref f_is_whole)))
    (l_is_whole : K.lookup f_is_whole = some ⟨oc_is_whole, od_is_whole, .func (PySem.W.fnOf "is_whole" "is_whole" (defArgs s_is_whole) (defBody s_is_whole) (defScope s_is_whole) .none kV_is_whole dc_is_whole pm_is_whole an_is_whole (.ref c_is_whole) ct_is_whole), sl_is_whole⟩)
    (q_is_whole : PySem.W.codeIn K (.ref c_is_whole) "is_whole" = true)
    (k_is_whole : PySem.W.keepIn K (.ref f_is_whole) = true)
    (a_is_whole_within : PySem.W.nsIn K mainGlobals "is_whole_within" = some (some (.ref f_is_whole_within)))
    (l_is_whole_within : K.lookup f_is_whole_within = some ⟨oc_is_whole_within, od_is_whole_within, .func (PySem.W.fnOf "is_whole_within" "is_whole_within" (defArgs s_is_whole_within) (defBody s_is_whole_within) (defScope s_is_whole_within) .none kV_is_whole_within dc_is_whole_within pm_is_whole_within an_is_whole_within (.ref c_is_whole_within) ct_is_whole_within), sl_is_whole_within⟩)
    (q_is_whole_within : PySem.W.codeIn K (.ref c_is_whole_within) "is_whole_within" = true)
    (k_is_whole_within : PySem.W.keepIn K (.ref f_is_whole_within) = true)
    (a_is_list_of : PySem.W.nsIn K mainGlobals "is_list_of" = some (some (.ref f_is_list_of)))
    (l_is_list_of : K.lookup f_is_list_of = some ⟨oc_is_list_of, od_is_list_of, .func (PySem.W.fnOf "is_list_of" "is_list_of" (defArgs s_is_list_of) (defBody s_is_list_of) (defScope s_is_list_of) .none kV_is_list_of dc_is_list_of pm_is_list_of an_is_list_of (.ref c_is_list_of) ct_is_list_of), sl_is_list_of⟩)
    (q_is_list_of : PySem.W.codeIn K (.ref c_is_list_of) "is_list_of" = true)
    (k_is_list_of : PySem.W.keepIn K (.ref f_is_list_of) = true)
    (a_are_wholes : PySem.W.nsIn K mainGlobals "are_wholes" = some (some (.ref f_are_wholes)))
    (l_are_wholes : K.lookup f_are_wholes = some ⟨oc_are_wholes, od_are_wholes, .func (PySem.W.fnOf "are_wholes" "are_wholes" (defArgs s_are_wholes) (defBody s_are_wholes) (defScope s_are_wholes) .none kV_are_wholes dc_are_wholes pm_are_wholes an_are_wholes (.ref c_are_wholes) ct_are_wholes), sl_are_wholes⟩)
    (q_are_wholes : PySem.W.codeIn K (.ref c_are_wholes) "are_wholes" = true)
    (k_are_wholes : PySem.W.keepIn K (.ref f_are_wholes) = true)
    (a_is_pair : PySem.W.nsIn K mainGlobals "is_pair" = some (some (.ref f_is_pair)))
    (l_is_pair : K.lookup f_is_pair = some ⟨oc_is_pair, od_is_pair, .func (PySem.W.fnOf "is_pair" "is_pair" (defArgs s_is_pair) (defBody s_is_pair) (defScope s_is_pair) .none kV_is_pair dc_is_pair pm_is_pair an_is_pair (.ref c_is_pair) ct_is_pair), sl_is_pair⟩)
    (q_is_pair : PySem.W.codeIn K (.ref c_is_pair) "is_pair" = true)
    (k_is_pair : PySem.W.keepIn K (.ref f_is_pair) = true)
    (a_is_row : PySem.W.nsIn K mainGlobals "is_row" = some (some (.ref f_is_row)))
    (l_is_row : K.lookup f_is_row = some ⟨oc_is_row, od_is_row, .func (PySem.W.fnOf "is_row" "is_row" (defArgs s_is_row) (defBody s_is_row) (defScope s_is_row) .none kV_is_row dc_is_row pm_is_row an_is_row (.ref c_is_row) ct_is_row), sl_is_row⟩)
    (q_is_row : PySem.W.codeIn K (.ref c_is_row) "is_row" = true)
    (k_is_row : PySem.W.keepIn K (.ref f_is_row) = true)
    (a_are_rows : PySem.W.nsIn K mainGlobals "are_rows" = some (some (.ref f_are_rows)))
    (l_are_rows : K.lookup f_are_rows = some ⟨oc_are_rows, od_are_rows, .func (PySem.W.fnOf "are_rows" "are_rows" (defArgs s_are_rows) (defBody s_are_rows) (defScope s_are_rows) .none kV_are_rows dc_are_rows pm_are_rows an_are_rows (.ref c_are_rows) ct_are_rows), sl_are_rows⟩)
    (q_are_rows : PySem.W.codeIn K (.ref c_are_rows) "are_rows" = true)
    (k_are_rows : PySem.W.keepIn K (.ref f_are_rows) = true)
    (a_is_way : PySem.W.nsIn K mainGlobals "is_way" = some (some (.ref f_is_way)))
    (l_is_way : K.lookup f_is_way = some ⟨oc_is_way, od_is_way, .func (PySem.W.fnOf "is_way" "is_way" (defArgs s_is_way) (defBody s_is_way) (defScope s_is_way) .none kV_is_way dc_is_way pm_is_way an_is_way (.ref c_is_way) ct_is_way), sl_is_way⟩)
    (q_is_way : PySem.W.codeIn K (.ref c_is_way) "is_way" = true)
    (k_is_way : PySem.W.keepIn K (.ref f_is_way) = true)
    (a_is_loop : PySem.W.nsIn K mainGlobals "is_loop" = some (some (.ref f_is_loop)))
    (l_is_loop : K.lookup f_is_loop = some ⟨oc_is_loop, od_is_loop, .func (PySem.W.fnOf "is_loop" "is_loop" (defArgs s_is_loop) (defBody s_is_loop) (defScope s_is_loop) .none kV_is_loop dc_is_loop pm_is_loop an_is_loop (.ref c_is_loop) ct_is_loop), sl_is_loop⟩)
    (q_is_loop : PySem.W.codeIn K (.ref c_is_loop) "is_loop" = true)
    (k_is_loop : PySem.W.keepIn K (.ref f_is_loop) = true)
    (a_is_state : PySem.W.nsIn K mainGlobals "is_state" = some (some (.ref f_is_state)))
    (l_is_state : K.lookup f_is_state = some ⟨oc_is_state, od_is_state, .func (PySem.W.fnOf "is_state" "is_state" (defArgs s_is_state) (defBody s_is_state) (defScope s_is_state) .none kV_is_state dc_is_state pm_is_state an_is_state (.ref c_is_state) ct_is_state), sl_is_state⟩)
    (q_is_state : PySem.W.codeIn K (.ref c_is_state) "is_state" = true)
    (k_is_state : PySem.W.keepIn K (.ref f_is_state) = true)
    (a_need_loop : PySem.W.nsIn K mainGlobals "need_loop" = some (some (.ref f_need_loop)))
    (l_need_loop : K.lookup f_need_loop = some ⟨oc_need_loop, od_need_loop, .func (PySem.W.fnOf "need_loop" "need_loop" (defArgs s_need_loop) (defBody s_need_loop) (defScope s_need_loop) .none kV_need_loop dc_need_loop pm_need_loop an_need_loop (.ref c_need_loop) ct_need_loop), sl_need_loop⟩)
    (q_need_loop : PySem.W.codeIn K (.ref c_need_loop) "need_loop" = true)
    (k_need_loop : PySem.W.keepIn K (.ref f_need_loop) = true)
    (a_need_state : PySem.W.nsIn K mainGlobals "need_state" = some (some (.ref f_need_state)))
    (l_need_state : K.lookup f_need_state = some ⟨oc_need_state, od_need_state, .func (PySem.W.fnOf "need_state" "need_state" (defArgs s_need_state) (defBody s_need_state) (defScope s_need_state) .none kV_need_state dc_need_state pm_need_state an_need_state (.ref c_need_state) ct_need_state), sl_need_state⟩)
    (q_need_state : PySem.W.codeIn K (.ref c_need_state) "need_state" = true)
    (k_need_state : PySem.W.keepIn K (.ref f_need_state) = true)
    (a_need_count : PySem.W.nsIn K mainGlobals "need_count" = some (some (.ref f_need_count)))
    (l_need_count : K.lookup f_need_count = some ⟨oc_need_count, od_need_count, .func (PySem.W.fnOf "need_count" "need_count" (defArgs s_need_count) (defBody s_need_count) (defScope s_need_count) .none kV_need_count dc_need_count pm_need_count an_need_count (.ref c_need_count) ct_need_count), sl_need_count⟩)
    (q_need_count : PySem.W.codeIn K (.ref c_need_count) "need_count" = true)
    (k_need_count : PySem.W.keepIn K (.ref f_need_count) = true)
    (a_worth : PySem.W.nsIn K mainGlobals "worth" = some (some (.ref f_worth)))
    (l_worth : K.lookup f_worth = some ⟨oc_worth, od_worth, .func (PySem.W.fnOf "worth" "worth" (defArgs s_worth) (defBody s_worth) (defScope s_worth) .none kV_worth dc_worth pm_worth an_worth (.ref c_worth) ct_worth), sl_worth⟩)
    (q_worth : PySem.W.codeIn K (.ref c_worth) "worth" = true)
    (k_worth : PySem.W.keepIn K (.ref f_worth) = true)
    (a_may_be_gone : PySem.W.nsIn K mainGlobals "may_be_gone" = some (some (.ref f_may_be_gone)))
    (l_may_be_gone : K.lookup f_may_be_gone = some ⟨oc_may_be_gone, od_may_be_gone, .func (PySem.W.fnOf "may_be_gone" "may_be_gone" (defArgs s_may_be_gone) (defBody s_may_be_gone) (defScope s_may_be_gone) .none kV_may_be_gone dc_may_be_gone pm_may_be_gone an_may_be_gone (.ref c_may_be_gone) ct_may_be_gone), sl_may_be_gone⟩)
    (q_may_be_gone : PySem.W.codeIn K (.ref c_may_be_gone) "may_be_gone" = true)
    (k_may_be_gone : PySem.W.keepIn K (.ref f_may_be_gone) = true)
    (a_led_to : PySem.W.nsIn K mainGlobals "led_to" = some (some (.ref f_led_to)))
    (l_led_to : K.lookup f_led_to = some ⟨oc_led_to, od_led_to, .func (PySem.W.fnOf "led_to" "led_to" (defArgs s_led_to) (defBody s_led_to) (defScope s_led_to) .none kV_led_to dc_led_to pm_led_to an_led_to (.ref c_led_to) ct_led_to), sl_led_to⟩)
    (q_led_to : PySem.W.codeIn K (.ref c_led_to) "led_to" = true)
    (k_led_to : PySem.W.keepIn K (.ref f_led_to) = true)
    (a_after : PySem.W.nsIn K mainGlobals "after" = some (some (.ref f_after)))
    (l_after : K.lookup f_after = some ⟨oc_after, od_after, .func (PySem.W.fnOf "after" "after" (defArgs s_after) (defBody s_after) (defScope s_after) .none kV_after dc_after pm_after an_after (.ref c_after) ct_after), sl_after⟩)
    (q_after : PySem.W.codeIn K (.ref c_after) "after" = true)
    (k_after : PySem.W.keepIn K (.ref f_after) = true)
    (a_law_cell_at : PySem.W.nsIn K mainGlobals "_law_cell_at" = some (some (.ref f_law_cell_at)))
    (l_law_cell_at : K.lookup f_law_cell_at = some ⟨oc_law_cell_at, od_law_cell_at, .func (PySem.W.fnOf "_law_cell_at" "_law_cell_at" (defArgs s_law_cell_at) (defBody s_law_cell_at) (defScope s_law_cell_at) .none kV_law_cell_at dc_law_cell_at pm_law_cell_at an_law_cell_at (.ref c_law_cell_at) ct_law_cell_at), sl_law_cell_at⟩)
    (q_law_cell_at : PySem.W.codeIn K (.ref c_law_cell_at) "_law_cell_at" = true)
    (k_law_cell_at : PySem.W.keepIn K (.ref f_law_cell_at) = true)
    (a_law_drawn : PySem.W.nsIn K mainGlobals "_law_drawn" = some (some (.ref f_law_drawn)))
    (l_law_drawn : K.lookup f_law_drawn = some ⟨oc_law_drawn, od_law_drawn, .func (PySem.W.fnOf "_law_drawn" "_law_drawn" (defArgs s_law_drawn) (defBody s_law_drawn) (defScope s_law_drawn) .none kV_law_drawn dc_law_drawn pm_law_drawn an_law_drawn (.ref c_law_drawn) ct_law_drawn), sl_law_drawn⟩)
    (q_law_drawn : PySem.W.codeIn K (.ref c_law_drawn) "_law_drawn" = true)
    (k_law_drawn : PySem.W.keepIn K (.ref f_law_drawn) = true)
    (a_law_row_by : PySem.W.nsIn K mainGlobals "_law_row_by" = some (some (.ref f_law_row_by)))
    (l_law_row_by : K.lookup f_law_row_by = some ⟨oc_law_row_by, od_law_row_by, .func (PySem.W.fnOf "_law_row_by" "_law_row_by" (defArgs s_law_row_by) (defBody s_law_row_by) (defScope s_law_row_by) .none kV_law_row_by dc_law_row_by pm_law_row_by an_law_row_by (.ref c_law_row_by) ct_law_row_by), sl_law_row_by⟩)
    (q_law_row_by : PySem.W.codeIn K (.ref c_law_row_by) "_law_row_by" = true)
    (k_law_row_by : PySem.W.keepIn K (.ref f_law_row_by) = true)
    (a_law_way_by : PySem.W.nsIn K mainGlobals "_law_way_by" = some (some (.ref f_law_way_by)))
    (l_law_way_by : K.lookup f_law_way_by = some ⟨oc_law_way_by, od_law_way_by, .func (PySem.W.fnOf "_law_way_by" "_law_way_by" (defArgs s_law_way_by) (defBody s_law_way_by) (defScope s_law_way_by) .none kV_law_way_by dc_law_way_by pm_law_way_by an_law_way_by (.ref c_law_way_by) ct_law_way_by), sl_law_way_by⟩)
    (q_law_way_by : PySem.W.codeIn K (.ref c_law_way_by) "_law_way_by" = true)
    (k_law_way_by : PySem.W.keepIn K (.ref f_law_way_by) = true)
    (a_law_far : PySem.W.nsIn K mainGlobals "_law_far" = some (some (.ref f_law_far)))
    (l_law_far : K.lookup f_law_far = some ⟨oc_law_far, od_law_far, .func (PySem.W.fnOf "_law_far" "_law_far" (defArgs s_law_far) (defBody s_law_far) (defScope s_law_far) .none kV_law_far dc_law_far pm_law_far an_law_far (.ref c_law_far) ct_law_far), sl_law_far⟩)
    (q_law_far : PySem.W.codeIn K (.ref c_law_far) "_law_far" = true)
    (k_law_far : PySem.W.keepIn K (.ref f_law_far) = true)
    (a_law_loop_by : PySem.W.nsIn K mainGlobals "_law_loop_by" = some (some (.ref f_law_loop_by)))
    (l_law_loop_by : K.lookup f_law_loop_by = some ⟨oc_law_loop_by, od_law_loop_by, .func (PySem.W.fnOf "_law_loop_by" "_law_loop_by" (defArgs s_law_loop_by) (defBody s_law_loop_by) (defScope s_law_loop_by) .none kV_law_loop_by dc_law_loop_by pm_law_loop_by an_law_loop_by (.ref c_law_loop_by) ct_law_loop_by), sl_law_loop_by⟩)
    (q_law_loop_by : PySem.W.codeIn K (.ref c_law_loop_by) "_law_loop_by" = true)
    (k_law_loop_by : PySem.W.keepIn K (.ref f_law_loop_by) = true)
    (a_law_name_of : PySem.W.nsIn K mainGlobals "_law_name_of" = some (some (.ref f_law_name_of)))
    (l_law_name_of : K.lookup f_law_name_of = some ⟨oc_law_name_of, od_law_name_of, .func (PySem.W.fnOf "_law_name_of" "_law_name_of" (defArgs s_law_name_of) (defBody s_law_name_of) (defScope s_law_name_of) .none kV_law_name_of dc_law_name_of pm_law_name_of an_law_name_of (.ref c_law_name_of) ct_law_name_of), sl_law_name_of⟩)
    (q_law_name_of : PySem.W.codeIn K (.ref c_law_name_of) "_law_name_of" = true)
    (k_law_name_of : PySem.W.keepIn K (.ref f_law_name_of) = true)
    (a_law_copied : PySem.W.nsIn K mainGlobals "_law_copied" = some (some (.ref f_law_copied)))
    (l_law_copied : K.lookup f_law_copied = some ⟨oc_law_copied, od_law_copied, .func (PySem.W.fnOf "_law_copied" "_law_copied" (defArgs s_law_copied) (defBody s_law_copied) (defScope s_law_copied) .none kV_law_copied dc_law_copied pm_law_copied an_law_copied (.ref c_law_copied) ct_law_copied), sl_law_copied⟩)
    (q_law_copied : PySem.W.codeIn K (.ref c_law_copied) "_law_copied" = true)
    (k_law_copied : PySem.W.keepIn K (.ref f_law_copied) = true)
    (a_law_worth : PySem.W.nsIn K mainGlobals "_law_worth" = some (some (.ref f_law_worth)))
    (l_law_worth : K.lookup f_law_worth = some ⟨oc_law_worth, od_law_worth, .func (PySem.W.fnOf "_law_worth" "_law_worth" (defArgs s_law_worth) (defBody s_law_worth) (defScope s_law_worth) .none kV_law_worth dc_law_worth pm_law_worth an_law_worth (.ref c_law_worth) ct_law_worth), sl_law_worth⟩)
    (q_law_worth : PySem.W.codeIn K (.ref c_law_worth) "_law_worth" = true)
    (k_law_worth : PySem.W.keepIn K (.ref f_law_worth) = true)
    (a_law_led : PySem.W.nsIn K mainGlobals "_law_led" = some (some (.ref f_law_led)))
    (l_law_led : K.lookup f_law_led = some ⟨oc_law_led, od_law_led, .func (PySem.W.fnOf "_law_led" "_law_led" (defArgs s_law_led) (defBody s_law_led) (defScope s_law_led) .none kV_law_led dc_law_led pm_law_led an_law_led (.ref c_law_led) ct_law_led), sl_law_led⟩)
    (q_law_led : PySem.W.codeIn K (.ref c_law_led) "_law_led" = true)
    (k_law_led : PySem.W.keepIn K (.ref f_law_led) = true)
    (a_law_word : PySem.W.nsIn K mainGlobals "_law_word" = some (some (.ref f_law_word)))
    (l_law_word : K.lookup f_law_word = some ⟨oc_law_word, od_law_word, .func (PySem.W.fnOf "_law_word" "_law_word" (defArgs s_law_word) (defBody s_law_word) (defScope s_law_word) .none kV_law_word dc_law_word pm_law_word an_law_word (.ref c_law_word) ct_law_word), sl_law_word⟩)
    (q_law_word : PySem.W.codeIn K (.ref c_law_word) "_law_word" = true)
    (k_law_word : PySem.W.keepIn K (.ref f_law_word) = true)
    (a_law_state : PySem.W.nsIn K mainGlobals "_law_state" = some (some (.ref f_law_state)))
    (l_law_state : K.lookup f_law_state = some ⟨oc_law_state, od_law_state, .func (PySem.W.fnOf "_law_state" "_law_state" (defArgs s_law_state) (defBody s_law_state) (defScope s_law_state) .none kV_law_state dc_law_state pm_law_state an_law_state (.ref c_law_state) ct_law_state), sl_law_state⟩)
    (q_law_state : PySem.W.codeIn K (.ref c_law_state) "_law_state" = true)
    (k_law_state : PySem.W.keepIn K (.ref f_law_state) = true)
    (a_law_right : PySem.W.nsIn K mainGlobals "_law_right" = some (some (.ref f_law_right)))
    (l_law_right : K.lookup f_law_right = some ⟨oc_law_right, od_law_right, .func (PySem.W.fnOf "_law_right" "_law_right" (defArgs s_law_right) (defBody s_law_right) (defScope s_law_right) .none kV_law_right dc_law_right pm_law_right an_law_right (.ref c_law_right) ct_law_right), sl_law_right⟩)
    (q_law_right : PySem.W.codeIn K (.ref c_law_right) "_law_right" = true)
    (k_law_right : PySem.W.keepIn K (.ref f_law_right) = true)
    (a_law : PySem.W.nsIn K mainGlobals "law" = some (some (.ref f_law)))
    (l_law : K.lookup f_law = some ⟨oc_law, od_law, .func (PySem.W.fnOf "law" "law" (defArgs s_law) (defBody s_law) (defScope s_law) .none kV_law dc_law pm_law an_law (.ref c_law) ct_law), sl_law⟩)
    (q_law : PySem.W.codeIn K (.ref c_law) "law" = true)
    (k_law : PySem.W.keepIn K (.ref f_law) = true)
    (m_lk_are_wholes : K.lookup c_are_wholes = some ⟨e_are_wholes, dd_are_wholes, .fields vs_are_wholes, sm_are_wholes⟩)
    (m_at_are_wholes : vs_are_wholes[11]? = some (.ref p_are_wholes))
    (m_hd_are_wholes : PySem.W.codeHdIn K c_are_wholes p_are_wholes = true)
    (m_no_are_wholes : K.lookup p_are_wholes = none)
    (m_lk_is_row : K.lookup c_is_row = some ⟨e_is_row, dd_is_row, .fields vs_is_row, sm_is_row⟩)
    (m_at_is_row : vs_is_row[11]? = some (.ref p_is_row))
    (m_hd_is_row : PySem.W.codeHdIn K c_is_row p_is_row = true)
    (m_no_is_row : K.lookup p_is_row = none)
    (m_lk_are_rows : K.lookup c_are_rows = some ⟨e_are_rows, dd_are_rows, .fields vs_are_rows, sm_are_rows⟩)
    (m_at_are_rows : vs_are_rows[11]? = some (.ref p_are_rows))
    (m_hd_are_rows : PySem.W.codeHdIn K c_are_rows p_are_rows = true)
    (m_no_are_rows : K.lookup p_are_rows = none)
    (m_lk_is_loop : K.lookup c_is_loop = some ⟨e_is_loop, dd_is_loop, .fields vs_is_loop, sm_is_loop⟩)
    (m_at_is_loop : vs_is_loop[11]? = some (.ref p_is_loop))
    (m_hd_is_loop : PySem.W.codeHdIn K c_is_loop p_is_loop = true)
    (m_no_is_loop : K.lookup p_is_loop = none)
    (m_lk_worth : K.lookup c_worth = some ⟨e_worth, dd_worth, .fields vs_worth, sm_worth⟩)
    (m_at_worth : vs_worth[11]? = some (.ref p_worth))
    (m_hd_worth : PySem.W.codeHdIn K c_worth p_worth = true)
    (m_no_worth : K.lookup p_worth = none)
    (m_lk_may_be_gone : K.lookup c_may_be_gone = some ⟨e_may_be_gone, dd_may_be_gone, .fields vs_may_be_gone, sm_may_be_gone⟩)
    (m_at_may_be_gone : vs_may_be_gone[11]? = some (.ref p_may_be_gone))
    (m_hd_may_be_gone : PySem.W.codeHdIn K c_may_be_gone p_may_be_gone = true)
    (m_no_may_be_gone : K.lookup p_may_be_gone = none)
    (kc_FARTHEST : PySem.W.nsIn K mainGlobals "FARTHEST" = some (some (.int 1000 t_FARTHEST)))
    (kc_MOST_ASKS : PySem.W.nsIn K mainGlobals "MOST_ASKS" = some (some (.int 4 t_MOST_ASKS)))
    (kc_MOST_NAMES : PySem.W.nsIn K mainGlobals "MOST_NAMES" = some (some (.int 3 t_MOST_NAMES)))
    (kc_MOST_WAYS : PySem.W.nsIn K mainGlobals "MOST_WAYS" = some (some (.int 3 t_MOST_WAYS)))
    (z_ValueError : PySem.W.nsIn K mainGlobals "ValueError" = some none)
    (z_all : PySem.W.nsIn K mainGlobals "all" = some none)
    (z_bool : PySem.W.nsIn K mainGlobals "bool" = some none)
    (z_int : PySem.W.nsIn K mainGlobals "int" = some none)
    (z_isinstance : PySem.W.nsIn K mainGlobals "isinstance" = some none)
    (z_len : PySem.W.nsIn K mainGlobals "len" = some none)
    (z_list : PySem.W.nsIn K mainGlobals "list" = some none)
    (z_max : PySem.W.nsIn K mainGlobals "max" = some none)
    (z_min : PySem.W.nsIn K mainGlobals "min" = some none)
    (z_range : PySem.W.nsIn K mainGlobals "range" = some none)
    (z_sum : PySem.W.nsIn K mainGlobals "sum" = some none)
    (z_tuple : PySem.W.nsIn K mainGlobals "tuple" = some none)
    (z_type : PySem.W.nsIn K mainGlobals "type" = some none)
    (z_zip : PySem.W.nsIn K mainGlobals "zip" = some none)
    (g_LoopError : PySem.W.nsIn K mainGlobals "LoopError" = some (some (.ref x_LoopError)))
    (g_BadLoop : PySem.W.nsIn K mainGlobals "BadLoop" = some (some (.ref x_BadLoop)))
    (g_BadState : PySem.W.nsIn K mainGlobals "BadState" = some (some (.ref x_BadState)))
    (g_BadCount : PySem.W.nsIn K mainGlobals "BadCount" = some (some (.ref x_BadCount)))
    (g_BadGauge : PySem.W.nsIn K mainGlobals "BadGauge" = some (some (.ref x_BadGauge)))
    (g_BadTable : PySem.W.nsIn K mainGlobals "BadTable" = some (some (.ref x_BadTable)))
    (g_BadText : PySem.W.nsIn K mainGlobals "BadText" = some (some (.ref x_BadText)))
    (xi_BadLoop : PySem.W.excIn K x_BadLoop [.type "ValueError", .type "Exception", .type "BaseException", .type "object"] "ValueError.__new__" = true)
    (xk_BadLoop : PySem.W.keepIn K (.ref x_BadLoop) = true)
    (xs_BadLoop : PySem.W.subIn K (.ref x_BadLoop) (.type "BaseException") = some true)
    (xt_BadLoop : PySem.W.typeIn K (.ref x_BadLoop) = some (.type "type"))
    (e1_BadLoop : PySem.W.findIn K (.ref x_BadLoop) "__getattribute__" = some (some (.builtin "BaseException.__getattribute__")))
    (e2_BadLoop : PySem.W.findIn K (.ref x_BadLoop) "__getattr__" = some none)
    (e3_BadLoop : PySem.W.hasDictIn K x_BadLoop = true)
    (e4_BadLoop : PySem.W.findIn K (.ref x_BadLoop) "__class__" = some (some (.builtin "object.__class__")))
    (e5_BadLoop : PySem.W.mroIn K x_BadLoop (.type "object") = some true)
    (em_BadLoop : PySem.W.exmOne K (.ref x_BadLoop) (.ref x_LoopError) = some true)
    (kt_BadLoop_BadLoop : PySem.W.kitOne K (.ref x_BadLoop) (.ref x_BadLoop) = some true)
    (kt_BadLoop_BadState : PySem.W.kitOne K (.ref x_BadLoop) (.ref x_BadState) = some false)
    (kt_BadLoop_BadCount : PySem.W.kitOne K (.ref x_BadLoop) (.ref x_BadCount) = some false)
    (kt_BadLoop_BadGauge : PySem.W.kitOne K (.ref x_BadLoop) (.ref x_BadGauge) = some false)
    (kt_BadLoop_BadTable : PySem.W.kitOne K (.ref x_BadLoop) (.ref x_BadTable) = some false)
    (kt_BadLoop_BadText : PySem.W.kitOne K (.ref x_BadLoop) (.ref x_BadText) = some false)
    (kv_BadLoop : PySem.W.kitOne K (.ref x_BadLoop) (.type "ValueError") = some true)
    (xi_BadState : PySem.W.excIn K x_BadState [.type "ValueError", .type "Exception", .type "BaseException", .type "object"] "ValueError.__new__" = true)
    (xk_BadState : PySem.W.keepIn K (.ref x_BadState) = true)
    (xs_BadState : PySem.W.subIn K (.ref x_BadState) (.type "BaseException") = some true)
    (xt_BadState : PySem.W.typeIn K (.ref x_BadState) = some (.type "type"))
    (e1_BadState : PySem.W.findIn K (.ref x_BadState) "__getattribute__" = some (some (.builtin "BaseException.__getattribute__")))
    (e2_BadState : PySem.W.findIn K (.ref x_BadState) "__getattr__" = some none)
    (e3_BadState : PySem.W.hasDictIn K x_BadState = true)
    (e4_BadState : PySem.W.findIn K (.ref x_BadState) "__class__" = some (some (.builtin "object.__class__")))
    (e5_BadState : PySem.W.mroIn K x_BadState (.type "object") = some true)
    (em_BadState : PySem.W.exmOne K (.ref x_BadState) (.ref x_LoopError) = some true)
    (kt_BadState_BadLoop : PySem.W.kitOne K (.ref x_BadState) (.ref x_BadLoop) = some false)
    (kt_BadState_BadState : PySem.W.kitOne K (.ref x_BadState) (.ref x_BadState) = some true)
    (kt_BadState_BadCount : PySem.W.kitOne K (.ref x_BadState) (.ref x_BadCount) = some false)
    (kt_BadState_BadGauge : PySem.W.kitOne K (.ref x_BadState) (.ref x_BadGauge) = some false)
    (kt_BadState_BadTable : PySem.W.kitOne K (.ref x_BadState) (.ref x_BadTable) = some false)
    (kt_BadState_BadText : PySem.W.kitOne K (.ref x_BadState) (.ref x_BadText) = some false)
    (kv_BadState : PySem.W.kitOne K (.ref x_BadState) (.type "ValueError") = some true)
    (xi_BadCount : PySem.W.excIn K x_BadCount [.type "ValueError", .type "Exception", .type "BaseException", .type "object"] "ValueError.__new__" = true)
    (xk_BadCount : PySem.W.keepIn K (.ref x_BadCount) = true)
    (xs_BadCount : PySem.W.subIn K (.ref x_BadCount) (.type "BaseException") = some true)
    (xt_BadCount : PySem.W.typeIn K (.ref x_BadCount) = some (.type "type"))
    (e1_BadCount : PySem.W.findIn K (.ref x_BadCount) "__getattribute__" = some (some (.builtin "BaseException.__getattribute__")))
    (e2_BadCount : PySem.W.findIn K (.ref x_BadCount) "__getattr__" = some none)
    (e3_BadCount : PySem.W.hasDictIn K x_BadCount = true)
    (e4_BadCount : PySem.W.findIn K (.ref x_BadCount) "__class__" = some (some (.builtin "object.__class__")))
    (e5_BadCount : PySem.W.mroIn K x_BadCount (.type "object") = some true)
    (em_BadCount : PySem.W.exmOne K (.ref x_BadCount) (.ref x_LoopError) = some true)
    (kt_BadCount_BadLoop : PySem.W.kitOne K (.ref x_BadCount) (.ref x_BadLoop) = some false)
    (kt_BadCount_BadState : PySem.W.kitOne K (.ref x_BadCount) (.ref x_BadState) = some false)
    (kt_BadCount_BadCount : PySem.W.kitOne K (.ref x_BadCount) (.ref x_BadCount) = some true)
    (kt_BadCount_BadGauge : PySem.W.kitOne K (.ref x_BadCount) (.ref x_BadGauge) = some false)
    (kt_BadCount_BadTable : PySem.W.kitOne K (.ref x_BadCount) (.ref x_BadTable) = some false)
    (kt_BadCount_BadText : PySem.W.kitOne K (.ref x_BadCount) (.ref x_BadText) = some false)
    (kv_BadCount : PySem.W.kitOne K (.ref x_BadCount) (.type "ValueError") = some true)
    (eg : PySem.W.specialIn K (.builtin "object.__class__") "__get__" = some (some (.builtin "getset_descriptor.__get__")))
    (et : PySem.W.takesIn K (.builtin "object.__class__") = some true)
    : LamX.LawAtS l w K CX0 13 63 "_law_script" mg fa h := by
  have e : f_law = fa := Value.ref.inj (Option.some.inj ((PySem.W.mg_of X G a_law).symm.trans hfa))
  subst e
  let A : Ad := {
    f_is_whole := f_is_whole, c_is_whole := c_is_whole, fd_is_whole := PySem.W.fnOf "is_whole" "is_whole" (defArgs s_is_whole) (defBody s_is_whole) (defScope s_is_whole) .none kV_is_whole dc_is_whole pm_is_whole an_is_whole (.ref c_is_whole) ct_is_whole,
    f_is_whole_within := f_is_whole_within, c_is_whole_within := c_is_whole_within, fd_is_whole_within := PySem.W.fnOf "is_whole_within" "is_whole_within" (defArgs s_is_whole_within) (defBody s_is_whole_within) (defScope s_is_whole_within) .none kV_is_whole_within dc_is_whole_within pm_is_whole_within an_is_whole_within (.ref c_is_whole_within) ct_is_whole_within,
    f_is_list_of := f_is_list_of, c_is_list_of := c_is_list_of, fd_is_list_of := PySem.W.fnOf "is_list_of" "is_list_of" (defArgs s_is_list_of) (defBody s_is_list_of) (defScope s_is_list_of) .none kV_is_list_of dc_is_list_of pm_is_list_of an_is_list_of (.ref c_is_list_of) ct_is_list_of,
    f_are_wholes := f_are_wholes, c_are_wholes := c_are_wholes, fd_are_wholes := PySem.W.fnOf "are_wholes" "are_wholes" (defArgs s_are_wholes) (defBody s_are_wholes) (defScope s_are_wholes) .none kV_are_wholes dc_are_wholes pm_are_wholes an_are_wholes (.ref c_are_wholes) ct_are_wholes,
    f_is_pair := f_is_pair, c_is_pair := c_is_pair, fd_is_pair := PySem.W.fnOf "is_pair" "is_pair" (defArgs s_is_pair) (defBody s_is_pair) (defScope s_is_pair) .none kV_is_pair dc_is_pair pm_is_pair an_is_pair (.ref c_is_pair) ct_is_pair,
    f_is_row := f_is_row, c_is_row := c_is_row, fd_is_row := PySem.W.fnOf "is_row" "is_row" (defArgs s_is_row) (defBody s_is_row) (defScope s_is_row) .none kV_is_row dc_is_row pm_is_row an_is_row (.ref c_is_row) ct_is_row,
    f_are_rows := f_are_rows, c_are_rows := c_are_rows, fd_are_rows := PySem.W.fnOf "are_rows" "are_rows" (defArgs s_are_rows) (defBody s_are_rows) (defScope s_are_rows) .none kV_are_rows dc_are_rows pm_are_rows an_are_rows (.ref c_are_rows) ct_are_rows,
    f_is_way := f_is_way, c_is_way := c_is_way, fd_is_way := PySem.W.fnOf "is_way" "is_way" (defArgs s_is_way) (defBody s_is_way) (defScope s_is_way) .none kV_is_way dc_is_way pm_is_way an_is_way (.ref c_is_way) ct_is_way,
    f_is_loop := f_is_loop, c_is_loop := c_is_loop, fd_is_loop := PySem.W.fnOf "is_loop" "is_loop" (defArgs s_is_loop) (defBody s_is_loop) (defScope s_is_loop) .none kV_is_loop dc_is_loop pm_is_loop an_is_loop (.ref c_is_loop) ct_is_loop,
    f_is_state := f_is_state, c_is_state := c_is_state, fd_is_state := PySem.W.fnOf "is_state" "is_state" (defArgs s_is_state) (defBody s_is_state) (defScope s_is_state) .none kV_is_state dc_is_state pm_is_state an_is_state (.ref c_is_state) ct_is_state,
    f_need_loop := f_need_loop, c_need_loop := c_need_loop, fd_need_loop := PySem.W.fnOf "need_loop" "need_loop" (defArgs s_need_loop) (defBody s_need_loop) (defScope s_need_loop) .none kV_need_loop dc_need_loop pm_need_loop an_need_loop (.ref c_need_loop) ct_need_loop,
    f_need_state := f_need_state, c_need_state := c_need_state, fd_need_state := PySem.W.fnOf "need_state" "need_state" (defArgs s_need_state) (defBody s_need_state) (defScope s_need_state) .none kV_need_state dc_need_state pm_need_state an_need_state (.ref c_need_state) ct_need_state,
    f_need_count := f_need_count, c_need_count := c_need_count, fd_need_count := PySem.W.fnOf "need_count" "need_count" (defArgs s_need_count) (defBody s_need_count) (defScope s_need_count) .none kV_need_count dc_need_count pm_need_count an_need_count (.ref c_need_count) ct_need_count,
    f_worth := f_worth, c_worth := c_worth, fd_worth := PySem.W.fnOf "worth" "worth" (defArgs s_worth) (defBody s_worth) (defScope s_worth) .none kV_worth dc_worth pm_worth an_worth (.ref c_worth) ct_worth,
    f_may_be_gone := f_may_be_gone, c_may_be_gone := c_may_be_gone, fd_may_be_gone := PySem.W.fnOf "may_be_gone" "may_be_gone" (defArgs s_may_be_gone) (defBody s_may_be_gone) (defScope s_may_be_gone) .none kV_may_be_gone dc_may_be_gone pm_may_be_gone an_may_be_gone (.ref c_may_be_gone) ct_may_be_gone,
    f_led_to := f_led_to, c_led_to := c_led_to, fd_led_to := PySem.W.fnOf "led_to" "led_to" (defArgs s_led_to) (defBody s_led_to) (defScope s_led_to) .none kV_led_to dc_led_to pm_led_to an_led_to (.ref c_led_to) ct_led_to,
    f_after := f_after, c_after := c_after, fd_after := PySem.W.fnOf "after" "after" (defArgs s_after) (defBody s_after) (defScope s_after) .none kV_after dc_after pm_after an_after (.ref c_after) ct_after,
    f_law_cell_at := f_law_cell_at, c_law_cell_at := c_law_cell_at, fd_law_cell_at := PySem.W.fnOf "_law_cell_at" "_law_cell_at" (defArgs s_law_cell_at) (defBody s_law_cell_at) (defScope s_law_cell_at) .none kV_law_cell_at dc_law_cell_at pm_law_cell_at an_law_cell_at (.ref c_law_cell_at) ct_law_cell_at,
    f_law_drawn := f_law_drawn, c_law_drawn := c_law_drawn, fd_law_drawn := PySem.W.fnOf "_law_drawn" "_law_drawn" (defArgs s_law_drawn) (defBody s_law_drawn) (defScope s_law_drawn) .none kV_law_drawn dc_law_drawn pm_law_drawn an_law_drawn (.ref c_law_drawn) ct_law_drawn,
    f_law_row_by := f_law_row_by, c_law_row_by := c_law_row_by, fd_law_row_by := PySem.W.fnOf "_law_row_by" "_law_row_by" (defArgs s_law_row_by) (defBody s_law_row_by) (defScope s_law_row_by) .none kV_law_row_by dc_law_row_by pm_law_row_by an_law_row_by (.ref c_law_row_by) ct_law_row_by,
    f_law_way_by := f_law_way_by, c_law_way_by := c_law_way_by, fd_law_way_by := PySem.W.fnOf "_law_way_by" "_law_way_by" (defArgs s_law_way_by) (defBody s_law_way_by) (defScope s_law_way_by) .none kV_law_way_by dc_law_way_by pm_law_way_by an_law_way_by (.ref c_law_way_by) ct_law_way_by,
    f_law_far := f_law_far, c_law_far := c_law_far, fd_law_far := PySem.W.fnOf "_law_far" "_law_far" (defArgs s_law_far) (defBody s_law_far) (defScope s_law_far) .none kV_law_far dc_law_far pm_law_far an_law_far (.ref c_law_far) ct_law_far,
    f_law_loop_by := f_law_loop_by, c_law_loop_by := c_law_loop_by, fd_law_loop_by := PySem.W.fnOf "_law_loop_by" "_law_loop_by" (defArgs s_law_loop_by) (defBody s_law_loop_by) (defScope s_law_loop_by) .none kV_law_loop_by dc_law_loop_by pm_law_loop_by an_law_loop_by (.ref c_law_loop_by) ct_law_loop_by,
    f_law_name_of := f_law_name_of, c_law_name_of := c_law_name_of, fd_law_name_of := PySem.W.fnOf "_law_name_of" "_law_name_of" (defArgs s_law_name_of) (defBody s_law_name_of) (defScope s_law_name_of) .none kV_law_name_of dc_law_name_of pm_law_name_of an_law_name_of (.ref c_law_name_of) ct_law_name_of,
    f_law_copied := f_law_copied, c_law_copied := c_law_copied, fd_law_copied := PySem.W.fnOf "_law_copied" "_law_copied" (defArgs s_law_copied) (defBody s_law_copied) (defScope s_law_copied) .none kV_law_copied dc_law_copied pm_law_copied an_law_copied (.ref c_law_copied) ct_law_copied,
    f_law_worth := f_law_worth, c_law_worth := c_law_worth, fd_law_worth := PySem.W.fnOf "_law_worth" "_law_worth" (defArgs s_law_worth) (defBody s_law_worth) (defScope s_law_worth) .none kV_law_worth dc_law_worth pm_law_worth an_law_worth (.ref c_law_worth) ct_law_worth,
    f_law_led := f_law_led, c_law_led := c_law_led, fd_law_led := PySem.W.fnOf "_law_led" "_law_led" (defArgs s_law_led) (defBody s_law_led) (defScope s_law_led) .none kV_law_led dc_law_led pm_law_led an_law_led (.ref c_law_led) ct_law_led,
    f_law_word := f_law_word, c_law_word := c_law_word, fd_law_word := PySem.W.fnOf "_law_word" "_law_word" (defArgs s_law_word) (defBody s_law_word) (defScope s_law_word) .none kV_law_word dc_law_word pm_law_word an_law_word (.ref c_law_word) ct_law_word,
    f_law_state := f_law_state, c_law_state := c_law_state, fd_law_state := PySem.W.fnOf "_law_state" "_law_state" (defArgs s_law_state) (defBody s_law_state) (defScope s_law_state) .none kV_law_state dc_law_state pm_law_state an_law_state (.ref c_law_state) ct_law_state,
    f_law_right := f_law_right, c_law_right := c_law_right, fd_law_right := PySem.W.fnOf "_law_right" "_law_right" (defArgs s_law_right) (defBody s_law_right) (defScope s_law_right) .none kV_law_right dc_law_right pm_law_right an_law_right (.ref c_law_right) ct_law_right,
    f_law := f_law, c_law := c_law, fd_law := PySem.W.fnOf "law" "law" (defArgs s_law) (defBody s_law) (defScope s_law) .none kV_law dc_law pm_law an_law (.ref c_law) ct_law,
    p_are_wholes := p_are_wholes,
    p_is_row := p_is_row,
    p_are_rows := p_are_rows,
    p_is_loop := p_is_loop,
    p_worth := p_worth,
    p_may_be_gone := p_may_be_gone,
    x_LoopError := x_LoopError,
    x_BadLoop := x_BadLoop,
    x_BadState := x_BadState,
    x_BadCount := x_BadCount,
    x_BadGauge := x_BadGauge,
    x_BadTable := x_BadTable,
    x_BadText := x_BadText }
  have T : Txt K mg A := {
    F_is_whole := funC_mk l_is_whole q_is_whole k_is_whole, g_is_whole := PySem.W.mg_of X G a_is_whole, b_is_whole := (funC_mk (st := s_is_whole) l_is_whole q_is_whole k_is_whole).F.binds (ps := ["thing"]) fun _ _ _ _ _ _ us hl => match us, hl with | [_], _ => rfl,
    F_is_whole_within := funC_mk l_is_whole_within q_is_whole_within k_is_whole_within, g_is_whole_within := PySem.W.mg_of X G a_is_whole_within, b_is_whole_within := (funC_mk (st := s_is_whole_within) l_is_whole_within q_is_whole_within k_is_whole_within).F.binds (ps := ["thing", "low", "high"]) fun _ _ _ _ _ _ us hl => match us, hl with | [_, _, _], _ => rfl,
    F_is_list_of := funC_mk l_is_list_of q_is_list_of k_is_list_of, g_is_list_of := PySem.W.mg_of X G a_is_list_of, b_is_list_of := (funC_mk (st := s_is_list_of) l_is_list_of q_is_list_of k_is_list_of).F.binds (ps := ["thing", "least", "most"]) fun _ _ _ _ _ _ us hl => match us, hl with | [_, _, _], _ => rfl,
    F_are_wholes := funC_mk l_are_wholes q_are_wholes k_are_wholes, g_are_wholes := PySem.W.mg_of X G a_are_wholes, b_are_wholes := (funC_mk (st := s_are_wholes) l_are_wholes q_are_wholes k_are_wholes).F.binds (ps := ["thing", "length"]) fun _ _ _ _ _ _ us hl => match us, hl with | [_, _], _ => rfl,
    F_is_pair := funC_mk l_is_pair q_is_pair k_is_pair, g_is_pair := PySem.W.mg_of X G a_is_pair, b_is_pair := (funC_mk (st := s_is_pair) l_is_pair q_is_pair k_is_pair).F.binds (ps := ["thing"]) fun _ _ _ _ _ _ us hl => match us, hl with | [_], _ => rfl,
    F_is_row := funC_mk l_is_row q_is_row k_is_row, g_is_row := PySem.W.mg_of X G a_is_row, b_is_row := (funC_mk (st := s_is_row) l_is_row q_is_row k_is_row).F.binds (ps := ["thing", "many"]) fun _ _ _ _ _ _ us hl => match us, hl with | [_, _], _ => rfl,
    F_are_rows := funC_mk l_are_rows q_are_rows k_are_rows, g_are_rows := PySem.W.mg_of X G a_are_rows, b_are_rows := (funC_mk (st := s_are_rows) l_are_rows q_are_rows k_are_rows).F.binds (ps := ["thing", "many", "least", "most"]) fun _ _ _ _ _ _ us hl => match us, hl with | [_, _, _, _], _ => rfl,
    F_is_way := funC_mk l_is_way q_is_way k_is_way, g_is_way := PySem.W.mg_of X G a_is_way, b_is_way := (funC_mk (st := s_is_way) l_is_way q_is_way k_is_way).F.binds (ps := ["thing", "many"]) fun _ _ _ _ _ _ us hl => match us, hl with | [_, _], _ => rfl,
    F_is_loop := funC_mk l_is_loop q_is_loop k_is_loop, g_is_loop := PySem.W.mg_of X G a_is_loop, b_is_loop := (funC_mk (st := s_is_loop) l_is_loop q_is_loop k_is_loop).F.binds (ps := ["thing"]) fun _ _ _ _ _ _ us hl => match us, hl with | [_], _ => rfl,
    F_is_state := funC_mk l_is_state q_is_state k_is_state, g_is_state := PySem.W.mg_of X G a_is_state, b_is_state := (funC_mk (st := s_is_state) l_is_state q_is_state k_is_state).F.binds (ps := ["thing", "many"]) fun _ _ _ _ _ _ us hl => match us, hl with | [_, _], _ => rfl,
    F_need_loop := funC_mk l_need_loop q_need_loop k_need_loop, g_need_loop := PySem.W.mg_of X G a_need_loop, b_need_loop := (funC_mk (st := s_need_loop) l_need_loop q_need_loop k_need_loop).F.binds (ps := ["thing"]) fun _ _ _ _ _ _ us hl => match us, hl with | [_], _ => rfl,
    F_need_state := funC_mk l_need_state q_need_state k_need_state, g_need_state := PySem.W.mg_of X G a_need_state, b_need_state := (funC_mk (st := s_need_state) l_need_state q_need_state k_need_state).F.binds (ps := ["thing", "many"]) fun _ _ _ _ _ _ us hl => match us, hl with | [_, _], _ => rfl,
    F_need_count := funC_mk l_need_count q_need_count k_need_count, g_need_count := PySem.W.mg_of X G a_need_count, b_need_count := (funC_mk (st := s_need_count) l_need_count q_need_count k_need_count).F.binds (ps := ["thing", "high"]) fun _ _ _ _ _ _ us hl => match us, hl with | [_, _], _ => rfl,
    F_worth := funC_mk l_worth q_worth k_worth, g_worth := PySem.W.mg_of X G a_worth, b_worth := (funC_mk (st := s_worth) l_worth q_worth k_worth).F.binds (ps := ["row", "state"]) fun _ _ _ _ _ _ us hl => match us, hl with | [_, _], _ => rfl,
    F_may_be_gone := funC_mk l_may_be_gone q_may_be_gone k_may_be_gone, g_may_be_gone := PySem.W.mg_of X G a_may_be_gone, b_may_be_gone := (funC_mk (st := s_may_be_gone) l_may_be_gone q_may_be_gone k_may_be_gone).F.binds (ps := ["way", "state"]) fun _ _ _ _ _ _ us hl => match us, hl with | [_, _], _ => rfl,
    F_led_to := funC_mk l_led_to q_led_to k_led_to, g_led_to := PySem.W.mg_of X G a_led_to, b_led_to := (funC_mk (st := s_led_to) l_led_to q_led_to k_led_to).F.binds (ps := ["way", "state"]) fun _ _ _ _ _ _ us hl => match us, hl with | [_, _], _ => rfl,
    F_after := funC_mk l_after q_after k_after, g_after := PySem.W.mg_of X G a_after, b_after := (funC_mk (st := s_after) l_after q_after k_after).F.binds (ps := ["loop", "number", "state"]) fun _ _ _ _ _ _ us hl => match us, hl with | [_, _, _], _ => rfl,
    F_law_cell_at := funC_mk l_law_cell_at q_law_cell_at k_law_cell_at, g_law_cell_at := PySem.W.mg_of X G a_law_cell_at, b_law_cell_at := (funC_mk (st := s_law_cell_at) l_law_cell_at q_law_cell_at k_law_cell_at).F.binds (ps := ["_law_script", "_law_k"]) fun _ _ _ _ _ _ us hl => match us, hl with | [_, _], _ => rfl,
    F_law_drawn := funC_mk l_law_drawn q_law_drawn k_law_drawn, g_law_drawn := PySem.W.mg_of X G a_law_drawn, b_law_drawn := (funC_mk (st := s_law_drawn) l_law_drawn q_law_drawn k_law_drawn).F.binds (ps := ["_law_seed", "_law_k"]) fun _ _ _ _ _ _ us hl => match us, hl with | [_, _], _ => rfl,
    F_law_row_by := funC_mk l_law_row_by q_law_row_by k_law_row_by, g_law_row_by := PySem.W.mg_of X G a_law_row_by, b_law_row_by := (funC_mk (st := s_law_row_by) l_law_row_by q_law_row_by k_law_row_by).F.binds (ps := ["_law_cell", "_law_k", "_law_many"]) fun _ _ _ _ _ _ us hl => match us, hl with | [_, _, _], _ => rfl,
    F_law_way_by := funC_mk l_law_way_by q_law_way_by k_law_way_by, g_law_way_by := PySem.W.mg_of X G a_law_way_by, b_law_way_by := (funC_mk (st := s_law_way_by) l_law_way_by q_law_way_by k_law_way_by).F.binds (ps := ["_law_cell", "_law_many"]) fun _ _ _ _ _ _ us hl => match us, hl with | [_, _], _ => rfl,
    F_law_far := funC_mk l_law_far q_law_far k_law_far, g_law_far := PySem.W.mg_of X G a_law_far, b_law_far := (funC_mk (st := s_law_far) l_law_far q_law_far k_law_far).F.binds (ps := ["_law_row"]) fun _ _ _ _ _ _ us hl => match us, hl with | [_], _ => rfl,
    F_law_loop_by := funC_mk l_law_loop_by q_law_loop_by k_law_loop_by, g_law_loop_by := PySem.W.mg_of X G a_law_loop_by, b_law_loop_by := (funC_mk (st := s_law_loop_by) l_law_loop_by q_law_loop_by k_law_loop_by).F.binds (ps := ["_law_script", "_law_at"]) fun _ _ _ _ _ _ us hl => match us, hl with | [_, _], _ => rfl,
    F_law_name_of := funC_mk l_law_name_of q_law_name_of k_law_name_of, g_law_name_of := PySem.W.mg_of X G a_law_name_of, b_law_name_of := (funC_mk (st := s_law_name_of) l_law_name_of q_law_name_of k_law_name_of).F.binds (ps := ["_law_error"]) fun _ _ _ _ _ _ us hl => match us, hl with | [_], _ => rfl,
    F_law_copied := funC_mk l_law_copied q_law_copied k_law_copied, g_law_copied := PySem.W.mg_of X G a_law_copied, b_law_copied := (funC_mk (st := s_law_copied) l_law_copied q_law_copied k_law_copied).F.binds (ps := ["_law_thing"]) fun _ _ _ _ _ _ us hl => match us, hl with | [_], _ => rfl,
    F_law_worth := funC_mk l_law_worth q_law_worth k_law_worth, g_law_worth := PySem.W.mg_of X G a_law_worth, b_law_worth := (funC_mk (st := s_law_worth) l_law_worth q_law_worth k_law_worth).F.binds (ps := ["_law_row", "_law_state_here"]) fun _ _ _ _ _ _ us hl => match us, hl with | [_, _], _ => rfl,
    F_law_led := funC_mk l_law_led q_law_led k_law_led, g_law_led := PySem.W.mg_of X G a_law_led, b_law_led := (funC_mk (st := s_law_led) l_law_led q_law_led k_law_led).F.binds (ps := ["_law_way", "_law_state_here"]) fun _ _ _ _ _ _ us hl => match us, hl with | [_, _], _ => rfl,
    F_law_word := funC_mk l_law_word q_law_word k_law_word, g_law_word := PySem.W.mg_of X G a_law_word, b_law_word := (funC_mk (st := s_law_word) l_law_word q_law_word k_law_word).F.binds (ps := ["_law_loop", "_law_number", "_law_state_here"]) fun _ _ _ _ _ _ us hl => match us, hl with | [_, _, _], _ => rfl,
    F_law_state := funC_mk l_law_state q_law_state k_law_state, g_law_state := PySem.W.mg_of X G a_law_state, b_law_state := (funC_mk (st := s_law_state) l_law_state q_law_state k_law_state).F.binds (ps := ["_law_cell", "_law_many"]) fun _ _ _ _ _ _ us hl => match us, hl with | [_, _], _ => rfl,
    F_law_right := funC_mk l_law_right q_law_right k_law_right, g_law_right := PySem.W.mg_of X G a_law_right, b_law_right := (funC_mk (st := s_law_right) l_law_right q_law_right k_law_right).F.binds (ps := ["_law_loop", "_law_state_here"]) fun _ _ _ _ _ _ us hl => match us, hl with | [_, _], _ => rfl,
    F_law := funC_mk l_law q_law k_law, g_law := PySem.W.mg_of X G a_law, b_law := (funC_mk (st := s_law) l_law q_law k_law).F.binds (ps := ["_law_script"]) fun _ _ _ _ _ _ us hl => match us, hl with | [_], _ => rfl,
    k_FARTHEST := ⟨_, PySem.W.mg_of X G kc_FARTHEST⟩,
    k_MOST_ASKS := ⟨_, PySem.W.mg_of X G kc_MOST_ASKS⟩,
    k_MOST_NAMES := ⟨_, PySem.W.mg_of X G kc_MOST_NAMES⟩,
    k_MOST_WAYS := ⟨_, PySem.W.mg_of X G kc_MOST_WAYS⟩,
    z_ValueError := PySem.W.mg_none_of X G z_ValueError,
    z_all := PySem.W.mg_none_of X G z_all,
    z_bool := PySem.W.mg_none_of X G z_bool,
    z_int := PySem.W.mg_none_of X G z_int,
    z_isinstance := PySem.W.mg_none_of X G z_isinstance,
    z_len := PySem.W.mg_none_of X G z_len,
    z_list := PySem.W.mg_none_of X G z_list,
    z_max := PySem.W.mg_none_of X G z_max,
    z_min := PySem.W.mg_none_of X G z_min,
    z_range := PySem.W.mg_none_of X G z_range,
    z_sum := PySem.W.mg_none_of X G z_sum,
    z_tuple := PySem.W.mg_none_of X G z_tuple,
    z_type := PySem.W.mg_none_of X G z_type,
    z_zip := PySem.W.mg_none_of X G z_zip,
    gx_LoopError := PySem.W.mg_of X G g_LoopError,
    gx_BadLoop := PySem.W.mg_of X G g_BadLoop,
    gx_BadState := PySem.W.mg_of X G g_BadState,
    gx_BadCount := PySem.W.mg_of X G g_BadCount,
    gx_BadGauge := PySem.W.mg_of X G g_BadGauge,
    gx_BadTable := PySem.W.mg_of X G g_BadTable,
    gx_BadText := PySem.W.mg_of X G g_BadText,
    x_BadLoop := xi_BadLoop, kx_BadLoop := xk_BadLoop, ex_BadLoop := xs_BadLoop, tx_BadLoop := xt_BadLoop,
    x_BadState := xi_BadState, kx_BadState := xk_BadState, ex_BadState := xs_BadState, tx_BadState := xt_BadState,
    x_BadCount := xi_BadCount, kx_BadCount := xk_BadCount, ex_BadCount := xs_BadCount, tx_BadCount := xt_BadCount,
    exm := fun n hn => by
      simp only [errs, List.mem_cons, List.not_mem_nil, or_false] at hn; rcases hn with rfl | rfl | rfl
      · exact em_BadLoop
      · exact em_BadState
      · exact em_BadCount,
    exC := fun n hn => by
      simp only [errs, List.mem_cons, List.not_mem_nil, or_false] at hn; rcases hn with rfl | rfl | rfl
      · exact ⟨e1_BadLoop, e2_BadLoop, xs_BadLoop, e3_BadLoop, e4_BadLoop, eg, et, e5_BadLoop⟩
      · exact ⟨e1_BadState, e2_BadState, xs_BadState, e3_BadState, e4_BadState, eg, et, e5_BadState⟩
      · exact ⟨e1_BadCount, e2_BadCount, xs_BadCount, e3_BadCount, e4_BadCount, eg, et, e5_BadCount⟩,
    kit := fun n hn m hm => by
      simp only [errs, List.mem_cons, List.not_mem_nil, or_false] at hn; rcases hn with rfl | rfl | rfl
      · simp only [all6, List.mem_cons, List.not_mem_nil, or_false] at hm; rcases hm with rfl | rfl | rfl | rfl | rfl | rfl
        · exact kt_BadLoop_BadLoop
        · exact kt_BadLoop_BadState
        · exact kt_BadLoop_BadCount
        · exact kt_BadLoop_BadGauge
        · exact kt_BadLoop_BadTable
        · exact kt_BadLoop_BadText
      · simp only [all6, List.mem_cons, List.not_mem_nil, or_false] at hm; rcases hm with rfl | rfl | rfl | rfl | rfl | rfl
        · exact kt_BadState_BadLoop
        · exact kt_BadState_BadState
        · exact kt_BadState_BadCount
        · exact kt_BadState_BadGauge
        · exact kt_BadState_BadTable
        · exact kt_BadState_BadText
      · simp only [all6, List.mem_cons, List.not_mem_nil, or_false] at hm; rcases hm with rfl | rfl | rfl | rfl | rfl | rfl
        · exact kt_BadCount_BadLoop
        · exact kt_BadCount_BadState
        · exact kt_BadCount_BadCount
        · exact kt_BadCount_BadGauge
        · exact kt_BadCount_BadTable
        · exact kt_BadCount_BadText,
    kitV := fun n hn => by
      simp only [errs, List.mem_cons, List.not_mem_nil, or_false] at hn; rcases hn with rfl | rfl | rfl
      · exact kv_BadLoop
      · exact kv_BadState
      · exact kv_BadCount }
  have hE : ∀ p ∈ ([(c_are_wholes, p_are_wholes), (c_is_row, p_is_row), (c_are_rows, p_are_rows), (c_is_loop, p_is_loop), (c_worth, p_worth), (c_may_be_gone, p_may_be_gone)] : List (Addr × Addr)), h.get? p.2 = some { cls := .none, data := .fields #[] } ∧ K.lookup p.2 = none ∧ PySem.W.CodeHd h p.1 p.2 := fun p hp => by
    simp only [List.mem_cons, List.not_mem_nil, or_false] at hp
    rcases hp with rfl | rfl | rfl | rfl | rfl | rfl
    · exact ⟨em "are_wholes" f_are_wholes c_are_wholes p_are_wholes _ _ (by decide +kernel) (PySem.W.mg_of X G a_are_wholes) l_are_wholes rfl rfl (PySem.W.codeHd_of_K X m_hd_are_wholes), m_no_are_wholes, PySem.W.codeHd_of_K X m_hd_are_wholes⟩
    · exact ⟨em "is_row" f_is_row c_is_row p_is_row _ _ (by decide +kernel) (PySem.W.mg_of X G a_is_row) l_is_row rfl rfl (PySem.W.codeHd_of_K X m_hd_is_row), m_no_is_row, PySem.W.codeHd_of_K X m_hd_is_row⟩
    · exact ⟨em "are_rows" f_are_rows c_are_rows p_are_rows _ _ (by decide +kernel) (PySem.W.mg_of X G a_are_rows) l_are_rows rfl rfl (PySem.W.codeHd_of_K X m_hd_are_rows), m_no_are_rows, PySem.W.codeHd_of_K X m_hd_are_rows⟩
    · exact ⟨em "is_loop" f_is_loop c_is_loop p_is_loop _ _ (by decide +kernel) (PySem.W.mg_of X G a_is_loop) l_is_loop rfl rfl (PySem.W.codeHd_of_K X m_hd_is_loop), m_no_is_loop, PySem.W.codeHd_of_K X m_hd_is_loop⟩
    · exact ⟨em "worth" f_worth c_worth p_worth _ _ (by decide +kernel) (PySem.W.mg_of X G a_worth) l_worth rfl rfl (PySem.W.codeHd_of_K X m_hd_worth), m_no_worth, PySem.W.codeHd_of_K X m_hd_worth⟩
    · exact ⟨em "may_be_gone" f_may_be_gone c_may_be_gone p_may_be_gone _ _ (by decide +kernel) (PySem.W.mg_of X G a_may_be_gone) l_may_be_gone rfl rfl (PySem.W.codeHd_of_K X m_hd_may_be_gone), m_no_may_be_gone, PySem.W.codeHd_of_K X m_hd_may_be_gone⟩
  refine ⟨A.fd_law, [(c_are_wholes, p_are_wholes), (c_is_row, p_is_row), (c_are_rows, p_are_rows), (c_is_loop, p_is_loop), (c_worth, p_worth), (c_may_be_gone, p_may_be_gone)], spPN K (tl A) false 1 M_law, fun p hp => (hE p hp).1, fun p hp => (hE p hp).2.1, fun p hp => (hE p hp).2.2, fun s u => .of_eq rfl, fun H a ns _ _ hT hS => law_sp (cs := [(c_are_wholes, p_are_wholes), (c_is_row, p_is_row), (c_are_rows, p_are_rows), (c_is_loop, p_is_loop), (c_worth, p_worth), (c_may_be_gone, p_may_be_gone)]) (fun P hP => ?_) law_eq H a ns hT hS, fun base _ _ TB => ok_law T ⟨tabG_of (TB (c_are_wholes, p_are_wholes) (by simp)), tabG_of (TB (c_is_row, p_is_row) (by simp)), tabG_of (TB (c_are_rows, p_are_rows) (by simp)), tabG_of (TB (c_is_loop, p_is_loop) (by simp)), tabG_of (TB (c_worth, p_worth) (by simp)), tabG_of (TB (c_may_be_gone, p_may_be_gone) (by simp))⟩⟩
  simp only [tl, List.mem_cons, List.not_mem_nil, or_false] at hP
  rcases hP with rfl | rfl | rfl | rfl | rfl | rfl
  · exact ⟨(c_are_wholes, P), by simp, rfl⟩
  · exact ⟨(c_is_row, P), by simp, rfl⟩
  · exact ⟨(c_are_rows, P), by simp, rfl⟩
  · exact ⟨(c_is_loop, P), by simp, rfl⟩
  · exact ⟨(c_worth, P), by simp, rfl⟩
  · exact ⟨(c_may_be_gone, P), by simp, rfl⟩
end K02
open PySem PySem.W PyProof.Rows
set_option maxHeartbeats 0 in
theorem PySem.Challenge.cw_loopgauge_k02_ways_gone_holds : PySem.Challenge.rw_loopgauge_k02_ways_gone.Holds := by
  w_on; o_law; k_head; (case hw => w_witness2)
  k_fill
  refine DN.walkN (l := PySem.Challenge.rw_loopgauge_k02_ways_gone) (n := 63) (k := 13) (x := "_law_script") (CX := fun _ => L2.CX0) rfl (by decide) rfl ⟨by decide, by decide, by decide⟩ (fun w h Y => PySem.W.kIn_of Y) ?F (fun _ _ _ _ _ h => h)
  case F =>
    intro w mg fa h Y KX G hmg em
    refine' K02.all_mk KX G hmg em ?a_is_whole ?l_is_whole ?q_is_whole ?k_is_whole ?a_is_whole_within ?l_is_whole_within ?q_is_whole_within ?k_is_whole_within ?a_is_list_of ?l_is_list_of ?q_is_list_of ?k_is_list_of ?a_are_wholes ?l_are_wholes ?q_are_wholes ?k_are_wholes ?a_is_pair ?l_is_pair ?q_is_pair ?k_is_pair ?a_is_row ?l_is_row ?q_is_row ?k_is_row ?a_are_rows ?l_are_rows ?q_are_rows ?k_are_rows ?a_is_way ?l_is_way ?q_is_way ?k_is_way ?a_is_loop ?l_is_loop ?q_is_loop ?k_is_loop ?a_is_state ?l_is_state ?q_is_state ?k_is_state ?a_need_loop ?l_need_loop ?q_need_loop ?k_need_loop ?a_need_state ?l_need_state ?q_need_state ?k_need_state ?a_need_count ?l_need_count ?q_need_count ?k_need_count ?a_worth ?l_worth ?q_worth ?k_worth ?a_may_be_gone ?l_may_be_gone ?q_may_be_gone ?k_may_be_gone ?a_led_to ?l_led_to ?q_led_to ?k_led_to ?a_after ?l_after ?q_after ?k_after ?a_law_cell_at ?l_law_cell_at ?q_law_cell_at ?k_law_cell_at ?a_law_drawn ?l_law_drawn ?q_law_drawn ?k_law_drawn ?a_law_row_by ?l_law_row_by ?q_law_row_by ?k_law_row_by ?a_law_way_by ?l_law_way_by ?q_law_way_by ?k_law_way_by ?a_law_far ?l_law_far ?q_law_far ?k_law_far ?a_law_loop_by ?l_law_loop_by ?q_law_loop_by ?k_law_loop_by ?a_law_name_of ?l_law_name_of ?q_law_name_of ?k_law_name_of ?a_law_copied ?l_law_copied ?q_law_copied ?k_law_copied ?a_law_worth ?l_law_worth ?q_law_worth ?k_law_worth ?a_law_led ?l_law_led ?q_law_led ?k_law_led ?a_law_word ?l_law_word ?q_law_word ?k_law_word ?a_law_state ?l_law_state ?q_law_state ?k_law_state ?a_law_right ?l_law_right ?q_law_right ?k_law_right ?a_law ?l_law ?q_law ?k_law ?m_lk_are_wholes ?m_at_are_wholes ?m_hd_are_wholes ?m_no_are_wholes ?m_lk_is_row ?m_at_is_row ?m_hd_is_row ?m_no_is_row ?m_lk_are_rows ?m_at_are_rows ?m_hd_are_rows ?m_no_are_rows ?m_lk_is_loop ?m_at_is_loop ?m_hd_is_loop ?m_no_is_loop ?m_lk_worth ?m_at_worth ?m_hd_worth ?m_no_worth ?m_lk_may_be_gone ?m_at_may_be_gone ?m_hd_may_be_gone ?m_no_may_be_gone ?kc_FARTHEST ?kc_MOST_ASKS ?kc_MOST_NAMES ?kc_MOST_WAYS ?z_ValueError ?z_all ?z_bool ?z_int ?z_isinstance ?z_len ?z_list ?z_max ?z_min ?z_range ?z_sum ?z_tuple ?z_type ?z_zip ?g_LoopError ?g_BadLoop ?g_BadState ?g_BadCount ?g_BadGauge ?g_BadTable ?g_BadText ?xi_BadLoop ?xk_BadLoop ?xs_BadLoop ?xt_BadLoop ?e1_BadLoop ?e2_BadLoop ?e3_BadLoop ?e4_BadLoop ?e5_BadLoop ?em_BadLoop ?kt_BadLoop_BadLoop ?kt_BadLoop_BadState ?kt_BadLoop_BadCount ?kt_BadLoop_BadGauge ?kt_BadLoop_BadTable ?kt_BadLoop_BadText ?kv_BadLoop ?xi_BadState ?xk_BadState ?xs_BadState ?xt_BadState ?e1_BadState ?e2_BadState ?e3_BadState ?e4_BadState ?e5_BadState ?em_BadState ?kt_BadState_BadLoop ?kt_BadState_BadState ?kt_BadState_BadCount ?kt_BadState_BadGauge ?kt_BadState_BadTable ?kt_BadState_BadText ?kv_BadState ?xi_BadCount ?xk_BadCount ?xs_BadCount ?xt_BadCount ?e1_BadCount ?e2_BadCount ?e3_BadCount ?e4_BadCount ?e5_BadCount ?em_BadCount ?kt_BadCount_BadLoop ?kt_BadCount_BadState ?kt_BadCount_BadCount ?kt_BadCount_BadGauge ?kt_BadCount_BadTable ?kt_BadCount_BadText ?kv_BadCount ?eg ?et
    (case a_is_whole => k_is)
    (case l_is_whole => k_is)
    (case q_is_whole => k_is)
    (case k_is_whole => k_is)
    (case a_is_whole_within => k_is)
    (case l_is_whole_within => k_is)
    (case q_is_whole_within => k_is)
    (case k_is_whole_within => k_is)
    (case a_is_list_of => k_is)
    (case l_is_list_of => k_is)
    (case q_is_list_of => k_is)
    (case k_is_list_of => k_is)
    (case a_are_wholes => k_is)
    (case l_are_wholes => k_is)
    (case q_are_wholes => k_is)
    (case k_are_wholes => k_is)
    (case a_is_pair => k_is)
    (case l_is_pair => k_is)
    (case q_is_pair => k_is)
    (case k_is_pair => k_is)
    (case a_is_row => k_is)
    (case l_is_row => k_is)
    (case q_is_row => k_is)
    (case k_is_row => k_is)
    (case a_are_rows => k_is)
    (case l_are_rows => k_is)
    (case q_are_rows => k_is)
    (case k_are_rows => k_is)
    (case a_is_way => k_is)
    (case l_is_way => k_is)
    (case q_is_way => k_is)
    (case k_is_way => k_is)
    (case a_is_loop => k_is)
    (case l_is_loop => k_is)
    (case q_is_loop => k_is)
    (case k_is_loop => k_is)
    (case a_is_state => k_is)
    (case l_is_state => k_is)
    (case q_is_state => k_is)
    (case k_is_state => k_is)
    (case a_need_loop => k_is)
    (case l_need_loop => k_is)
    (case q_need_loop => k_is)
    (case k_need_loop => k_is)
    (case a_need_state => k_is)
    (case l_need_state => k_is)
    (case q_need_state => k_is)
    (case k_need_state => k_is)
    (case a_need_count => k_is)
    (case l_need_count => k_is)
    (case q_need_count => k_is)
    (case k_need_count => k_is)
    (case a_worth => k_is)
    (case l_worth => k_is)
    (case q_worth => k_is)
    (case k_worth => k_is)
    (case a_may_be_gone => k_is)
    (case l_may_be_gone => k_is)
    (case q_may_be_gone => k_is)
    (case k_may_be_gone => k_is)
    (case a_led_to => k_is)
    (case l_led_to => k_is)
    (case q_led_to => k_is)
    (case k_led_to => k_is)
    (case a_after => k_is)
    (case l_after => k_is)
    (case q_after => k_is)
    (case k_after => k_is)
    (case a_law_cell_at => k_is)
    (case l_law_cell_at => k_is)
    (case q_law_cell_at => k_is)
    (case k_law_cell_at => k_is)
    (case a_law_drawn => k_is)
    (case l_law_drawn => k_is)
    (case q_law_drawn => k_is)
    (case k_law_drawn => k_is)
    (case a_law_row_by => k_is)
    (case l_law_row_by => k_is)
    (case q_law_row_by => k_is)
    (case k_law_row_by => k_is)
    (case a_law_way_by => k_is)
    (case l_law_way_by => k_is)
    (case q_law_way_by => k_is)
    (case k_law_way_by => k_is)
    (case a_law_far => k_is)
    (case l_law_far => k_is)
    (case q_law_far => k_is)
    (case k_law_far => k_is)
    (case a_law_loop_by => k_is)
    (case l_law_loop_by => k_is)
    (case q_law_loop_by => k_is)
    (case k_law_loop_by => k_is)
    (case a_law_name_of => k_is)
    (case l_law_name_of => k_is)
    (case q_law_name_of => k_is)
    (case k_law_name_of => k_is)
    (case a_law_copied => k_is)
    (case l_law_copied => k_is)
    (case q_law_copied => k_is)
    (case k_law_copied => k_is)
    (case a_law_worth => k_is)
    (case l_law_worth => k_is)
    (case q_law_worth => k_is)
    (case k_law_worth => k_is)
    (case a_law_led => k_is)
    (case l_law_led => k_is)
    (case q_law_led => k_is)
    (case k_law_led => k_is)
    (case a_law_word => k_is)
    (case l_law_word => k_is)
    (case q_law_word => k_is)
    (case k_law_word => k_is)
    (case a_law_state => k_is)
    (case l_law_state => k_is)
    (case q_law_state => k_is)
    (case k_law_state => k_is)
    (case a_law_right => k_is)
    (case l_law_right => k_is)
    (case q_law_right => k_is)
    (case k_law_right => k_is)
    (case a_law => k_is)
    (case l_law => k_is)
    (case q_law => k_is)
    (case k_law => k_is)
    (case m_lk_are_wholes => k_is)
    (case m_at_are_wholes => first | rfl | k_is)
    (case m_hd_are_wholes => first | k_exc | kernel_rfl | rfl | k_is)
    (case m_no_are_wholes => first | k_exc | kernel_rfl | rfl | k_is)
    (case m_lk_is_row => k_is)
    (case m_at_is_row => first | rfl | k_is)
    (case m_hd_is_row => first | k_exc | kernel_rfl | rfl | k_is)
    (case m_no_is_row => first | k_exc | kernel_rfl | rfl | k_is)
    (case m_lk_are_rows => k_is)
    (case m_at_are_rows => first | rfl | k_is)
    (case m_hd_are_rows => first | k_exc | kernel_rfl | rfl | k_is)
    (case m_no_are_rows => first | k_exc | kernel_rfl | rfl | k_is)
    (case m_lk_is_loop => k_is)
    (case m_at_is_loop => first | rfl | k_is)
    (case m_hd_is_loop => first | k_exc | kernel_rfl | rfl | k_is)
    (case m_no_is_loop => first | k_exc | kernel_rfl | rfl | k_is)
    (case m_lk_worth => k_is)
    (case m_at_worth => first | rfl | k_is)
    (case m_hd_worth => first | k_exc | kernel_rfl | rfl | k_is)
    (case m_no_worth => first | k_exc | kernel_rfl | rfl | k_is)
    (case m_lk_may_be_gone => k_is)
    (case m_at_may_be_gone => first | rfl | k_is)
    (case m_hd_may_be_gone => first | k_exc | kernel_rfl | rfl | k_is)
    (case m_no_may_be_gone => first | k_exc | kernel_rfl | rfl | k_is)
    (case kc_FARTHEST => k_is)
    (case kc_MOST_ASKS => k_is)
    (case kc_MOST_NAMES => k_is)
    (case kc_MOST_WAYS => k_is)
    (case z_ValueError => k_is)
    (case z_all => k_is)
    (case z_bool => k_is)
    (case z_int => k_is)
    (case z_isinstance => k_is)
    (case z_len => k_is)
    (case z_list => k_is)
    (case z_max => k_is)
    (case z_min => k_is)
    (case z_range => k_is)
    (case z_sum => k_is)
    (case z_tuple => k_is)
    (case z_type => k_is)
    (case z_zip => k_is)
    (case g_LoopError => k_is)
    (case g_BadLoop => k_is)
    (case g_BadState => k_is)
    (case g_BadCount => k_is)
    (case g_BadGauge => k_is)
    (case g_BadTable => k_is)
    (case g_BadText => k_is)
    (case xi_BadLoop => first | k_exc | kernel_rfl | rfl | k_is)
    (case xk_BadLoop => k_is)
    (case xs_BadLoop => k_is)
    (case xt_BadLoop => k_is)
    (case e1_BadLoop => k_is)
    (case e2_BadLoop => k_is)
    (case e3_BadLoop => k_is)
    (case e4_BadLoop => k_is)
    (case e5_BadLoop => k_is)
    (case em_BadLoop => first | k_exc | kernel_rfl | rfl | k_is)
    (case kt_BadLoop_BadLoop => first | k_exc | kernel_rfl | rfl | k_is)
    (case kt_BadLoop_BadState => first | k_exc | kernel_rfl | rfl | k_is)
    (case kt_BadLoop_BadCount => first | k_exc | kernel_rfl | rfl | k_is)
    (case kt_BadLoop_BadGauge => first | k_exc | kernel_rfl | rfl | k_is)
    (case kt_BadLoop_BadTable => first | k_exc | kernel_rfl | rfl | k_is)
    (case kt_BadLoop_BadText => first | k_exc | kernel_rfl | rfl | k_is)
    (case kv_BadLoop => first | k_exc | kernel_rfl | rfl | k_is)
    (case xi_BadState => first | k_exc | kernel_rfl | rfl | k_is)
    (case xk_BadState => k_is)
    (case xs_BadState => k_is)
    (case xt_BadState => k_is)
    (case e1_BadState => k_is)
    (case e2_BadState => k_is)
    (case e3_BadState => k_is)
    (case e4_BadState => k_is)
    (case e5_BadState => k_is)
    (case em_BadState => first | k_exc | kernel_rfl | rfl | k_is)
    (case kt_BadState_BadLoop => first | k_exc | kernel_rfl | rfl | k_is)
    (case kt_BadState_BadState => first | k_exc | kernel_rfl | rfl | k_is)
    (case kt_BadState_BadCount => first | k_exc | kernel_rfl | rfl | k_is)
    (case kt_BadState_BadGauge => first | k_exc | kernel_rfl | rfl | k_is)
    (case kt_BadState_BadTable => first | k_exc | kernel_rfl | rfl | k_is)
    (case kt_BadState_BadText => first | k_exc | kernel_rfl | rfl | k_is)
    (case kv_BadState => first | k_exc | kernel_rfl | rfl | k_is)
    (case xi_BadCount => first | k_exc | kernel_rfl | rfl | k_is)
    (case xk_BadCount => k_is)
    (case xs_BadCount => k_is)
    (case xt_BadCount => k_is)
    (case e1_BadCount => k_is)
    (case e2_BadCount => k_is)
    (case e3_BadCount => k_is)
    (case e4_BadCount => k_is)
    (case e5_BadCount => k_is)
    (case em_BadCount => first | k_exc | kernel_rfl | rfl | k_is)
    (case kt_BadCount_BadLoop => first | k_exc | kernel_rfl | rfl | k_is)
    (case kt_BadCount_BadState => first | k_exc | kernel_rfl | rfl | k_is)
    (case kt_BadCount_BadCount => first | k_exc | kernel_rfl | rfl | k_is)
    (case kt_BadCount_BadGauge => first | k_exc | kernel_rfl | rfl | k_is)
    (case kt_BadCount_BadTable => first | k_exc | kernel_rfl | rfl | k_is)
    (case kt_BadCount_BadText => first | k_exc | kernel_rfl | rfl | k_is)
    (case kv_BadCount => first | k_exc | kernel_rfl | rfl | k_is)
    (case eg => k_is)
    (case et => k_is)

