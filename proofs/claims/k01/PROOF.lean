import PyProof.Rows.All
import HandS.ForMost
import HandS.AnyAll
import HandS.GenList
import HandS.Zip
import HandS.TupAny
import HandS.Codes
import HandS.Text
import HandS.DictEq
import HandS.Wide
import HandS.IsInst
import HandS.More
import PyProof.StrOps2
import HandS.Iter
import HandS.WordsExc
import HandS.ExcOwn
import HandS.Gcd
import HandS.Style
import HandS.Deep
import HandS.StrMore
import HandS.FStr
import HandS.HotCalls
import HandS.ExcIs
import HandS.EndOwn
import PySem.Challenge.RW_loopgauge_k01_what_is_no_loop
import PySem.Challenge.RW_loopgauge_k01_what_is_no_loop
set_option Elab.async false
set_option linter.all false
set_option maxRecDepth 100000
set_option maxHeartbeats 2000000
/-! all, any, sum of a generator expression over anything that PI serves; its element of any form, calls too. -/
namespace GX
open PySem PySem.Spec PyProof.Rows L2 GxR GenW

/-- the generator's frame running: the names own ++ captured by Ng -/
abbrev gX (X : Cx) (s : Shared) (H : Hp) (env : Env) (Ng : List Str) (fp : List Addr) (pn : List (Addr × Obj)) (A : Around) : Cx :=
  { X with A := A, N := Ng, s_0 := s, H_0 := H, env := env, outer := X.stack, stack := env :: X.stack, ex := fp, fn := fun _ => false, pn := pn, xe := fun _ _ => False }

/-- the scope of a generator expression within a def whose names are N, whose scope is sc: own its targets, caps what it captures with the slots in N -/
structure GScp (N : List Str) (sc scope : Scope) (own : List Str) (caps : List (Str × Nat)) : Prop where
  kind : scope.kind = .function
  co : scope.isCoroutine = false
  cell : ∀ y ∈ scope.names, y.2 ≠ .cell
  dot : scope.names.lookup (".0" : Str) = some NameKind.local
  free : ∀ y ∈ scope.names, y.2 = .free → sc.names.lookup y.1 = some .cell ∨ sc.names.lookup y.1 = some .free
  caps : ∀ p ∈ caps, scope.names.lookup p.1 = some .free ∧ N[p.2]? = some p.1

def capt (σ : L2.St) (n : Nat) (is : List Nat) : L2.St := List.replicate n none ++ is.map fun i => (σ[i]?).getD none
theorem capt_len (σ : L2.St) (n : Nat) (is : List Nat) : (capt σ n is).length = n + is.length := by simp [capt]
theorem capt_some {σ : L2.St} {n : Nat} {is : List Nat} {i : Nat} {v : V} (h : (capt σ n is)[i]? = some (some v)) : ∃ j k, i = n + j ∧ is[j]? = some k ∧ σ[k]? = some (some v) := by
  unfold capt at h
  by_cases hi : i < n
  · rw [List.getElem?_append_left (by simpa using hi), List.getElem?_replicate] at h
    rw [if_pos hi] at h
    cases h
  · rw [List.getElem?_append_right (by simpa using Nat.le_of_not_lt hi)] at h
    simp only [List.length_replicate, List.getElem?_map] at h
    cases e : is[i - n]? with
    | none => rw [e] at h; cases h
    | some k =>
      rw [e] at h
      simp only [Option.map_some, Option.some.injEq] at h
      refine ⟨i - n, k, by omega, e, ?_⟩
      cases q : σ[k]? with
      | none => rw [q] at h; cases h
      | some o => rw [q] at h; exact congrArg some h

theorem inv_gens {X : Cx} {pins : List (Addr × Obj)} {σ : L2.St} {H : Hp} {s : Shared} {g' : Array GenState} (I : Inv X pins σ H s) (hg : AllBare g') : Inv X pins σ H { s with gens := g' } :=
  ⟨I.ok, I.os, hg, I.base, I.loc, I.cell, I.free, I.freeC, I.pin, I.hok, I.len⟩

section
variable {X : Cx} {pins : List (Addr × Obj)} {σ : L2.St} {H : Hp} {s : Shared}
/-- the generator's frame begins -/
theorem gen_start {scope : Scope} {own : List Str} {caps : List (Str × Nat)} {fp : List Addr} {code : Value} {A : Around} {k : Nat} {it : Value} {h' : Heap} {go : Obj} {g' : Array GenState} {tk : Nat} {env : Env}
    (I : Inv X pins σ H s) (ok : GScp X.N X.env.scope scope own caps) (hfp : ∀ b ∈ fp, FpOk X pins H b ∧ b < s.heap.objs.size) (hr : Room k A) (henv : env = genEnv scope (cloFrom X.env.cells scope.names []) s.heap.objs.size code builtinsNs X.env)
    (hfr : A.frames = some (env :: X.stack))
    (hn : h'.Ns s.heap.objs.size (fun y => if y = ".0" then some it else none)) (hs : Heap.SameBut s.heap.objs.size (s.heap.push { cls := .type "frame", data := .dict #[] }) h') (hgo : ∀ v, go.data ≠ .cell v) (hgg : ∀ h : Heap, (h.push go).get? h.objs.size = some go) (hg : AllBare g') :
    Inv (gX X s H env (own ++ caps.map (·.1)) fp [(h'.objs.size, go)] A) [] (capt σ own.length (caps.map (·.2))) H { s with heap := h'.push go, gens := g', toks := tk } := by
  have hfree : ∀ y ∈ scope.names, y.2 = .free → ∃ c, X.env.cells.lookup y.1 = some c := fun y hy e => by
    rcases ok.free y hy e with k | k
    · exact I.ok.has _ (.inl k)
    · exact I.ok.has _ (.inr k)
  have hL : env.locals = s.heap.objs.size := by rw [henv]; rfl
  have hcl : env.cells = cloFrom X.env.cells scope.names [] := by rw [henv]; rfl
  have hsc : env.scope = scope := by rw [henv]; rfl
  have hsz : h'.objs.size = s.heap.objs.size + 1 := by rw [hs.1, Heap.size_push]
  have kp1 : ∀ b o, s.heap.get? b = some o → h'.get? b = some o := fun b o e => (hs.2 b (Nat.ne_of_lt (Heap.lt_size e))).trans (Heap.get?_push_of_some _ e)
  have kp : ∀ b o, s.heap.get? b = some o → (h'.push go).get? b = some o := fun b o e => Heap.get?_push_of_some _ (kp1 b o e)
  have cm : ∀ {y c}, env.cells.lookup y = some c → X.env.cells.lookup y = some c ∧ c < s.heap.objs.size := fun {y c} e => by
    rw [hcl] at e
    rcases cloFrom_mem (PySem.mem_of_lookup e) with hm | ⟨h1, h2⟩
    · cases hm
    · obtain ⟨c', hc⟩ := hfree _ h1 rfl
      rw [h2, hc]
      obtain ⟨w, z⟩ := I.cell _ _ hc
      exact ⟨rfl, z.lt⟩
  have look : ∀ {y}, scope.names.lookup y = some .free → ∃ c, env.cells.lookup y = some c ∧ X.env.cells.lookup y = some c := fun {y} hl => by
    have hy : (y, NameKind.free) ∈ scope.names := PySem.mem_of_lookup hl
    obtain ⟨c', e'⟩ := mem_lookup (cloFrom_has (cells := X.env.cells) (acc := []) hy)
    rw [← hcl] at e'
    exact ⟨c', e', (cm e').1⟩
  have a1 : s.heap.objs.size ≤ h'.objs.size := by omega
  have nst : h'.objs.size ∉ frs X.stack := fun hm => by
    rcases List.mem_cons.mp (I.stkSub _ hm) with z | z
    · exact absurd (Nat.lt_of_lt_of_le I.lt a1) (by rw [z]; exact Nat.lt_irrefl _)
    · exact I.nofs a1 z
  have okB : (gX X s H env (own ++ caps.map (·.1)) fp [(h'.objs.size, go)] A).Ok := by
    refine ⟨I.ok.mod, by show env.scope.kind = _; rw [hsc]; exact ok.kind, by show env.globals = _; rw [henv]; exact I.ok.glob, by show env.builtins = _; rw [henv]; rfl, by show s.heap.objs.size ≤ env.locals; rw [hL]; exact Nat.le_refl _,
      fun y z c e1 e2 => I.ok.inj y z c (cm e1).1 (cm e2).1, fun y hy => ?_, fun y c z e => (by cases z), fun _ => hr.hd, hfr, .inr ⟨rfl, by show env.frame = some env.locals; rw [henv]; rfl⟩,
      fun b hb => ⟨?_, fun y c e => ?_⟩, I.bs, Nat.le_trans I.ok.bsz I.sz, fun b o e hb => ?_, fun b hb z => ?_, I.stack, I.stkFree⟩
    · have hy : env.scope.names.lookup y = some .cell ∨ env.scope.names.lookup y = some .free := hy
      rw [hsc] at hy
      rcases hy with hy | hy
      · exact absurd rfl (ok.cell _ (PySem.mem_of_lookup hy))
      · obtain ⟨c, h1, _⟩ := look hy
        exact ⟨c, h1⟩
    · show b ≠ env.locals
      rw [hL]; exact Nat.ne_of_lt (hfp b hb).2
    · exact (hfp b hb).1.2.2.2.2.1 y c (cm e).1
    · rcases (hfp b hb).1.2.2.2.1 with z | z
      · exact I.ok.noex b o e z
      · exact absurd (Nat.lt_of_lt_of_le (Heap.lt_size e) (Nat.le_trans I.ok.bsz z)) (Nat.lt_irrefl _)
    · rcases List.mem_cons.mp (I.stkSub b z) with z | z
      · exact (hfp b hb).1.2.1 z
      · exact (hfp b hb).1.2.2.1 z
  refine ⟨okB, rfl, hg, Un.kept kp, ⟨fun y => if y = ".0" then some it else none, ?_, fun i y av e1 e2 e3 => ?_⟩, fun y c e => ?_, ?_, fun y c e => I.freeC y c (cm e).1, fun p hp => ?_, I.hok.kept kp, ?_⟩
  · show Heap.Ns _ env.locals _
    rw [hL]
    exact hn.push _
  · obtain ⟨j, kk, rfl, hj, hv⟩ := capt_some e2
    have e1 : (own ++ caps.map (·.1))[own.length + j]? = some y := e1
    rw [List.getElem?_append_right (Nat.le_add_right _ _), Nat.add_sub_cancel_left, List.getElem?_map] at e1
    rw [List.getElem?_map] at hj
    cases q : caps[j]? with
    | none => rw [q] at hj; cases hj
    | some p =>
      rw [q] at e1 hj
      simp only [Option.map_some, Option.some.injEq] at e1 hj
      subst e1 hj
      obtain ⟨c1, c2⟩ := ok.caps p (List.mem_of_getElem? q)
      have hvis : Vis X.env.scope p.1 := (ok.free _ (PySem.mem_of_lookup c1) rfl).elim (fun k => .inr (.inl k)) (fun k => .inr (.inr k))
      obtain ⟨m, hn2, hl⟩ := I.loc
      obtain ⟨u, r, lk⟩ := hl p.2 p.1 av c2 hv hvis
      obtain ⟨c, h1, h2⟩ := look c1
      refine ⟨u, r, .inr ⟨.inr (by show env.scope.names.lookup p.1 = _; rw [hsc]; exact c1), c, h1, ?_⟩⟩
      rcases lk with ⟨k, _⟩ | ⟨_, c', e', z⟩
      · have k : X.env.scope.names.lookup p.1 = some .local := k
        rcases ok.free _ (PySem.mem_of_lookup c1) rfl with k' | k' <;> rw [show X.env.scope.names.lookup p.1 = _ from k'] at k <;> cases k
      · rw [h2] at e'; cases e'
        exact z.keeps kp
  · obtain ⟨w, z⟩ := I.cell y c (cm e).1
    exact ⟨w, z.keeps kp⟩
  · show H env.locals = none
    rw [hL]; exact I.hok.fresh (Nat.le_refl _)
  · have hp' : p ∈ [(h'.objs.size, go)] ++ [] := hp
    rw [List.append_nil] at hp'
    rw [List.mem_singleton.mp hp']
    refine ⟨hgg h', I.hok.fresh a1, ?_, nst, hgo⟩
    show h'.objs.size ≠ env.locals
    rw [hL]; omega
  · show (capt _ _ _).length = (own ++ caps.map (·.1)).length
    rw [capt_len, List.length_append, List.length_map, List.length_map]
end

/-! ### the protocol -/
section
variable {α : Type} (Xg : Cx) (fp : List Addr) (CP : α → List (Addr × Obj) → Prop) (Step : α → V → Hp → (α → Hp → Prop) → Prop) (QT : α → Hp → Prop)
def GYp : Protocol := fun n s₀ v s1 kap => ∃ (a : α) (x : V) (σ1 : L2.St) (H1 : Hp) (cp : List (Addr × Obj)), RelV x v ∧ CP a cp ∧ (∀ p ∈ cp, s₀.heap.get? p.1 = some p.2) ∧ Inv Xg cp σ1 H1 s1 ∧ (∀ b ∈ fp, H1 b = none) ∧
  Step a x H1 fun a' H' => ∀ s' cp', CP a' cp' → Inv Xg cp' σ1 H' s' → (∀ b ∈ fp, H' b = none) → (∀ b ∈ fp, ∀ o, s1.heap.get? b = some o → s'.heap.get? b = some o) → kap (.send .none) s'
def GRp : GenEnd := fun n s₀ r s1 => ((r = .ok (.ret .none) ∨ r = .ok .next) ∧ ∃ (a : α) (σ1 : L2.St) (H1 : Hp) (cp : List (Addr × Obj)), CP a cp ∧ (∀ p ∈ cp, s₀.heap.get? p.1 = some p.2) ∧ Inv Xg cp σ1 H1 s1 ∧ QT a H1) ∨ ∃ e, r = .error e ∧ False
end

section
variable {α : Type} {Xg : Cx} {fp : List Addr} {CP : α → List (Addr × Obj) → Prop} {Step : α → V → Hp → (α → Hp → Prop) → Prop} {QT : α → Hp → Prop}
variable {A : Around} {elt tg iter : Expr} {ifs : List Expr} {scope : Scope} {gpos : Pos} {it : Addr} {tn : Nat → Heap → Prop} {J : It} {σ0 : L2.St} {vs : List Nat} {g : TG} {tt : TT} {te : TE}
variable {W : Nat → Nat → α → Hp → Prop}
theorem seg_gloop (hA : A.over (.compLoop (.GeneratorExp elt [⟨tg, iter, ifs, 0⟩] scope gpos) 0 (.ref it) .none Xg.env) [] = Xg.A) (hco : Xg.env.scope.isCoroutine = false) (hc : Xg.calm = true) (hexe : Xg.xe = fun _ _ => False)
    (hfp : ∀ b ∈ fp, b ∈ Xg.ex) (hpn : ∀ b ∈ fp, ∀ p ∈ Xg.pn, p.1 ≠ b) (hcp : ∀ a cp, CP a cp → ∀ p ∈ cp, p.1 ∉ fp) (hl0 : σ0.length = Xg.N.length)
    (T : Turn Xg.prog Xg.w Xg.K tg J fp it tn) (hg : PG Xg tg g) (ht : PTs Xg ifs tt) (he : PE Xg elt te)
    (mono : ∀ a x H N N', (∀ a' H', N a' H' → N' a' H') → Step a x H N → Step a x H N')
    (turn : ∀ i m a H, W i m a H → (J.stop i H ∧ QT a H) ∨ (J.go i H ∧ ∃ Nx : α → Hp → Prop, (∀ a' H', Nx a' H' → ∃ m', m' < m ∧ W (i + 1) m' a' H') ∧
      ∀ x H', J.yld i H x H' → g x σ0 H' fun σ2 H2 => wipe σ2 vs = σ0 ∧ tt σ2 H2 fun b H3 => if b = true then te σ2 H3 fun y H4 => Step a y H4 Nx else Nx a H3)) :
    ∀ (m n i : Nat) (s₀ s : Shared) (a : α) (H : Hp) (cp : List (Addr × Obj)), m < n → CP a cp → (∀ p ∈ cp, s₀.heap.get? p.1 = some p.2) → Inv Xg cp σ0 H s → tn i s.heap → (∀ b ∈ fp, H b = none) → W i m a H →
      Seg (model Xg.prog Xg.w) A (GRp Xg CP QT) (GYp Xg fp CP Step) n s₀ (.compLoop (.GeneratorExp elt [⟨tg, iter, ifs, 0⟩] scope gpos) 0 (.ref it) .none Xg.env)
        ((model Xg.prog Xg.w).den (.compLoop (.GeneratorExp elt [⟨tg, iter, ifs, 0⟩] scope gpos) 0 (.ref it) .none Xg.env)) [] s := by
  intro m
  induction m using Nat.strongRecOn with
  | ind m ih =>
    intro n i s₀ s a H cp hmn hcpa hs0 I st nf w
    have stat : ∀ {cp' : List (Addr × Obj)} {a' : α} {σ' : L2.St} {H' : Hp} {s' : Shared}, CP a' cp' → Inv Xg cp' σ' H' s' → (∀ b ∈ fp, H' b = none) → ∀ b ∈ fp, FpOk Xg cp' H' b := fun {cp' a' σ' H' s'} hca I' hn b hb =>
      ⟨hn b hb, (I'.ok.exf b (hfp b hb)).1, I'.ok.exfs b (hfp b hb), .inl (hfp b hb), fun x c e => (I'.ok.exf b (hfp b hb)).2 x c e, fun p hp => by
        rcases List.mem_append.mp hp with hp | hp
        · exact hpn b hb p hp
        · exact fun z => hcp a' cp' hca p hp (by rw [z]; exact hb)⟩
    show Seg _ A _ _ _ s₀ _ ((compTurn (.GeneratorExp elt [⟨tg, iter, ifs, 0⟩] scope gpos) 0 (.ref it) .none Xg.env).onRaise (leaving Xg.env)) [] s
    rw [compTurn_gen, Sem.onRaise_eq_wrap]
    refine seg_bind_wrap (wpAny_standAt ?_)
    rcases turn i m a H w with ⟨stop, qt⟩ | ⟨go, Nx, hNx, step⟩
    · refine seg_bind_wrap ?_
      rw [hA]
      refine thn (T.done Xg rfl rfl rfl hc i cp s σ0 H _ I (stat hcpa I nf) st stop) fun r s1 ⟨hr, I1⟩ => ?_
      subst hr
      exact seg_end (.ok .next) (.inl ⟨.inr rfl, a, σ0, H, cp, hcpa, hs0, I1, qt⟩)
    · refine seg_bind_wrap ?_
      rw [hA]
      refine thn (T.item Xg rfl rfl rfl hc i cp s σ0 H _ I (stat hcpa I nf) st go) fun r s1 ⟨u, hr, h1⟩ => ?_
      subst hr
      refine seg_bind_wrap ?_
      rw [hA]
      refine thn h1 fun _ s2 ⟨x, H2, I2, r2, y2, st2, n2⟩ => ?_
      have I2' := I2.pinned (stat hcpa I2 n2) (T.obj _ _ st2)
      refine seg_bind_wrap ?_
      rw [hA]
      refine wpAny_mono (hg.run _ s2 _ H2 x u _ I2' r2 (step x H2 y2)) (fun _ s3 ⟨σ3, H3, I3, hw3, q3⟩ => ?_) fun e s' z => by rw [hexe] at z; exact z.elim
      refine seg_bind_wrap ?_
      rw [hA]
      refine wpAny_mono (ht.run _ s3 σ3 H3 _ I3 q3) (fun b s4 ⟨H4, I4, q4⟩ => ?_) fun e s' z => by rw [hexe] at z; exact z.elim
      have pin' : ∀ {σ' : L2.St} {H' : Hp} {s' : Shared}, Inv Xg (cp ++ pinsAt fp s2.heap) σ' H' s' → ∀ b ∈ fp, ∀ o, s2.heap.get? b = some o → s'.heap.get? b = some o ∧ H' b = none := fun {σ' H' s'} I' b hb o e =>
        let z := I'.pin (b, o) (List.mem_append_right _ (List.mem_append_right _ (mem_pinsAt hb e)))
        ⟨z.1, z.2.1⟩
      have hl : ∀ {σ' : L2.St}, wipe σ' vs = σ0 → σ0.length = σ'.length := fun {σ'} h => by rw [← h, wipe_length]
      cases b with
      | false =>
        simp only [Bool.false_eq_true, if_false] at q4 ⊢
        obtain ⟨m', hm, w'⟩ := hNx a H4 q4
        refine seg_again rfl (ih m' hm n (i + 1) s₀ s4 a H4 cp (by omega) hcpa hs0 (I4.unpinned.weak (hl hw3) fun j v e => ?_) (T.keep _ _ _ st2 fun b hb o e => (pin' I4 b hb o e).1) (fun b hb => ?_) w')
        · rw [← hw3] at e
          exact (wipe_some e).1
        · obtain ⟨o, e, _⟩ := T.obj _ _ st2 b hb
          exact (pin' I4 b hb o e).2
      | true =>
        simp only [if_true] at q4 ⊢
        have hy : ∀ v, yieldOut Xg.env v = yieldValue v := fun v => by simp only [yieldOut, hco, Bool.false_eq_true, if_false]
        simp only [hy]
        obtain ⟨n, rfl⟩ : ∃ n', n = n' + 1 := by
          exact ⟨n - 1, by omega⟩
        rw [Sem.bind_eq_wrap', Sem.bind_eq_wrap', Sem.wrap_wrap, Sem.wrap_wrap]
        refine seg_wrap ?_
        rw [hA]
        refine wpAny_mono (he.run _ s4 σ3 H4 _ I4 q4) (fun y s5 ⟨yv, H5, I5, r5, q5⟩ => ?_) fun e s' z => by rw [hexe] at z; exact z.elim
        refine seg_at (seg_yield rfl rfl rfl ⟨a, yv, σ3, H5, cp, r5, hcpa, hs0, I5.unpinned, (fun b hb => by
          obtain ⟨o, e, _⟩ := T.obj _ _ st2 b hb
          exact (pin' I5 b hb o e).2), mono _ _ _ _ _ (fun a' H' nx s'' cp' hca' I'' hn'' hk'' => ?_) q5⟩)
        obtain ⟨m', hm, w'⟩ := hNx a' H' nx
        refine seg_again rfl (ih m' hm n (i + 1) s'' s'' a' H' cp' (by omega) hca' (fun p hp => (I''.pin p (List.mem_append_right _ hp)).1) (I''.weak (hl hw3) fun j v e => ?_) (T.keep _ _ _ st2 fun b hb o e => hk'' b hb o (pin' I5 b hb o e).1) hn'' w')
        · rw [← hw3] at e
          exact (wipe_some e).1
end

section
variable {α : Type} {Xg : Cx} {fp : List Addr} {CP : α → List (Addr × Obj) → Prop} {Step : α → V → Hp → (α → Hp → Prop) → Prop} {QT : α → Hp → Prop}
variable {A : Around} {elt tg iter : Expr} {ifs : List Expr} {scope : Scope} {gpos : Pos} {it : Addr} {n : Nat} {s₀ s : Shared}
/-- the first turn -/
theorem seg_gstart {R : GenEnd} {Y : Protocol} {M : Model} {env : Env} (hM : M = model Xg.prog Xg.w) (self : ∀ (A : Around) (Q : Value → Shared → Prop) (E : Value → Shared → Prop), Q (.ref it) s → wpAny M A (pyIter (.ref it)) Q E s)
    (loop : Seg M A R Y n s₀ (.compLoop (.GeneratorExp elt [⟨tg, iter, ifs, 0⟩] scope gpos) 0 (.ref it) .none env) (M.den (.compLoop (.GeneratorExp elt [⟨tg, iter, ifs, 0⟩] scope gpos) 0 (.ref it) .none env)) [] s) :
    Seg M A R Y n s₀ (.compStart (.GeneratorExp elt [⟨tg, iter, ifs, 0⟩] scope gpos) 0 (.ref it) .none env) (M.den (.compStart (.GeneratorExp elt [⟨tg, iter, ifs, 0⟩] scope gpos) 0 (.ref it) .none env)) [] s := by
  subst hM
  show Seg _ A _ _ _ s₀ _ ((compStart (.GeneratorExp elt [⟨tg, iter, ifs, 0⟩] scope gpos) 0 (.ref it) .none env).onRaise (leaving env)) [] s
  unfold compStart
  rw [Sem.onRaise_eq_wrap]
  show Seg _ A _ _ _ s₀ _ ((ask >>= _).wrap _ _ _ _) [] s
  refine seg_bind_wrap (wpAny_askSetting ?_)
  split
  · exact seg_again rfl loop
  · first
      | exact seg_bind_wrap (wpAny_rule (seg_bind_wrap (wpAny_standAt (seg_bind_wrap (self _ _ _ (seg_again rfl loop))))))
      | (refine seg_bind_wrap (wpAny_rule ?_); show Seg _ A _ _ _ s₀ _ ((standAt iter.pos >>= _).wrap _ _ _ _) [] s; exact seg_bind_wrap (wpAny_standAt (seg_bind_wrap (self _ _ _ (seg_again rfl loop)))))

/-- the generator at a, its number g, may be asked n times more -/
def Live (Xg : Cx) (fp : List Addr) (CP : α → List (Addr × Obj) → Prop) (Step : α → V → Hp → (α → Hp → Prop) → Prop) (QT : α → Hp → Prop) (B : Around) (a : Addr) (g : Nat) (n : Nat) (s : Shared) : Prop :=
  s.heap.IsGen a g ∧ s.heap.NoLimit ∧ ∃ gs, s.gens[g]? = some gs ∧ gs.Goes (model Xg.prog Xg.w) B (GRp Xg CP QT) (GYp Xg fp CP Step) n (.send .none) (s.setGen g .running)
theorem live_next {B : Around} {a : Addr} {g : Nat} {Q : Option Value → Shared → Prop} {E : Value → Shared → Prop} (hh : B.handled = none) (hroom : B.depth < recursionLimit) (L : Live Xg fp CP Step QT B.in1 a g n s)
    (hend : ∀ s₁ h' acc σ1 H1 cp, CP acc cp → (∀ p ∈ cp, s.heap.get? p.1 = some p.2) → Inv Xg cp σ1 H1 s₁ → QT acc H1 → (∀ b o, s₁.heap.get? b = some o → h'.get? b = some o) → Q none { s₁.setGen g .finished with heap := h' })
    (hyld : ∀ v s₁ gs' acc x σ1 H1 cp, RelV x v → CP acc cp → (∀ p ∈ cp, s.heap.get? p.1 = some p.2) → Inv Xg cp σ1 H1 s₁ → gs'.bare = true → (∀ b ∈ fp, H1 b = none) →
      Step acc x H1 (fun a' H' => ∀ s' cp', CP a' cp' → Inv Xg cp' σ1 H' s' → (∀ b ∈ fp, H' b = none) → (∀ b ∈ fp, ∀ o, s₁.heap.get? b = some o → s'.heap.get? b = some o) → ∃ m, n = m + 1 ∧ gs'.Goes (model Xg.prog Xg.w) B.in1 (GRp Xg CP QT) (GYp Xg fp CP Step) m (.send .none) s') →
      g + 1 ≤ (s₁.setGen g gs').gens.size → Q (some v) (s₁.setGen g gs'))
    (mono : ∀ a x H N N', (∀ a' H', N a' H' → N' a' H') → Step a x H N → Step a x H N') :
    wpAny (model Xg.prog Xg.w) B (pyNext (.ref a)) Q E s := by
  obtain ⟨hg, hl, gs, hgs, hgo⟩ := L
  have hgl : g + 1 ≤ s.gens.size := (Array.getElem?_eq_some_iff.mp hgs).1
  refine wpAny_gsz (n := g + 1) hgl ?_
  refine next_genG (F := fun _ s₀ s1 => ∃ (a : α) (σ1 : L2.St) (H1 : Hp) (cp : List (Addr × Obj)), CP a cp ∧ (∀ p ∈ cp, s₀.heap.get? p.1 = some p.2) ∧ Inv Xg cp σ1 H1 s1 ∧ QT a H1) (Er := fun _ _ => False) (Y := GYp Xg fp CP Step) (n := n) hh hl hroom hg hgs hgo
    (fun v s₁ gs' hb hv => ?_) (fun s₁ hp h' hk => ?_) fun e s₁ he => he.elim
  · obtain ⟨acc, x, σ1, H1, cp, r, hc, h0, I, nf, st⟩ := hv
    intro hsz
    refine hyld v s₁ gs' acc x σ1 H1 cp r hc h0 I hb nf (mono _ _ _ _ _ (fun a' H' hN s' cp' c1 c2 c3 c4 => ?_) st) hsz
    have z := hN s' cp' c1 c2 c3 c4
    cases n with
    | zero => exact False.elim z
    | succ m => exact ⟨m, rfl, z⟩
  · obtain ⟨acc, σ1, H1, cp, hc, h0, I, q⟩ := hp
    intro _
    exact hend s₁ h' acc σ1 H1 cp hc h0 I q hk
end

/-! ### all, any -/
def stAll (QF : Hp → Prop) : Unit → V → Hp → (Unit → Hp → Prop) → Prop := fun _ x H N => ∃ b, x = .bl b ∧ if b = true then N () H else QF H
def stAny (QF : Hp → Prop) : Unit → V → Hp → (Unit → Hp → Prop) → Prop := fun _ x H N => ∃ b, x = .bl b ∧ if b = true then QF H else N () H
def cp0 : Unit → List (Addr × Obj) → Prop := fun _ cp => cp = []
theorem stAll_mono {QF : Hp → Prop} : ∀ a x H N N', (∀ a' H', N a' H' → N' a' H') → stAll QF a x H N → stAll QF a x H N' := fun a x H N N' h ⟨b, e, q⟩ => ⟨b, e, by
  cases b with
  | true => exact h _ _ q
  | false => exact q⟩
theorem stAny_mono {QF : Hp → Prop} : ∀ a x H N N', (∀ a' H', N a' H' → N' a' H') → stAny QF a x H N → stAny QF a x H N' := fun a x H N N' h ⟨b, e, q⟩ => ⟨b, e, by
  cases b with
  | true => exact q
  | false => exact h _ _ q⟩
section
variable {Xg : Cx} {fp : List Addr} {QT QF : Hp → Prop} {B : Around} {a : Addr} {g : Nat} {go : Obj} {R : Result → Shared → Prop}
theorem live_again {Step : Unit → V → Hp → (Unit → Hp → Prop) → Prop} {m : Nat} {s₁ : Shared} {gs' : GenState} {σ1 : L2.St} {H1 : Hp} (hgo : ∀ h : Heap, h.get? a = some go → h.IsGen a g) (hpn : (a, go) ∈ Xg.pn) (I : Inv Xg [] σ1 H1 s₁) (hb : gs'.bare = true) (hsz : g + 1 ≤ (s₁.setGen g gs').gens.size)
    (hG : gs'.Goes (model Xg.prog Xg.w) B (GRp Xg cp0 fun _ => QT) (GYp Xg fp cp0 Step) m (.send .none) ((s₁.setGen g gs').setGen g .running)) : Live Xg fp cp0 Step (fun _ => QT) B a g m (s₁.setGen g gs') := by
  have hsz1 : g < s₁.gens.size := by
    have q : (s₁.setGen g gs').gens.size = s₁.gens.size := setGen_size _ _ _
    omega
  exact ⟨hgo _ (I.pin (a, go) (List.mem_append_left _ hpn)).1, I.nolimit, gs', setGen_at hsz1, hG⟩
theorem code_all (hh : B.handled = none) (hroom : B.depth < recursionLimit) (hgo : ∀ h : Heap, h.get? a = some go → h.IsGen a g) (hpn : (a, go) ∈ Xg.pn)
    (hT : ∀ s₁ h' σ1 H1, Inv Xg [] σ1 H1 s₁ → QT H1 → (∀ b o, s₁.heap.get? b = some o → h'.get? b = some o) → R (.ok (.ret (.bool true))) { s₁.setGen g .finished with heap := h' })
    (hF : ∀ s₁ gs' σ1 H1, Inv Xg [] σ1 H1 s₁ → gs'.bare = true → QF H1 → R (.ok (.ret (.bool false))) (s₁.setGen g gs')) :
    ∀ (n : Nat) (s : Shared), Live Xg fp cp0 (stAll QF) (fun _ => QT) B.in1.in1 a g n s → codeAny (model Xg.prog Xg.w) B (.builtin "all.loop" ⟨[.ref a], []⟩) R s := by
  intro n
  induction n using Nat.strongRecOn with
  | ind n ih =>
    intro s L
    refine codeAny_builtin F.entry_all_loop ?_
    rw [Around.under_plainId F.plain_all_loop _]
    show wpAny _ B.in1 (pyNext (.ref a) >>= _) _ _ s
    refine wpAny_bind (live_next (B := B.in1) hh hroom L (fun s₁ h' acc σ1 H1 cp hc _ I q hk => ?_) (fun v s₁ gs' acc x σ1 H1 cp r hc _ I hb nf st hsz => ?_) stAll_mono)
    · subst hc
      exact wpAny_bind (wpAny_rule (wpAny_pure (hT s₁ h' σ1 H1 I q hk)))
    · subst hc
      obtain ⟨b, rfl, q⟩ := st
      obtain rfl : v = Value.bool b := r
      refine wpAny_bind (wpAny_holding (wpAny_truthy_bool ?_))
      refine wpAny_bind (wpAny_letGo ?_)
      cases b with
      | true =>
        simp only [if_true] at q ⊢
        have I2 : Inv Xg [] σ1 H1 ((s₁.setGen g gs').setGen g .running) := inv_gens (s := s₁) (g' := ((s₁.setGen g gs').setGen g .running).gens) I (allBare_setGen (s := s₁.setGen g gs') (allBare_setGen I.bare hb) rfl)
        obtain ⟨m, rfl, hG⟩ := q _ [] rfl I2 nf fun b _ o e => e
        refine wpAny_pure ⟨plainId_quiet F.plain_all_loop _, ih m (Nat.lt_succ_self m) _ (live_again hgo hpn I hb hsz hG)⟩
      | false =>
        simp only [Bool.false_eq_true, if_false] at q ⊢
        exact wpAny_bind (wpAny_rule (wpAny_pure (hF s₁ gs' σ1 H1 I hb q)))
theorem code_any (hh : B.handled = none) (hroom : B.depth < recursionLimit) (hgo : ∀ h : Heap, h.get? a = some go → h.IsGen a g) (hpn : (a, go) ∈ Xg.pn)
    (hT : ∀ s₁ h' σ1 H1, Inv Xg [] σ1 H1 s₁ → QT H1 → (∀ b o, s₁.heap.get? b = some o → h'.get? b = some o) → R (.ok (.ret (.bool false))) { s₁.setGen g .finished with heap := h' })
    (hF : ∀ s₁ gs' σ1 H1, Inv Xg [] σ1 H1 s₁ → gs'.bare = true → QF H1 → R (.ok (.ret (.bool true))) (s₁.setGen g gs')) :
    ∀ (n : Nat) (s : Shared), Live Xg fp cp0 (stAny QF) (fun _ => QT) B.in1.in1 a g n s → codeAny (model Xg.prog Xg.w) B (.builtin "any.loop" ⟨[.ref a], []⟩) R s := by
  intro n
  induction n using Nat.strongRecOn with
  | ind n ih =>
    intro s L
    refine codeAny_builtin F.entry_any_loop ?_
    rw [Around.under_plainId F.plain_any_loop _]
    show wpAny _ B.in1 (pyNext (.ref a) >>= _) _ _ s
    refine wpAny_bind (live_next (B := B.in1) hh hroom L (fun s₁ h' acc σ1 H1 cp hc _ I q hk => ?_) (fun v s₁ gs' acc x σ1 H1 cp r hc _ I hb nf st hsz => ?_) stAny_mono)
    · subst hc
      exact wpAny_bind (wpAny_rule (wpAny_pure (hT s₁ h' σ1 H1 I q hk)))
    · subst hc
      obtain ⟨b, rfl, q⟩ := st
      obtain rfl : v = Value.bool b := r
      refine wpAny_bind (wpAny_holding (wpAny_truthy_bool ?_))
      refine wpAny_bind (wpAny_letGo ?_)
      cases b with
      | false =>
        simp only [Bool.false_eq_true, if_false] at q ⊢
        have I2 : Inv Xg [] σ1 H1 ((s₁.setGen g gs').setGen g .running) := inv_gens (s := s₁) (g' := ((s₁.setGen g gs').setGen g .running).gens) I (allBare_setGen (s := s₁.setGen g gs') (allBare_setGen I.bare hb) rfl)
        obtain ⟨m, rfl, hG⟩ := q _ [] rfl I2 nf fun b _ o e => e
        refine wpAny_pure ⟨plainId_quiet F.plain_any_loop _, ih m (Nat.lt_succ_self m) _ (live_again hgo hpn I hb hsz hG)⟩
      | true =>
        simp only [if_true] at q ⊢
        exact wpAny_bind (wpAny_rule (wpAny_pure (hF s₁ gs' σ1 H1 I hb q)))
end

/-! ### the generator made -/
section
variable {X : Cx} {pins : List (Addr × Obj)} {σ : L2.St} {H : Hp} {s : Shared}
theorem over_comp {B : Around} {elt tg iter : Expr} {ifs : List Expr} {scope : Scope} {gpos : Pos} {iv : Value} {env : Env} {l : List Env} (hf : B.frames = some l) (b : Bool) :
    let A := B.over (if b then .compStart (.GeneratorExp elt [⟨tg, iter, ifs, 0⟩] scope gpos) 0 iv .none env else .compLoop (.GeneratorExp elt [⟨tg, iter, ifs, 0⟩] scope gpos) 0 iv .none env) []
    A.handled = B.handled ∧ A.frames = some (env :: l) ∧ A.depth = B.depth + 1 ∧ A.units = B.units + 3 := by
  obtain ⟨hd, d, fr, gs, u⟩ := B
  obtain rfl : fr = some l := hf
  cases b <;> refine ⟨rfl, rfl, rfl, rfl⟩
theorem room_over {B : Around} {elt tg iter : Expr} {ifs : List Expr} {scope : Scope} {gpos : Pos} {iv : Value} {env : Env} {l : List Env} {k : Nat} {A : Around} (hr : Room (k + 1) A) (h1 : B.handled = A.handled) (h2 : B.depth = A.depth) (h3 : B.units ≤ A.units + 8) (hf : B.frames = some l) :
    Room k (B.over (.compLoop (.GeneratorExp elt [⟨tg, iter, ifs, 0⟩] scope gpos) 0 iv .none env) []) := by
  obtain ⟨e1, _, e3, e4⟩ := over_comp (elt := elt) (tg := tg) (iter := iter) (ifs := ifs) (scope := scope) (gpos := gpos) (iv := iv) (env := env) hf false
  simp only [Bool.false_eq_true, if_false] at e1 e3 e4
  have d := hr.dp
  have u := hr.un
  exact ⟨by rw [e1, h1]; exact hr.hd, by rw [e3]; omega, by rw [e4]; omega⟩

/-- what a made generator is known to be: J, what it walks; H2, the heap; a its object's place, g its number; Xg its frame's context -/
structure Made (X Xg : Cx) (pins : List (Addr × Obj)) (σ σ0 : L2.St) (B : Around) (fp : List Addr) (J : It) (H2 : Hp) (a : Addr) (go : Obj) (g : Nat) (vs : List Nat) (gt : TG) (tt : TT) (te : TE) (s5 : Shared) : Prop where
  P : Xg.prog = X.prog
  w : Xg.w = X.w
  pn : Xg.pn = [(a, go)]
  gen : ∀ h : Heap, h.get? a = some go → h.IsGen a g
  lt : a < s5.heap.objs.size
  low : Xg.s_0.heap.objs.size ≤ s5.heap.objs.size
  sml : ∀ b ∈ fp, b < s5.heap.objs.size
  inv : Inv Xg [] σ0 H2 s5
  back : ∀ σ' H' s', Inv Xg [] σ' H' s' → Inv X pins σ H' s'
  live : ∀ {α : Type} (CP : α → List (Addr × Obj) → Prop) (Step : α → V → Hp → (α → Hp → Prop) → Prop) (QT : α → Hp → Prop) (W : Nat → Nat → α → Hp → Prop) (m : Nat) (acc : α), (∀ a cp, CP a cp → ∀ p ∈ cp, p.1 ∉ fp) →
    (∀ a x H N N', (∀ a' H', N a' H' → N' a' H') → Step a x H N → Step a x H N') →
    (∀ i m a H, W i m a H → (J.stop i H ∧ QT a H) ∨ (J.go i H ∧ ∃ Nx : α → Hp → Prop, (∀ a' H', Nx a' H' → ∃ m', m' < m ∧ W (i + 1) m' a' H') ∧
      ∀ x H', J.yld i H x H' → gt x σ0 H' fun σ2 H2 => wipe σ2 vs = σ0 ∧ tt σ2 H2 fun b H3 => if b = true then te σ2 H3 fun y H4 => Step a y H4 Nx else Nx a H3)) →
    W 0 m acc H2 → ∀ (s6 : Shared) (cp : List (Addr × Obj)), CP acc cp → Inv Xg cp σ0 H2 s6 → s6.gens = s5.gens → (∀ b o, s5.heap.get? b = some o → s6.heap.get? b = some o) → Live Xg fp CP Step QT B a g (m + 1) s6
theorem gen_mk {elt tg iter : Expr} {ifs : List Expr} {scope : Scope} {gpos : Pos} {own : List Str} {caps : List (Str × Nat)} {wi : TI} {gt : TG} {tt : TT} {te : TE} {k : Nat} {c P : Addr} {B : Around} {RR : It → Hp → Prop} {Q' : Value → Shared → Prop}
    (hc : X.calm = true) (hr : Room (k + 1) X.A) (b1 : B.handled = X.A.handled) (b2 : B.depth = X.A.depth) (b3 : B.units ≤ X.A.units + 8) (b4 : B.frames = X.A.frames) (TB : TabB X.base X.mg c P) (hcode : X.env.code = .ref c) (ok : GScp X.N X.env.scope scope own caps) (hi : PI X tg iter wi)
    (hg : ∀ A s H C cl code fp pn, Room k A → PG (gX X s H (genEnv scope cl C code builtinsNs X.env) (own ++ caps.map (·.1)) fp pn A) tg gt)
    (ht : ∀ A s H C cl code fp pn, Room k A → PTs (gX X s H (genEnv scope cl C code builtinsNs X.env) (own ++ caps.map (·.1)) fp pn A) ifs tt)
    (he : ∀ A s H C cl code fp pn, Room k A → PE (gX X s H (genEnv scope cl C code builtinsNs X.env) (own ++ caps.map (·.1)) fp pn A) elt te)
    (hs : ∀ v, genFold iter X.env v = pure v) (I : Inv X pins σ H s) (h : wi σ H fun J H1 => TabG H1 P ∧ ∀ H2, Tabbed P H1 H2 → RR J H2)
    (hQ : ∀ J H2 Xg fp a go g s5, RR J H2 → Made X Xg pins σ (capt σ own.length (caps.map (·.2))) B fp J H2 a go g (List.range own.length) gt tt te s5 → Q' (.ref a) s5) :
    wpAny (model X.prog X.w) X.A (eval (.GeneratorExp elt [⟨tg, iter, ifs, 0⟩] scope gpos) X.env) Q' X.xe s := by
  have hfree : ∀ y ∈ scope.names, y.2 = .free → ∃ c, X.env.cells.lookup y.1 = some c := fun y hy e => by
    rcases ok.free y hy e with k | k
    · exact I.ok.has _ (.inl k)
    · exact I.ok.has _ (.inr k)
  refine wpAny_GeneratorExp_make ok.co (closure_ok hfree) ok.cell ok.dot ok.kind (by have := hr.dp; omega) ?_ hs
  refine thn (hi.run pins s σ H _ I h) fun xv s1 hx => thn hx fun itv s2 h2 => ?_
  obtain ⟨it, fp, tn, J, H2, e, I2, T, st2, f2, ⟨ps, hP, htr⟩, q2⟩ := h2
  subst e
  have hPs : s2.heap.get? P = some { cls := .none, data := .fields ps } := I2.hok P _ hP
  have cd : PySem.W.CodeHd s2.heap c P := TB.code.keeps I2.bk
  refine ⟨I2.nolimit, ?_⟩
  have sz : ∀ b ∈ fp, b < s2.heap.objs.size := fun b hb => by
    obtain ⟨o, e, _⟩ := T.obj _ _ st2 b hb
    exact Heap.lt_size e
  have nP : ∀ b ∈ fp, b ≠ P := fun b hb z => by
    have q := (f2 b hb).1
    rw [z, hP] at q
    cases q
  have cont : ∀ (code : Value) (h3 : Heap) (tk : Nat) (more : Array Value), Heap.ExtBut P s2.heap h3 → s2.heap.objs.size ≤ h3.objs.size → h3.get? P = some { cls := .none, data := .fields (ps ++ more) } → TriplesOk (ps ++ more).toList →
      wpAny (model X.prog X.w) X.A (builtinsFor X.env.globals X.env.builtins) (fun bi s₄ => ∀ h', h'.Ns s₄.heap.objs.size (fun y => if y = ".0" then some (Value.ref it) else none) → Heap.SameBut s₄.heap.objs.size (s₄.heap.push { cls := .type "frame", data := .dict #[] }) h' →
          Q' (.ref h'.objs.size) { s₄ with
            gens := s₄.gens.push (.fresh (.compStart (.GeneratorExp elt [⟨tg, iter, ifs, 0⟩] scope gpos) 0 (.ref it) .none (genEnv scope (cloFrom X.env.cells scope.names []) s₄.heap.objs.size code bi X.env))),
            toks := s₄.toks + 1 + 1 + 1,
            heap := h'.push { cls := .type "generator", data := .fields #[.int s₄.gens.size 0, .str "<genexpr>" (s₄.toks + 1), .str (X.env.qual ++ "<genexpr>") (s₄.toks + 1 + 1)] } }) X.xe { s2 with heap := h3, toks := tk } := by
    intro code h3 tk more hx hsz hP3 htr3
    obtain ⟨bm, ob, e1, e2, e3, e4, e5, e6, e7, e8⟩ := TB.bm
    have keep3 : ∀ b u, b ≠ P → s2.heap.get? b = some u → h3.get? b = some u := fun b u hb e => hx b u hb e
    refine wpAny_builtinsFor (m := X.mg) (by rw [I2.ok.glob]; exact (I2.mod.glob.keeps I2.bk).extBut hx TB.gP) e1 e2 (keep3 _ _ e4 (I2.bk _ _ e5)) e6 e7 e8 ?_
    intro h' hn' hs'
    have J4 : Inv X pins σ (upd H2 P (.tbl (ps ++ more))) { s2 with heap := h3, toks := tk } := inv_tab (g' := s2.gens) (d' := s2.drawn) I2 hP keep3 hP3 I2.bare
    have hTab : Tabbed P H2 (upd H2 P (.tbl (ps ++ more))) := ⟨⟨_, upd_same, htr3⟩, fun b hb => upd_ne hb⟩
    have f4 : ∀ b ∈ fp, FpOk X pins (upd H2 P (.tbl (ps ++ more))) b ∧ b < h3.objs.size := fun b hb => ⟨⟨by rw [upd_ne (nP b hb)]; exact (f2 b hb).1, (f2 b hb).2⟩, Nat.lt_of_lt_of_le (sz b hb) hsz⟩
    generalize henv : genEnv scope (cloFrom X.env.cells scope.names []) h3.objs.size code builtinsNs X.env = env
    obtain ⟨l, hl⟩ : ∃ l, X.A.frames = some l := ⟨_, I2.ok.frames⟩
    have hl2 : l = X.stack := Option.some.inj (hl.symm.trans I2.ok.frames)
    subst hl2
    have hBf : B.frames = some X.stack := b4.trans hl
    obtain ⟨o1, o2, o3, o4⟩ := over_comp (elt := elt) (tg := tg) (iter := iter) (ifs := ifs) (scope := scope) (gpos := gpos) (iv := .ref it) (env := env) hBf false
    simp only [Bool.false_eq_true, if_false] at o1 o2 o3 o4
    have hRm := room_over (elt := elt) (tg := tg) (iter := iter) (ifs := ifs) (scope := scope) (gpos := gpos) (iv := .ref it) (env := env) hr b1 b2 b3 hBf
    have hgo : ∀ h : Heap, (h.push { cls := .type "generator", data := .fields #[.int s2.gens.size 0, .str "<genexpr>" (tk + 1), .str (X.env.qual ++ "<genexpr>") (tk + 1 + 1)] }).get? h.objs.size = some { cls := .type "generator", data := .fields #[.int s2.gens.size 0, .str "<genexpr>" (tk + 1), .str (X.env.qual ++ "<genexpr>") (tk + 1 + 1)] } := fun h => Heap.get?_push_size _ rfl
    have I5 := gen_start (X := X) (fp := fp) (code := code) (env := env) (g' := s2.gens.push (.fresh (.compStart (.GeneratorExp elt [⟨tg, iter, ifs, 0⟩] scope gpos) 0 (.ref it) .none env))) (tk := tk + 1 + 1 + 1) (it := .ref it)
      (go := { cls := .type "generator", data := .fields #[.int s2.gens.size 0, .str "<genexpr>" (tk + 1), .str (X.env.qual ++ "<genexpr>") (tk + 1 + 1)] }) J4 ok f4 hRm henv.symm o2 hn' hs' (fun v z => by cases z) hgo (AllBare.push I2.bare rfl)
    have pg := fun C cl code fp pn => hg (B.over (.compLoop (.GeneratorExp elt [⟨tg, iter, ifs, 0⟩] scope gpos) 0 (.ref it) .none env) []) { s2 with heap := h3, toks := tk } (upd H2 P (.tbl (ps ++ more))) C cl code fp pn hRm
    have pt := fun C cl code fp pn => ht (B.over (.compLoop (.GeneratorExp elt [⟨tg, iter, ifs, 0⟩] scope gpos) 0 (.ref it) .none env) []) { s2 with heap := h3, toks := tk } (upd H2 P (.tbl (ps ++ more))) C cl code fp pn hRm
    have pe := fun C cl code fp pn => he (B.over (.compLoop (.GeneratorExp elt [⟨tg, iter, ifs, 0⟩] scope gpos) 0 (.ref it) .none env) []) { s2 with heap := h3, toks := tk } (upd H2 P (.tbl (ps ++ more))) C cl code fp pn hRm
    have pg := pg h3.objs.size (cloFrom X.env.cells scope.names []) code fp [(h'.objs.size, { cls := .type "generator", data := .fields #[.int s2.gens.size 0, .str "<genexpr>" (tk + 1), .str (X.env.qual ++ "<genexpr>") (tk + 1 + 1)] })]
    have pt := pt h3.objs.size (cloFrom X.env.cells scope.names []) code fp [(h'.objs.size, { cls := .type "generator", data := .fields #[.int s2.gens.size 0, .str "<genexpr>" (tk + 1), .str (X.env.qual ++ "<genexpr>") (tk + 1 + 1)] })]
    have pe := pe h3.objs.size (cloFrom X.env.cells scope.names []) code fp [(h'.objs.size, { cls := .type "generator", data := .fields #[.int s2.gens.size 0, .str "<genexpr>" (tk + 1), .str (X.env.qual ++ "<genexpr>") (tk + 1 + 1)] })]
    rw [henv] at pg pt pe
    have szh : h'.objs.size = h3.objs.size + 1 := by rw [hs'.1, Heap.size_push]
    have kp : ∀ b o, h3.get? b = some o → h'.get? b = some o := fun b o e => (hs'.2 b (Nat.ne_of_lt (Heap.lt_size e))).trans (Heap.get?_push_of_some _ e)
    have fpk : ∀ b ∈ fp, ∀ o, s2.heap.get? b = some o → h'.get? b = some o := fun b hb o e => kp b o (keep3 b o (nP b hb) e)
    have eenv : env.scope = scope := by rw [← henv]; rfl
    refine hQ J _ (gX X { s2 with heap := h3, toks := tk } (upd H2 P (.tbl (ps ++ more))) env (own ++ caps.map (·.1)) fp [(h'.objs.size, { cls := .type "generator", data := .fields #[.int s2.gens.size 0, .str "<genexpr>" (tk + 1), .str (X.env.qual ++ "<genexpr>") (tk + 1 + 1)] })] (B.over (.compLoop (.GeneratorExp elt [⟨tg, iter, ifs, 0⟩] scope gpos) 0 (.ref it) .none env) [])) fp _ { cls := .type "generator", data := .fields #[.int s2.gens.size 0, .str "<genexpr>" (tk + 1), .str (X.env.qual ++ "<genexpr>") (tk + 1 + 1)] } s2.gens.size _ (q2 _ hTab) ⟨rfl, rfl, rfl, fun h e => ⟨_, _, _, e, rfl, rfl, rfl⟩, ?_, ?_, fun b hb => ?_, I5, fun σ' H' s' I' => ?_, ?_⟩
    · show h'.objs.size < (h'.push _).objs.size
      rw [Heap.size_push]; exact Nat.lt_succ_self _
    · show h3.objs.size ≤ (h'.push _).objs.size
      rw [Heap.size_push]; omega
    · show b < (h'.push _).objs.size
      rw [Heap.size_push, szh]
      exact Nat.lt_succ_of_lt (Nat.lt_succ_of_lt (f4 b hb).2)
    · exact J4.call' (ch := fp) I'.os I'.base I'.hok I'.bare fun b hb => ⟨(f4 b hb).1.2.2.2.1, (f4 b hb).1.2.1, (f4 b hb).1.2.2.2.2.1, (f4 b hb).1.2.2.2.2.2⟩
    · intro α CP Step QT W m acc hcp mono turn w0 s6 cp hca I6 hgens hk6
      have hpin := I6.pin _ (List.mem_append_left _ (List.mem_singleton.mpr rfl))
      refine ⟨⟨_, _, _, hpin.1, rfl, rfl, rfl⟩, I6.nolimit, .fresh (.compStart (.GeneratorExp elt [⟨tg, iter, ifs, 0⟩] scope gpos) 0 (.ref it) .none env), by rw [hgens]; exact Array.getElem?_push_size .., rfl, ?_⟩
      have I7 := inv_gens (g' := (s6.setGen s2.gens.size .running).gens) I6 (allBare_setGen I6.bare rfl)
      refine seg_gstart (Xg := gX X { s2 with heap := h3, toks := tk } (upd H2 P (.tbl (ps ++ more))) env (own ++ caps.map (·.1)) fp _ _) rfl (fun A Q E hq => T.self A 0 _ Q E (T.keep _ _ _ st2 fun b hb o e => hk6 b o (Heap.get?_push_of_some _ (fpk b hb o e))) hq) ?_
      refine seg_gloop (Xg := gX X { s2 with heap := h3, toks := tk } (upd H2 P (.tbl (ps ++ more))) env (own ++ caps.map (·.1)) fp [(h'.objs.size, _)] (B.over (.compLoop (.GeneratorExp elt [⟨tg, iter, ifs, 0⟩] scope gpos) 0 (.ref it) .none env) [])) (W := W) (J := J) (tn := tn) rfl (by show env.scope.isCoroutine = false; rw [eenv]; exact ok.co) hc rfl (fun b hb => hb) (fun b hb p hp => ?_) hcp ?_ T pg pt pe mono turn
        m (m + 1) 0 _ _ acc _ cp (Nat.lt_succ_self m) hca (fun p hp => (I6.pin p (List.mem_append_right _ hp)).1) I7 (T.keep _ _ _ st2 fun b hb o e => hk6 b o (Heap.get?_push_of_some _ (fpk b hb o e))) (fun b hb => (f4 b hb).1.1) w0
      · rw [List.mem_singleton.mp hp]
        have h1 := (f4 b hb).2
        intro z
        have z' : h'.objs.size = b := z
        exact absurd (Nat.lt_trans h1 (show h3.objs.size < b by rw [← z', szh]; exact Nat.lt_succ_self _)) (Nat.lt_irrefl _)
      · show (capt _ _ _).length = (own ++ caps.map (·.1)).length
        rw [capt_len, List.length_append, List.length_map, List.length_map]
  cases hf : codeAmong gpos ps.toList with
  | none =>
    refine wpAny_genexprCodeX hcode (cd.code hPs htr) (cd.tab hPs) hf fun c' h' tk hx hge hlt hco' _ htab' _ => ?_
    obtain ⟨o1, vs, f1, tf, fl, tg, inF, tx, tt, op, _, _, _, _, _, _, _, _, _, htr', _⟩ := hco'
    exact cont _ h' tk _ hx (Nat.le_trans hge (Nat.le_of_lt hlt)) htab'.2 htr'
  | some cv =>
    refine wpAny_genexprCode_hit hcode (cd.code hPs htr) hf ?_
    exact cont cv s2.heap s2.toks #[] (Heap.ExtBut.refl _ _) (Nat.le_refl _) (by simpa using hPs) (by simpa using htr)
end
end GX

set_option Elab.async false
set_option linter.all false
set_option maxRecDepth 100000
set_option maxHeartbeats 2000000
namespace GX
open PySem PySem.Spec PyProof.Rows L2 GxR GenW
section
variable {X : Cx} {elt tg iter : Expr} {ifs : List Expr} {scope : Scope} {p pos gpos : Pos} {own : List Str} {caps : List (Str × Nat)} {wi : TI} {gt : TG} {tt : TT} {te : TE} {k : Nat} {c P : Addr}
/-- a turn of a generator that goes on by Nx or ends the whole -/
def tGen {α : Type} (P : Addr) (wi : TI) (gt : TG) (tt : TT) (te : TE) (n : Nat) (is : List Nat) (acc : α) (Step : VK → α → V → Hp → (α → Hp → Prop) → Prop) (QT : VK → α → Hp → Prop) : TE := fun σ H Q => wi σ H fun J H1 => TabG H1 P ∧ ∀ H2, Tabbed P H1 H2 →
  ∃ W : Nat → Nat → α → Hp → Prop, (∃ m, W 0 m acc H2) ∧ ∀ i m a H, W i m a H → (J.stop i H ∧ QT Q a H) ∨ (J.go i H ∧ ∃ Nx : α → Hp → Prop, (∀ a' H', Nx a' H' → ∃ m', m' < m ∧ W (i + 1) m' a' H') ∧
    ∀ x H', J.yld i H x H' → gt x (capt σ n is) H' fun σ2 H2 => wipe σ2 (List.range n) = capt σ n is ∧ tt σ2 H2 fun b H3 => if b = true then te σ2 H3 fun y H4 => Step Q a y H4 Nx else Nx a H3)
def tAll (P : Addr) (wi : TI) (gt : TG) (tt : TT) (te : TE) (n : Nat) (is : List Nat) : TE := tGen P wi gt tt te n is () (fun Q => stAll fun H => Q (.bl false) H) (fun Q _ H => Q (.bl true) H)
def tAny (P : Addr) (wi : TI) (gt : TG) (tt : TT) (te : TE) (n : Nat) (is : List Nat) : TE := tGen P wi gt tt te n is () (fun Q => stAny fun H => Q (.bl true) H) (fun Q _ H => Q (.bl false) H)
theorem fin_back {Xg : Cx} {pins : List (Addr × Obj)} {σ σ' : L2.St} {H' : Hp} {s₁ : Shared} {g : Nat} {x : GenState} {h' : Heap} (back : ∀ σ' H' s', Inv Xg [] σ' H' s' → Inv X pins σ H' s') (I : Inv Xg [] σ' H' s₁) (hx : x.bare = true) (hk : ∀ b o, s₁.heap.get? b = some o → h'.get? b = some o) :
    Inv X pins σ H' { s₁.setGen g x with heap := h' } := by
  have J := back σ' H' _ (inv_gens (s := s₁) (g' := (s₁.setGen g x).gens) I (allBare_setGen I.bare hx))
  exact J.kept (t' := s₁.toks) hk
theorem pe_all (hc : X.calm = true) (hr : Room (k + 1) X.A) (hg : Gl X "all") (hm : X.mg "all" = none) (TB : TabB X.base X.mg c P) (hcode : X.env.code = .ref c) (ok : GScp X.N X.env.scope scope own caps) (hi : PI X tg iter wi)
    (hgt : ∀ A s H C cl code fp pn, Room k A → PG (gX X s H (genEnv scope cl C code builtinsNs X.env) (own ++ caps.map (·.1)) fp pn A) tg gt)
    (htt : ∀ A s H C cl code fp pn, Room k A → PTs (gX X s H (genEnv scope cl C code builtinsNs X.env) (own ++ caps.map (·.1)) fp pn A) ifs tt)
    (hte : ∀ A s H C cl code fp pn, Room k A → PE (gX X s H (genEnv scope cl C code builtinsNs X.env) (own ++ caps.map (·.1)) fp pn A) elt te)
    (hs : ∀ v, genFold iter X.env v = pure v := by intro _; rfl)
    (he : starEach [.GeneratorExp elt [⟨tg, iter, ifs, 0⟩] scope gpos] X.env = (false, eval (.GeneratorExp elt [⟨tg, iter, ifs, 0⟩] scope gpos) X.env) :: starEach [] X.env := by rfl) :
    PE X (.Call (.Name "all" p) [.GeneratorExp elt [⟨tg, iter, ifs, 0⟩] scope gpos] [] pos) (tAll P wi gt tt te own.length (caps.map (·.2))) := by
  refine ⟨fun pins s σ H Q I h => ?_⟩
  refine wpAny_Call_Name_kw (ld_blt I hg hm boot_all ?_)
  refine PyProof.Rows.callWith_builtin1 ?_ he (by rfl)
  rw [he]
  show wpAny _ _ (spliced ((false, eval (.GeneratorExp elt [⟨tg, iter, ifs, 0⟩] scope gpos) X.env) :: backTo pos (starEach [] X.env))) _ _ s
  refine Calls.spliced_cons (gen_mk (B := X.A.in1.in1) hc hr rfl rfl (by show X.A.units + 1 + 1 ≤ _; omega) rfl TB hcode ok hi hgt htt hte hs I h fun J H2 Xg fp a go g s5 hR M => ?_)
  obtain ⟨W, ⟨m, w0⟩, turn⟩ := hR
  refine Calls.spliced_nil ?_
  refine call_function_tree F.kind_all F.plain_all F.entry_all (F.args_all1 _) ?_
  unfold Builtin.«all»
  refine wpAny_bind (m := oneArg "all" _) (wpAny_pure ?_)
  have hgen := M.gen s5.heap (M.inv.pin (a, go) (List.mem_append_left _ (by rw [M.pn]; exact List.mem_singleton.mpr rfl))).1
  refine wpAny_bind (wpAny_pyIter_gen hgen ?_)
  refine wpAny_pure ⟨plainId_quiet F.plain_all_loop _, ?_⟩
  have L := M.live (α := Unit) cp0 (stAll fun H => Q (.bl false) H) (fun _ H => Q (.bl true) H) W m () (fun a cp hcp p hp => by rw [hcp] at hp; cases hp) stAll_mono turn w0 s5 [] rfl M.inv rfl fun _ _ e => e
  have e1 := M.P
  have e2 := M.w
  have z := code_all (Xg := Xg) (fp := fp) (QT := fun H => Q (.bl true) H) (QF := fun H => Q (.bl false) H) (B := X.A) (go := go) (R := fun r s' => ∃ u, r = .ok (.ret u) ∧ EP X pins σ Q u s') hr.hd (by have := hr.dp; omega) M.gen (by rw [M.pn]; exact List.mem_singleton.mpr rfl)
    (fun s₁ h' σ1 H1 I1 q hk => ⟨_, rfl, .bl true, H1, fin_back M.back I1 rfl hk, rfl, q⟩) (fun s₁ gs' σ1 H1 I1 hb q => ⟨_, rfl, .bl false, H1, fin_back (h' := s₁.heap) M.back I1 hb fun _ _ e => e, rfl, q⟩) (m + 1) s5 L
  rw [e1, e2] at z
  refine codeAny_mono z fun r s' ⟨u, hu, q⟩ => ?_
  subst hu
  exact q
theorem pe_any (hc : X.calm = true) (hr : Room (k + 1) X.A) (hg : Gl X "any") (hm : X.mg "any" = none) (TB : TabB X.base X.mg c P) (hcode : X.env.code = .ref c) (ok : GScp X.N X.env.scope scope own caps) (hi : PI X tg iter wi)
    (hgt : ∀ A s H C cl code fp pn, Room k A → PG (gX X s H (genEnv scope cl C code builtinsNs X.env) (own ++ caps.map (·.1)) fp pn A) tg gt)
    (htt : ∀ A s H C cl code fp pn, Room k A → PTs (gX X s H (genEnv scope cl C code builtinsNs X.env) (own ++ caps.map (·.1)) fp pn A) ifs tt)
    (hte : ∀ A s H C cl code fp pn, Room k A → PE (gX X s H (genEnv scope cl C code builtinsNs X.env) (own ++ caps.map (·.1)) fp pn A) elt te)
    (hs : ∀ v, genFold iter X.env v = pure v := by intro _; rfl)
    (he : starEach [.GeneratorExp elt [⟨tg, iter, ifs, 0⟩] scope gpos] X.env = (false, eval (.GeneratorExp elt [⟨tg, iter, ifs, 0⟩] scope gpos) X.env) :: starEach [] X.env := by rfl) :
    PE X (.Call (.Name "any" p) [.GeneratorExp elt [⟨tg, iter, ifs, 0⟩] scope gpos] [] pos) (tAny P wi gt tt te own.length (caps.map (·.2))) := by
  refine ⟨fun pins s σ H Q I h => ?_⟩
  refine wpAny_Call_Name_kw (ld_blt I hg hm boot_any ?_)
  refine PyProof.Rows.callWith_builtin1 ?_ he (by rfl)
  rw [he]
  show wpAny _ _ (spliced ((false, eval (.GeneratorExp elt [⟨tg, iter, ifs, 0⟩] scope gpos) X.env) :: backTo pos (starEach [] X.env))) _ _ s
  refine Calls.spliced_cons (gen_mk (B := X.A.in1.in1) hc hr rfl rfl (by show X.A.units + 1 + 1 ≤ _; omega) rfl TB hcode ok hi hgt htt hte hs I h fun J H2 Xg fp a go g s5 hR M => ?_)
  obtain ⟨W, ⟨m, w0⟩, turn⟩ := hR
  refine Calls.spliced_nil ?_
  refine call_function_tree F.kind_any F.plain_any F.entry_any (F.args_any1 _) ?_
  unfold Builtin.«any»
  refine wpAny_bind (m := oneArg "any" _) (wpAny_pure ?_)
  have hgen := M.gen s5.heap (M.inv.pin (a, go) (List.mem_append_left _ (by rw [M.pn]; exact List.mem_singleton.mpr rfl))).1
  refine wpAny_bind (wpAny_pyIter_gen hgen ?_)
  refine wpAny_pure ⟨plainId_quiet F.plain_any_loop _, ?_⟩
  have L := M.live (α := Unit) cp0 (stAny fun H => Q (.bl true) H) (fun _ H => Q (.bl false) H) W m () (fun a cp hcp p hp => by rw [hcp] at hp; cases hp) stAny_mono turn w0 s5 [] rfl M.inv rfl fun _ _ e => e
  have e1 := M.P
  have e2 := M.w
  have z := code_any (Xg := Xg) (fp := fp) (QT := fun H => Q (.bl false) H) (QF := fun H => Q (.bl true) H) (B := X.A) (go := go) (R := fun r s' => ∃ u, r = .ok (.ret u) ∧ EP X pins σ Q u s') hr.hd (by have := hr.dp; omega) M.gen (by rw [M.pn]; exact List.mem_singleton.mpr rfl)
    (fun s₁ h' σ1 H1 I1 q hk => ⟨_, rfl, .bl false, H1, fin_back M.back I1 rfl hk, rfl, q⟩) (fun s₁ gs' σ1 H1 I1 hb q => ⟨_, rfl, .bl true, H1, fin_back (h' := s₁.heap) M.back I1 hb fun _ _ e => e, rfl, q⟩) (m + 1) s5 L
  rw [e1, e2] at z
  refine codeAny_mono z fun r s' ⟨u, hu, q⟩ => ?_
  subst hu
  exact q
end
end GX

set_option Elab.async false
set_option linter.all false
set_option maxRecDepth 100000
set_option maxHeartbeats 2000000
namespace GX
open PySem PySem.Spec PyProof.Rows L2 GxR GenW
/-! ### sum -/
def stSum : Int → V → Hp → (Int → Hp → Prop) → Prop := fun acc x H N => ∃ k, x = .int k ∧ N (acc + k) H
theorem stSum_mono : ∀ a x H N N', (∀ a' H', N a' H' → N' a' H') → stSum a x H N → stSum a x H N' := fun a x H N N' h ⟨k, e, q⟩ => ⟨k, e, h _ _ q⟩
abbrev heldObj (acc : Int) (t : Tok) (c : Nat) : Obj := { cls := .type "list", dict := none, data := .seq #[.int acc t] c, slots := #[] }
def cpS (S : Addr) : Int → List (Addr × Obj) → Prop := fun acc cp => ∃ t c, cp = [(S, heldObj acc t c)]
theorem inv_repin {X : Cx} {σ : L2.St} {H : Hp} {s : Shared} {S : Addr} {o1 o2 : Obj} {h' : Heap} {t' : Nat} (I : Inv X [(S, o1)] σ H s) (h0 : X.s_0.heap.objs.size ≤ S) (hpn : ∀ p ∈ X.pn, p.1 ≠ S) (keep : ∀ b o, b ≠ S → s.heap.get? b = some o → h'.get? b = some o)
    (hS : h'.get? S = some o2) (hd : ∀ v, o2.data ≠ .cell v) : Inv X [(S, o2)] σ H { s with heap := h', toks := t' } := by
  obtain ⟨e1, e2, e3, e4, e5⟩ := I.pin (S, o1) (List.mem_append_right _ (List.mem_singleton.mpr rfl))
  have I0 : Inv X [] σ H s := I.pins_of fun p hp => by cases hp
  have I1 : Inv X [] σ H { s with heap := h', toks := t' } := I0.turned (it := S) keep e2 e3 (.inr h0) (fun x c e z => by
    obtain ⟨v, o, ho, hd'⟩ := I.cell x c e
    rw [z, e1] at ho
    cases ho
    exact e5 _ hd') fun p hp => by
      rw [List.append_nil] at hp
      exact hpn p hp
  exact I1.pins_of fun p hp => by
    rw [List.mem_singleton.mp hp]
    exact ⟨hS, e2, e3, e4, hd⟩
section
variable {Xg : Cx} {fp : List Addr} {QT : Int → Hp → Prop} {B : Around} {a S : Addr} {g : Nat} {go : Obj} {R : Result → Shared → Prop}
theorem code_sum (hh : B.handled = none) (hroom : B.depth < recursionLimit) (hgo : ∀ h : Heap, h.get? a = some go → h.IsGen a g) (hpn : Xg.pn = [(a, go)]) (hSa : a ≠ S) (hSf : S ∉ fp) (h0 : Xg.s_0.heap.objs.size ≤ S)
    (hT : ∀ s₁ h' acc σ1 H1 t, Inv Xg [] σ1 H1 s₁ → QT acc H1 → (∀ b o, s₁.heap.get? b = some o → h'.get? b = some o) → R (.ok (.ret (.int acc t))) { s₁.setGen g .finished with heap := h' }) :
    ∀ (n : Nat) (acc : Int) (t : Tok) (c : Nat) (st : Int) (s : Shared), (st = 0 ∨ st = 2) → s.heap.get? S = some (heldObj acc t c) → Live Xg fp (cpS S) stSum QT B.in1.in1 a g n s → codeAny (model Xg.prog Xg.w) B (.builtin "sum.loop" ⟨[.ref a, .ref S, rawInt st, rawInt 0], []⟩) R s := by
  intro n
  induction n using Nat.strongRecOn with
  | ind n ih =>
    intro acc t c st s hst2 hS L
    refine codeAny_builtin F.entry_sum_loop ?_
    rw [Around.under_plainId F.plain_sum_loop _]
    show wpAny _ B.in1 (seqItems? (.ref S) >>= _) _ _ s
    refine wpAny_bind (wpAny_seqItems hS rfl ?_)
    show wpAny _ B.in1 (tryCatch (pyNext (.ref a)) _ >>= _) _ _ s
    refine wpAny_bind (wpAny_tryCatch (live_next (B := B.in1) hh hroom L (fun s₁ h' acc' σ1 H1 cp hc hp I q hk => ?_) (fun v s₁ gs' acc' x σ1 H1 cp r hc hp I hb nf stp hsz => ?_) stSum_mono))
    · obtain ⟨t', c', rfl⟩ := hc
      have e := hp (S, heldObj acc' t' c') (List.mem_singleton.mpr rfl)
      have e : s.heap.get? S = some (heldObj acc' t' c') := e
      rw [hS] at e
      cases e
      exact wpAny_pure (hT s₁ h' acc σ1 H1 t (I.pins_of fun p hp => by cases hp) q hk)
    · obtain ⟨t', c', rfl⟩ := hc
      have e := hp (S, heldObj acc' t' c') (List.mem_singleton.mpr rfl)
      have e : s.heap.get? S = some (heldObj acc' t' c') := e
      rw [hS] at e
      cases e
      obtain ⟨k, rfl, hN⟩ := stp
      obtain ⟨tv, rfl⟩ := _root_.id r
      have hS' : s₁.heap.get? S = some (heldObj acc t c) := (I.pin (S, heldObj acc t c) (List.mem_append_right _ (List.mem_singleton.mpr rfl))).1
      have pnS : ∀ p ∈ Xg.pn, p.1 ≠ S := fun p hp => by
        rw [hpn] at hp
        rw [List.mem_singleton.mp hp]
        exact hSa
      -- the next turn, from any heap in which S alone has changed
      have next : ∀ (h2 : Heap) (tk2 : Nat) (t2 : Tok) (c2 : Nat), (∀ b o, b ≠ S → s₁.heap.get? b = some o → h2.get? b = some o) → h2.get? S = some (heldObj (acc + k) t2 c2) → ∃ m, n = m + 1 ∧ Live Xg fp (cpS S) stSum QT B.in1.in1 a g m { s₁.setGen g gs' with heap := h2, toks := tk2 } := fun h2 tk2 t2 c2 hk2 hS2 => by
        have I2 : Inv Xg [(S, heldObj (acc + k) t2 c2)] σ1 H1 { s₁ with heap := h2, toks := tk2 } := inv_repin I h0 pnS hk2 hS2 (fun v q => by cases q)
        have I3 : Inv Xg [(S, heldObj (acc + k) t2 c2)] σ1 H1 (({ s₁.setGen g gs' with heap := h2, toks := tk2 } : Shared).setGen g .running) := inv_gens (s := { s₁ with heap := h2, toks := tk2 }) (g' := ((s₁.setGen g gs').setGen g .running).gens) I2 (allBare_setGen (s := s₁.setGen g gs') (allBare_setGen I.bare hb) rfl)
        obtain ⟨m, hm, hG⟩ := hN _ _ ⟨t2, c2, rfl⟩ I3 nf fun b hbf o e => hk2 b o (fun z => hSf (by rw [← z]; exact hbf)) e
        have hsz1 : g < s₁.gens.size := by
          have q : (s₁.setGen g gs').gens.size = s₁.gens.size := setGen_size _ _ _
          omega
        exact ⟨m, hm, hgo _ (I2.pin (a, go) (List.mem_append_left _ (by rw [hpn]; exact List.mem_singleton.mpr rfl))).1, I2.nolimit, gs', setGen_at (s := s₁) hsz1, hG⟩
      rcases hst2 with rfl | rfl
      · show wpAny _ B.in1 (if (_ : Bool) = true then (mkInt (acc + k) >>= _) else _) _ _ _
        split
        · refine wpAny_bind (wpAny_mkInt ?_)
          refine wpAny_bind ?_
          have hk2 : ∀ b o, b ≠ S → s₁.heap.get? b = some o → (s₁.heap.update S (Obj.mapSeq fun _ => #[Value.int (acc + k) s₁.toks])).get? b = some o := fun b o hb e => (Heap.get?_update_other _ _ (Ne.symm hb)).trans e
          obtain ⟨m, hm, hL⟩ := next _ (s₁.toks + 1) s₁.toks _ hk2 (Heap.get?_update_self (Obj.mapSeq fun _ => #[Value.int (acc + k) s₁.toks]) hS' rfl)
          refine wpAny_updateSeq (s := { s₁.setGen g gs' with toks := s₁.toks + 1 }) hS' rfl (wpAny_pure ⟨plainId_quiet F.plain_sum_loop _, ?_⟩)
          exact ih m (by omega) (acc + k) s₁.toks _ 0 _ (.inl rfl) (Heap.get?_update_self (Obj.mapSeq fun _ => #[Value.int (acc + k) s₁.toks]) hS' rfl) hL
        · refine wpAny_bind (wpAny_rule ?_)
          refine wpAny_bind (wpAny_attempt (wpAny_holding (wpAny_add_int ?_)))
          refine wpAny_bind (wpAny_updateSeq (s := { s₁.setGen g gs' with toks := s₁.toks + 1 }) hS' rfl ?_)
          have hS₂ := Heap.get?_update_self (Obj.mapSeq fun _ => #[Value.int (acc + k) s₁.toks]) hS' rfl
          refine wpAny_bind (wpAny_letGo ?_)
          have hk2 : ∀ b o, b ≠ S → s₁.heap.get? b = some o → ((s₁.heap.update S (Obj.mapSeq fun _ => #[Value.int (acc + k) s₁.toks])).update S (Obj.mapSeq fun _ => #[Value.int (acc + k) s₁.toks])).get? b = some o := fun b o hb e => (Heap.get?_update_other _ _ (Ne.symm hb)).trans ((Heap.get?_update_other _ _ (Ne.symm hb)).trans e)
          obtain ⟨m, hm, hL⟩ := next _ (s₁.toks + 1) s₁.toks _ hk2 (Heap.get?_update_self (Obj.mapSeq fun _ => #[Value.int (acc + k) s₁.toks]) hS₂ rfl)
          refine wpAny_bind (wpAny_updateSeq hS₂ rfl (wpAny_pure ⟨plainId_quiet F.plain_sum_loop _, ?_⟩))
          exact ih m (by omega) (acc + k) s₁.toks _ 2 _ (.inr rfl) (Heap.get?_update_self (Obj.mapSeq fun _ => #[Value.int (acc + k) s₁.toks]) hS₂ rfl) hL
      · show wpAny _ B.in1 ((holding [Value.int k tv] (binaryOp .Add (.int acc t) (.int k tv))).attempt >>= _) _ _ _
        refine wpAny_bind (wpAny_attempt (wpAny_holding (wpAny_add_int ?_)))
        refine wpAny_bind (wpAny_updateSeq (s := { s₁.setGen g gs' with toks := s₁.toks + 1 }) hS' rfl ?_)
        have hS₂ := Heap.get?_update_self (Obj.mapSeq fun _ => #[Value.int (acc + k) s₁.toks]) hS' rfl
        refine wpAny_bind (wpAny_letGo ?_)
        have hk2 : ∀ b o, b ≠ S → s₁.heap.get? b = some o → ((s₁.heap.update S (Obj.mapSeq fun _ => #[Value.int (acc + k) s₁.toks])).update S (Obj.mapSeq fun _ => #[Value.int (acc + k) s₁.toks])).get? b = some o := fun b o hb e => (Heap.get?_update_other _ _ (Ne.symm hb)).trans ((Heap.get?_update_other _ _ (Ne.symm hb)).trans e)
        obtain ⟨m, hm, hL⟩ := next _ (s₁.toks + 1) s₁.toks _ hk2 (Heap.get?_update_self (Obj.mapSeq fun _ => #[Value.int (acc + k) s₁.toks]) hS₂ rfl)
        refine wpAny_bind (wpAny_updateSeq hS₂ rfl (wpAny_pure ⟨plainId_quiet F.plain_sum_loop _, ?_⟩))
        exact ih m (by omega) (acc + k) s₁.toks _ 2 _ (.inr rfl) (Heap.get?_update_self (Obj.mapSeq fun _ => #[Value.int (acc + k) s₁.toks]) hS₂ rfl) hL
end
section
variable {X : Cx} {elt tg iter : Expr} {ifs : List Expr} {scope : Scope} {p pos gpos : Pos} {own : List Str} {caps : List (Str × Nat)} {wi : TI} {gt : TG} {tt : TT} {te : TE} {k : Nat} {c P : Addr}
def tSum (P : Addr) (wi : TI) (gt : TG) (tt : TT) (te : TE) (n : Nat) (is : List Nat) : TE := tGen P wi gt tt te n is (0 : Int) (fun _ => stSum) (fun Q acc H => Q (.int acc) H)
theorem pe_sum (hc : X.calm = true) (hr : Room (k + 1) X.A) (hg : Gl X "sum") (hm : X.mg "sum" = none) (TB : TabB X.base X.mg c P) (hcode : X.env.code = .ref c) (ok : GScp X.N X.env.scope scope own caps) (hi : PI X tg iter wi)
    (hgt : ∀ A s H C cl code fp pn, Room k A → PG (gX X s H (genEnv scope cl C code builtinsNs X.env) (own ++ caps.map (·.1)) fp pn A) tg gt)
    (htt : ∀ A s H C cl code fp pn, Room k A → PTs (gX X s H (genEnv scope cl C code builtinsNs X.env) (own ++ caps.map (·.1)) fp pn A) ifs tt)
    (hte : ∀ A s H C cl code fp pn, Room k A → PE (gX X s H (genEnv scope cl C code builtinsNs X.env) (own ++ caps.map (·.1)) fp pn A) elt te)
    (hs : ∀ v, genFold iter X.env v = pure v := by intro _; rfl)
    (he : starEach [.GeneratorExp elt [⟨tg, iter, ifs, 0⟩] scope gpos] X.env = (false, eval (.GeneratorExp elt [⟨tg, iter, ifs, 0⟩] scope gpos) X.env) :: starEach [] X.env := by rfl) :
    PE X (.Call (.Name "sum" p) [.GeneratorExp elt [⟨tg, iter, ifs, 0⟩] scope gpos] [] pos) (tSum P wi gt tt te own.length (caps.map (·.2))) := by
  refine ⟨fun pins s σ H Q I h => ?_⟩
  refine wpAny_Call_Name_kw (ld_blt I hg hm boot_sum ?_)
  refine PyProof.Rows.callWith_builtin1 ?_ he (by rfl)
  rw [he]
  show wpAny _ _ (spliced ((false, eval (.GeneratorExp elt [⟨tg, iter, ifs, 0⟩] scope gpos) X.env) :: backTo pos (starEach [] X.env))) _ _ s
  refine Calls.spliced_cons (gen_mk (B := X.A.in1.in1) hc hr rfl rfl (by show X.A.units + 1 + 1 ≤ _; omega) rfl TB hcode ok hi hgt htt hte hs I h fun J H2 Xg fp a go g s5 hR M => ?_)
  obtain ⟨W, ⟨m, w0⟩, turn⟩ := hR
  refine Calls.spliced_nil ?_
  refine call_function_tree F.kind_sum F.plain_sum F.entry_sum (F.args_sum1 _) ?_
  unfold Builtin.«sum»
  simp only [List.length_cons, List.length_nil]
  rw [if_neg (by decide)]
  refine wpAny_bind (wpAny_of_eq (show Builtin.Builtins.bindParams "sum" ["start"] 0 { } = pure [none] from rfl) ?_)
  have hgen := M.gen s5.heap (M.inv.pin (a, go) (List.mem_append_left _ (by rw [M.pn]; exact List.mem_singleton.mpr rfl))).1
  refine wpAny_bind (wpAny_pyIter_gen hgen ?_)
  refine wpAny_bind (wpAny_mkInt ?_)
  refine wpAny_bind (wpAny_pure ?_)
  simp only [List.forIn_cons, List.forIn_nil]
  refine wpAny_bind (wpAny_bind (wpAny_bind (wpAny_isInstance (T := "int") (b := false) (typeIs_int _ _ _) PySem.sub_int_str ?_)))
  simp only [Bool.false_eq_true, if_false]
  refine wpAny_pure (wpAny_bind (wpAny_bind (wpAny_isInstance (T := "int") (b := false) (typeIs_int _ _ _) PySem.sub_int_bytes ?_)))
  simp only [Bool.false_eq_true, if_false]
  refine wpAny_pure (wpAny_bind (wpAny_bind (wpAny_isInstance (T := "int") (b := false) (typeIs_int _ _ _) PySem.sub_int_bytearray ?_)))
  simp only [Bool.false_eq_true, if_false]
  refine wpAny_pure (wpAny_pure ?_)
  refine wpAny_bind (wpAny_newObj_type ?_)
  refine wpAny_pure ⟨plainId_quiet F.plain_sum_loop _, ?_⟩
  have hSn : H2 s5.heap.objs.size = none := M.inv.hok.fresh (Nat.le_refl _)
  have kp : ∀ b o, s5.heap.get? b = some o → (s5.heap.push (heldObj 0 s5.toks 0)).get? b = some o := fun b o e => Heap.get?_push_of_some _ e
  have I6 : Inv Xg [(s5.heap.objs.size, heldObj 0 s5.toks 0)] (capt σ own.length (caps.map (·.2))) H2 { s5 with heap := s5.heap.push (heldObj 0 s5.toks 0), toks := s5.toks + 1 } := by
    refine (M.inv.kept (t' := s5.toks + 1) kp).pins_of fun p hp => ?_
    rw [List.mem_singleton.mp hp]
    exact ⟨Heap.get?_push_size _ rfl, hSn, Nat.ne_of_gt M.inv.lt, M.inv.nofs (Nat.le_refl _), fun v q => by cases q⟩
  have hSf : s5.heap.objs.size ∉ fp := fun hm => Nat.lt_irrefl _ (M.sml _ hm)
  have L := M.live (α := Int) (cpS s5.heap.objs.size) stSum (fun acc H => Q (.int acc) H) W m 0 (fun a cp hcp p hp => by
    obtain ⟨t, c, rfl⟩ := hcp
    rw [List.mem_singleton.mp hp]
    exact hSf) stSum_mono turn w0 { s5 with heap := s5.heap.push (heldObj 0 s5.toks 0), toks := s5.toks + 1 } _ ⟨_, _, rfl⟩ I6 rfl kp
  have e1 := M.P
  have e2 := M.w
  have z := code_sum (Xg := Xg) (fp := fp) (QT := fun acc H => Q (.int acc) H) (B := X.A) (go := go) (S := s5.heap.objs.size) (R := fun r s' => ∃ u, r = .ok (.ret u) ∧ EP X pins σ Q u s') hr.hd (by have := hr.dp; omega) M.gen M.pn (Nat.ne_of_lt M.lt) hSf M.low
    (fun s₁ h' acc σ1 H1 t I1 q hk => ⟨_, rfl, .int acc, H1, fin_back M.back I1 rfl hk, ⟨t, rfl⟩, q⟩) (m + 1) 0 s5.toks 0 0 _ (.inl rfl) (Heap.get?_push_size _ rfl) L
  rw [e1, e2] at z
  refine codeAny_mono z fun r s' ⟨u, hu, q⟩ => ?_
  subst hu
  exact q
end
end GX

set_option Elab.async false
set_option linter.all false
set_option maxRecDepth 100000
set_option maxHeartbeats 2000000
/-! What an expression, a statement, a def is worth over plain data, whatever the heap. -/
namespace DN
open PySem PySem.Spec PyProof.Rows L2 GxR GX

/-! ### data -/
inductive D where
  | non | bl (b : Bool) | int (i : Int) | str (s : Str) | lst (ds : List D) | tup (ds : List D)
  /-- an empty dict -/
  | dct
  /-- the script: a list of ints that is only read -/
  | scr (ns : List Int)
  /-- an object: its class's name, its attributes -/
  | obj (c : Str) (ks : List Str) (ds : List D)
mutual
/-- v is d, in what is seen, G -/
def At (K : PySem.W.Frag) (G : Hp) : D → V → Prop
  | .non, v => v = .non
  | .bl b, v => v = .bl b
  | .int i, v => v = .int i
  | .str s, v => v = .str s
  | .lst ds, v => ∃ a xs, v = .ref a ∧ G a = some (.lst xs) ∧ Ats K G ds xs
  | .tup ds, v => ∃ a xs, v = .ref a ∧ G a = some (.tup xs) ∧ Ats K G ds xs
  | .dct, v => ∃ a, v = .ref a ∧ G a = some (.dK [])
  | .scr ns, v => ∃ a, v = .ref a ∧ SqL K G a (ns.map V.int)
  | .obj c ks ds, v => ∃ a C dx xs, v = .ref a ∧ PySem.W.nsIn K mainGlobals c = some (some (.ref C)) ∧ G a = some (.ins C dx (ks.zip xs)) ∧ ks.length = ds.length ∧ Ats K G ds xs
def Ats (K : PySem.W.Frag) (G : Hp) : List D → List V → Prop
  | [], xs => xs = []
  | d :: ds, xs => ∃ x r, xs = x :: r ∧ At K G d x ∧ Ats K G ds r
end

/-- what is seen is a part of what is tracked, without tables -/
def Sub (G H : Hp) : Prop := ∀ a o, G a = some o → H a = some o ∧ ∀ ps, o ≠ .tbl ps
/-- later: what stood stands, but for tables, which may have grown -/
structure Ext (L : List Addr) (H H' : Hp) : Prop where
  keep : ∀ a o, H a = some o → (∀ ps, o ≠ .tbl ps) → H' a = some o
  dom : ∀ a, H' a = none → H a = none
  tab : ∀ P ∈ L, TabG H P → TabG H' P
def Tabs (L : List Addr) (H : Hp) : Prop := ∀ P ∈ L, TabG H P
structure Gr (L : List Addr) (G H G' H' : Hp) : Prop where
  sub : Sub G' H'
  up : ∀ a o, G a = some o → G' a = some o
  ext : Ext L H H'
  new : ∀ a, G' a ≠ none → G a ≠ none ∨ H a = none
section
variable {L : List Addr} {G G1 G2 H H1 H2 : Hp} {K : PySem.W.Frag}
theorem Ext.refl : Ext L H H := ⟨fun _ _ h _ => h, fun _ h => h, fun _ _ h => h⟩
theorem Ext.trans (a : Ext L H H1) (b : Ext L H1 H2) : Ext L H H2 := ⟨fun x o h n => b.keep x o (a.keep x o h n) n, fun x h => a.dom x (b.dom x h), fun P m h => b.tab P m (a.tab P m h)⟩
theorem Ext.new {p : Addr} {o : HO} (h : H p = none) : Ext L H (upd H p o) := by
  refine ⟨fun a u e _ => ?_, fun a e => ?_, fun P _ ⟨ps, e, t⟩ => ⟨ps, ?_, t⟩⟩
  · rw [upd_ne (ne_of_none e h)]; exact e
  · by_cases ha : a = p
    · subst ha; exact h
    · rw [upd_ne ha] at e; exact e
  · rw [upd_ne (ne_of_none e h)]; exact e
/-- an object that was not there at H may change -/
theorem Ext.mut {p : Addr} {o : HO} (e : Ext L H H1) (h : H p = none) : Ext L H (upd H1 p o) := by
  refine ⟨fun a u ea n => ?_, fun a ea => ?_, fun P m ⟨ps, ep, t⟩ => ?_⟩
  · rw [upd_ne (ne_of_none ea h)]; exact e.keep a u ea n
  · by_cases ha : a = p
    · subst ha; exact h
    · rw [upd_ne ha] at ea; exact e.dom a ea
  · obtain ⟨ps', e', t'⟩ := e.tab P m ⟨ps, ep, t⟩
    exact ⟨ps', by rw [upd_ne (ne_of_none ep h)]; exact e', t'⟩
theorem Ext.tabbed {P : Addr} (h0 : TabG H P) (h : Tabbed P H H1) : Ext L H H1 := by
  obtain ⟨ps, e0, _⟩ := h0
  refine ⟨fun a o e n => ?_, fun a e => ?_, fun Q _ ⟨qs, e, t⟩ => ?_⟩
  · rw [h.2 a (fun z => by rw [z, e0] at e; cases e; exact n _ rfl)]; exact e
  · by_cases ha : a = P
    · subst ha
      obtain ⟨⟨qs, e1, _⟩, _⟩ := h
      rw [e1] at e; cases e
    · rw [← h.2 a ha]; exact e
  · by_cases hq : Q = P
    · rw [hq]; exact h.1
    · exact ⟨qs, by rw [h.2 Q hq]; exact e, t⟩
theorem Tabs.ext (t : Tabs L H) (e : Ext L H H1) : Tabs L H1 := fun P m => e.tab P m (t P m)
theorem Sub.ext (s : Sub G H) (e : Ext L H H1) : Sub G H1 := fun a o h => ⟨e.keep a o (s a o h).1 (s a o h).2, (s a o h).2⟩
theorem Sub.none (s : Sub G H) {a : Addr} (h : H a = .none) : G a = .none := by
  cases e : G a with
  | none => rfl
  | some o => rw [(s a o e).1] at h; cases h
theorem Gr.of (s : Sub G H) (e : Ext L H H1) : Gr L G H G H1 := ⟨s.ext e, fun _ _ h => h, e, fun _ h => .inl h⟩
theorem Gr.refl (s : Sub G H) : Gr L G H G H := Gr.of s .refl
theorem Gr.trans (a : Gr L G H G1 H1) (b : Gr L G1 H1 G2 H2) : Gr L G H G2 H2 := by
  refine ⟨b.sub, fun x o h => b.up x o (a.up x o h), a.ext.trans b.ext, fun x h => ?_⟩
  rcases b.new x h with z | z
  · exact a.new x z
  · exact .inr (a.ext.dom x z)
theorem Gr.lay {p : Addr} {o : HO} (s : Sub G H) (h : H p = none) (ho : ∀ ps, o ≠ .tbl ps) : Gr L G H (upd G p o) (upd H p o) := by
  refine ⟨fun a u e => ?_, fun a u e => ?_, .new h, fun a e => ?_⟩
  · by_cases ha : a = p
    · subst ha; rw [upd_same] at e ⊢; cases e; exact ⟨rfl, ho⟩
    · rw [upd_ne ha] at e ⊢; exact s a u e
  · rw [upd_ne (ne_of_none (s a u e).1 h)]; exact e
  · by_cases ha : a = p
    · subst ha; exact .inr h
    · rw [upd_ne ha] at e; exact .inl e
mutual
theorem At.mono (u : ∀ a o, G a = some o → G1 a = some o) : ∀ {d : D} {v : V}, At K G d v → At K G1 d v
  | .non, _, h => h
  | .bl _, _, h => h
  | .int _, _, h => h
  | .str _, _, h => h
  | .lst _, _, ⟨a, xs, e, h, t⟩ => ⟨a, xs, e, u _ _ h, Ats.mono u t⟩
  | .tup _, _, ⟨a, xs, e, h, t⟩ => ⟨a, xs, e, u _ _ h, Ats.mono u t⟩
  | .dct, _, ⟨a, e, h⟩ => ⟨a, e, u _ _ h⟩
  | .scr _, _, ⟨a, e, h⟩ => ⟨a, e, by
      rcases h with (h | ⟨o, h⟩) | h
      · exact .inl (.inl (u _ _ h))
      · exact .inl (.inr ⟨o, u _ _ h⟩)
      · exact .inr h⟩
  | .obj _ _ _, _, ⟨a, C, dx, xs, e, n, h, l, t⟩ => ⟨a, C, dx, xs, e, n, u _ _ h, l, Ats.mono u t⟩
theorem Ats.mono (u : ∀ a o, G a = some o → G1 a = some o) : ∀ {ds : List D} {xs : List V}, Ats K G ds xs → Ats K G1 ds xs
  | [], _, h => h
  | _ :: _, _, ⟨x, r, e, h, t⟩ => ⟨x, r, e, At.mono u h, Ats.mono u t⟩
end
theorem Ats.length : ∀ {ds : List D} {xs : List V}, Ats K G ds xs → xs.length = ds.length
  | [], _, h => by rw [show _ = [] from h]; rfl
  | _ :: _, _, ⟨x, r, e, _, t⟩ => by rw [e, List.length_cons, List.length_cons, Ats.length t]
theorem Ats.get : ∀ {ds : List D} {xs : List V} {i : Nat} {d : D}, Ats K G ds xs → ds[i]? = some d → ∃ x, xs[i]? = some x ∧ At K G d x
  | [], _, _, _, _, e => by simp at e
  | d :: _, _, 0, _, ⟨x, r, e, h, _⟩, q => by
    subst e
    simp only [List.getElem?_cons_zero, Option.some.injEq] at q ⊢
    subst q
    exact ⟨x, rfl, h⟩
  | _ :: _, _, i + 1, _, ⟨x, r, e, _, t⟩, q => by
    subst e
    obtain ⟨y, h1, h2⟩ := Ats.get (i := i) t (by simpa using q)
    exact ⟨y, by simpa using h1, h2⟩
theorem Ats.append : ∀ {ds es : List D} {xs ys : List V}, Ats K G ds xs → Ats K G es ys → Ats K G (ds ++ es) (xs ++ ys)
  | [], _, _, _, h, t => by rw [show _ = [] from h]; exact t
  | _ :: _, _, _, _, ⟨x, r, e, h, t⟩, u => by subst e; exact ⟨x, r ++ _, rfl, h, Ats.append t u⟩
theorem Ats.one {d : D} {x : V} (h : At K G d x) : Ats K G [d] [x] := ⟨x, [], rfl, h, rfl⟩
theorem Ats.take : ∀ {ds : List D} {xs : List V} (n : Nat), Ats K G ds xs → Ats K G (ds.take n) (xs.take n)
  | [], _, n, h => by rw [show _ = [] from h]; simp [Ats]
  | _ :: _, _, 0, _ => rfl
  | _ :: _, _, n + 1, ⟨x, r, e, h, t⟩ => by subst e; exact ⟨x, _, rfl, h, Ats.take n t⟩
theorem Ats.drop : ∀ {ds : List D} {xs : List V} (n : Nat), Ats K G ds xs → Ats K G (ds.drop n) (xs.drop n)
  | [], _, n, h => by rw [show _ = [] from h]; simp [Ats]
  | _ :: _, _, 0, h => h
  | _ :: _, _, n + 1, ⟨x, r, e, h, t⟩ => by subst e; exact Ats.drop n t
theorem Ats.flat {ds : List D} {xs : List V} (h : Ats K G ds xs) : ∀ n, Ats K G (List.replicate n ds).flatten (List.replicate n xs).flatten
  | 0 => rfl
  | n + 1 => by rw [List.replicate_succ, List.replicate_succ, List.flatten_cons, List.flatten_cons]; exact h.append (Ats.flat h n)
theorem ats_ints : ∀ (ns : List Int), Ats K G (ns.map D.int) (ns.map V.int)
  | [] => rfl
  | n :: ns => ⟨.int n, _, rfl, rfl, ats_ints ns⟩
theorem Ats.two {a b : D} {xs : List V} (h : Ats K G [a, b] xs) : ∃ x y, xs = [x, y] ∧ At K G a x ∧ At K G b y := by
  obtain ⟨x, r, rfl, h1, y, r', rfl, h2, h3⟩ := h
  obtain rfl : r' = [] := h3
  exact ⟨x, y, rfl, h1, h2⟩
end

/-! ### the names' values -/
abbrev Env := List (Option D)
abbrev DM := Env → Option D
def Rep (K : PySem.W.Frag) (G : Hp) (σ : L2.St) (ρ : Env) : Prop := σ.length = ρ.length ∧ ∀ (i : Nat) (d : D), ρ[i]? = some (some d) → ∃ v, σ[i]? = some (some v) ∧ At K G d v
theorem Rep.mono {K : PySem.W.Frag} {G G1 : Hp} {σ : L2.St} {ρ : Env} (u : ∀ a o, G a = some o → G1 a = some o) (h : Rep K G σ ρ) : Rep K G1 σ ρ := ⟨h.1, fun i d e => by
  obtain ⟨v, h1, h2⟩ := h.2 i d e
  exact ⟨v, h1, At.mono u h2⟩⟩
theorem Rep.set {K : PySem.W.Frag} {G : Hp} {σ : L2.St} {ρ : Env} {d : D} {v : V} (i : Nat) (h : Rep K G σ ρ) (a : At K G d v) : Rep K G (σ.set i (some v)) (ρ.set i (some d)) := by
  refine ⟨by rw [List.length_set, List.length_set]; exact h.1, fun j e hj => ?_⟩
  by_cases hij : i = j
  · subst hij
    by_cases hl : i < ρ.length
    · rw [List.getElem?_set_self hl] at hj
      cases hj
      exact ⟨v, List.getElem?_set_self (by rw [h.1]; exact hl), a⟩
    · rw [List.getElem?_eq_none (by simpa using Nat.le_of_not_lt hl)] at hj
      cases hj
  · rw [List.getElem?_set_ne hij] at hj ⊢
    exact h.2 j e hj
/-- slots forgotten -/
def wipeD (ρ : Env) : List Nat → Env
  | [] => ρ
  | v :: vs => (wipeD ρ vs).set v none
theorem Rep.unset {K : PySem.W.Frag} {G : Hp} {σ : L2.St} {ρ : Env} (i : Nat) (h : Rep K G σ ρ) : Rep K G (σ.set i none) (ρ.set i none) := by
  refine ⟨by rw [List.length_set, List.length_set]; exact h.1, fun j e hj => ?_⟩
  by_cases hij : i = j
  · subst hij
    by_cases hl : i < ρ.length
    · rw [List.getElem?_set_self hl] at hj
      cases hj
    · rw [List.getElem?_eq_none (by simpa using Nat.le_of_not_lt hl)] at hj
      cases hj
  · rw [List.getElem?_set_ne hij] at hj ⊢
    exact h.2 j e hj
theorem Rep.wipe {K : PySem.W.Frag} {G : Hp} {σ : L2.St} {ρ : Env} (h : Rep K G σ ρ) : ∀ vs, Rep K G (wipe σ vs) (wipeD ρ vs)
  | [] => h
  | v :: vs => (Rep.wipe h vs).unset v
def captD (ρ : Env) (n : Nat) (is : List Nat) : Env := List.replicate n none ++ is.map fun i => (ρ[i]?).getD none
theorem Rep.capt {K : PySem.W.Frag} {G : Hp} {σ : L2.St} {ρ : Env} (h : Rep K G σ ρ) (n : Nat) (is : List Nat) : Rep K G (capt σ n is) (captD ρ n is) := by
  refine ⟨by unfold GX.capt captD; simp, fun i d hi => ?_⟩
  unfold captD at hi
  unfold GX.capt
  by_cases hn : i < n
  · rw [List.getElem?_append_left (by simpa using hn), List.getElem?_replicate, if_pos hn] at hi
    cases hi
  · rw [List.getElem?_append_right (by simpa using Nat.le_of_not_lt hn)] at hi ⊢
    simp only [List.length_replicate, List.getElem?_map] at hi ⊢
    cases e : is[i - n]? with
    | none => rw [e] at hi; cases hi
    | some k =>
      rw [e] at hi
      simp only [Option.map_some, Option.some.injEq] at hi ⊢
      cases q : ρ[k]? with
      | none => rw [q] at hi; cases hi
      | some o =>
        rw [q] at hi
        obtain ⟨v, h1, h2⟩ := h.2 k d (by rw [q]; exact congrArg some hi)
        exact ⟨v, by rw [h1]; rfl, h2⟩

/-! ### expressions -/
theorem _root_.L2.PE.imp {X : Cx} {e : Expr} {t t' : TE} (h : PE X e t) (i : ∀ σ H Q, t' σ H Q → t σ H Q) : PE X e t' := ⟨fun pins s σ H Q I q => h.run pins s σ H Q I (i σ H Q q)⟩
theorem _root_.L2.PT.imp {X : Cx} {e : Expr} {t t' : TT} (h : PT X e t) (i : ∀ σ H Q, t' σ H Q → t σ H Q) : PT X e t' := ⟨fun pins s σ H Q I q => h.run pins s σ H Q I (i σ H Q q)⟩
theorem _root_.L2.PS.imp {X : Cx} {e : Stmt} {t t' : TS} (h : PS X e t) (i : ∀ Dn σ H, t' Dn σ H → t Dn σ H) : PS X e t' := ⟨fun pins s σ H Dn I q => h.run pins s σ H Dn I (i Dn σ H q)⟩
theorem _root_.L2.PSs.imp {X : Cx} {e : List Stmt} {t t' : TS} (h : PSs X e t) (i : ∀ Dn σ H, t' Dn σ H → t Dn σ H) : PSs X e t' := ⟨fun pins s σ H Dn I q => h.run pins s σ H Dn I (i Dn σ H q)⟩
theorem _root_.L2.PI.imp {X : Cx} {tg e : Expr} {t t' : TI} (h : PI X tg e t) (i : ∀ σ H Q, t' σ H Q → t σ H Q) : PI X tg e t' := ⟨fun pins s σ H Q I q => h.run pins s σ H Q I (i σ H Q q)⟩
theorem _root_.L2.PA.imp {X : Cx} {e : List Expr} {t t' : TA} (h : PA X e t) (i : ∀ σ H Q, t' σ H Q → t σ H Q) : PA X e t' := ⟨fun pos pins s σ H Q I q => h.run pos pins s σ H Q I (i σ H Q q)⟩

/-- e is worth m of the names' values -/
def tP (K : PySem.W.Frag) (L : List Addr) (m : DM) : TE := fun σ H Q => ∃ G ρ d, Sub G H ∧ Rep K G σ ρ ∧ Tabs L H ∧ m ρ = some d ∧ ∀ v G' H', Gr L G H G' H' → At K G' d v → Q v H'
def tPT (K : PySem.W.Frag) (L : List Addr) (m : Env → Option Bool) : TT := fun σ H Q => ∃ G ρ b, Sub G H ∧ Rep K G σ ρ ∧ Tabs L H ∧ m ρ = some b ∧ ∀ G' H', Gr L G H G' H' → Q b H'
def tPA (K : PySem.W.Frag) (L : List Addr) (m : Env → Option (List D)) : TA := fun σ H Q => ∃ G ρ ds, Sub G H ∧ Rep K G σ ρ ∧ Tabs L H ∧ m ρ = some ds ∧ ∀ vs G' H', Gr L G H G' H' → Ats K G' ds vs → Q vs H'
def PD (X : Cx) (L : List Addr) (e : Expr) (m : DM) : Prop := PE X e (tP X.K L m)
def PTD (X : Cx) (L : List Addr) (e : Expr) (m : Env → Option Bool) : Prop := PT X e (tPT X.K L m)
def PAD (X : Cx) (L : List Addr) (es : List Expr) (m : Env → Option (List D)) : Prop := PA X es (tPA X.K L m)

/-- the values' combinators -/
def dVar (i : Nat) : DM := fun ρ => (ρ[i]?).join
def dC (d : D) : DM := fun _ => some d
def dBin (g : D → D → Option D) (a b : DM) : DM := fun ρ => (a ρ).bind fun x => (b ρ).bind fun y => g x y
def dUn (g : D → Option D) (a : DM) : DM := fun ρ => (a ρ).bind g
def dNil : Env → Option (List D) := fun _ => some []
def dCons (a : DM) (r : Env → Option (List D)) : Env → Option (List D) := fun ρ => (a ρ).bind fun x => (r ρ).bind fun xs => some (x :: xs)
def dFn (g : List D → Option D) (a : Env → Option (List D)) : DM := fun ρ => (a ρ).bind g
def toB : D → Option Bool
  | .bl b => some b
  | _ => none
def dB (a : DM) : Env → Option Bool := fun ρ => (a ρ).bind toB
def dAnd (a b : DM) : DM := fun ρ => (dB a ρ).bind fun x => if x = true then (dB b ρ).bind fun y => some (.bl y) else some (.bl false)
def dOr (a b : DM) : DM := fun ρ => (dB a ρ).bind fun x => if x = true then some (.bl true) else (dB b ρ).bind fun y => some (.bl y)
def dNot (a : DM) : DM := fun ρ => (dB a ρ).bind fun x => some (.bl (!x))
def dIf (c : Env → Option Bool) (a b : DM) : DM := fun ρ => (c ρ).bind fun x => if x = true then a ρ else b ρ
def tAndD (a b : Env → Option Bool) : Env → Option Bool := fun ρ => (a ρ).bind fun x => if x = true then b ρ else some false
def tOrD (a b : Env → Option Bool) : Env → Option Bool := fun ρ => (a ρ).bind fun x => if x = true then some true else b ρ
def tNotD (a : Env → Option Bool) : Env → Option Bool := fun ρ => (a ρ).bind fun x => some (!x)

section
variable {X : Cx} {L : List Addr} {e a b : Expr} {pos : Pos} {ma mb : DM}
theorem pd_var {i : Nat} {x : Str} (hN : X.N[i]? = some x) (hv : Vis X.env.scope x) (hd : (x == ("__debug__" : Str)) = false := by decide) (hcd : (x == ("__classdict__" : Str)) = false := by decide) : PD X L (.Name x pos) (dVar i) :=
  PE.imp (pe_var hN hv hd hcd) fun σ H Q ⟨G, ρ, d, hs, hr, ht, hm, q⟩ => by
    unfold dVar at hm
    have e : ρ[i]? = some (some d) := by
      cases h : ρ[i]? with
      | none => rw [h] at hm; cases hm
      | some o => rw [h] at hm; exact congrArg some hm
    obtain ⟨v, h1, h2⟩ := hr.2 i d e
    exact ⟨v, h1, q v G H (.refl hs) h2⟩
/-- the name that stands in the i-th slot -/
theorem dv (i : Nat) {x : Str} (hN : X.N[i]? = some x := by rfl) (hv : Vis X.env.scope x := by first | exact Or.inl rfl | exact Or.inr (Or.inl rfl) | exact Or.inr (Or.inr rfl)) (hd : (x == ("__debug__" : Str)) = false := by decide)
    (hcd : (x == ("__classdict__" : Str)) = false := by decide) : PD X L (.Name x pos) (dVar i) := pd_var hN hv hd hcd
theorem pd_int {i : Int} {j : Nat} : PD X L (.Constant (.int i) j pos) (dC (.int i)) := PE.imp pe_int fun σ H Q ⟨G, ρ, d, hs, hr, ht, hm, q⟩ => by cases hm; exact q _ G H (.refl hs) rfl
theorem pd_bl {i : Bool} {j : Nat} : PD X L (.Constant (.bool i) j pos) (dC (.bl i)) := PE.imp pe_bl fun σ H Q ⟨G, ρ, d, hs, hr, ht, hm, q⟩ => by cases hm; exact q _ G H (.refl hs) rfl
theorem pd_str {i : Str} {j : Nat} : PD X L (.Constant (.str i) j pos) (dC (.str i)) := PE.imp pe_str fun σ H Q ⟨G, ρ, d, hs, hr, ht, hm, q⟩ => by cases hm; exact q _ G H (.refl hs) rfl
theorem pd_non {j : Nat} : PD X L (.Constant .none j pos) (dC .non) := PE.imp pe_non fun σ H Q ⟨G, ρ, d, hs, hr, ht, hm, q⟩ => by cases hm; exact q _ G H (.refl hs) rfl
theorem pd_dct : PD X L (.Dict [] [] pos) (dC .dct) := PE.imp pe_dnewK fun σ H Q ⟨G, ρ, d, hs, hr, ht, hm, q⟩ => by
  cases hm
  exact fun p hp => q _ (upd G p (.dK [])) _ (.lay hs hp fun ps z => by cases z) ⟨p, rfl, upd_same⟩
/-- a module's constant int -/
theorem pd_glob {x : Str} {i : Int} (hg : Gl X x) (hm : ∃ t, X.mg x = some (.int i t)) (hd : (x == ("__debug__" : Str)) = false := by decide) : PD X L (.Name x pos) (dC (.int i)) := by
  obtain ⟨t, hm⟩ := hm
  exact PE.imp (pe_glob hg hm (v := .int i) ⟨t, rfl⟩ hd) fun σ H Q ⟨G, ρ, d, hs, hr, ht, hm, q⟩ => by cases hm; exact q _ G H (.refl hs) rfl

/-- a two-place operation by values, over data -/
def OpD (K : PySem.W.Frag) (L : List Addr) (r : R2) (g : D → D → Option D) : Prop :=
  ∀ (G H : Hp) (x y : V) (d1 d2 d : D) (Q : VK), Sub G H → Tabs L H → At K G d1 x → At K G d2 y → g d1 d2 = some d → (∀ v G' H', Gr L G H G' H' → At K G' d v → Q v H') → r x y H Q
theorem tOp_imp {r : R2} {g : D → D → Option D} (hr : OpD X.K L r g) : ∀ σ H Q, tP X.K L (dBin g ma mb) σ H Q → tOp r (tP X.K L ma) (tP X.K L mb) σ H Q := fun σ H Q ⟨G, ρ, d, hs, hR, ht, hm, q⟩ => by
  unfold dBin at hm
  cases h1 : ma ρ with
  | none => rw [h1] at hm; cases hm
  | some d1 =>
    cases h2 : mb ρ with
    | none => rw [h1, h2] at hm; cases hm
    | some d2 =>
      rw [h1, h2] at hm
      exact ⟨G, ρ, d1, hs, hR, ht, h1, fun x G1 H1 g1 a1 => ⟨G1, ρ, d2, g1.sub, hR.mono g1.up, ht.ext g1.ext, h2, fun y G2 H2 g2 a2 =>
        hr G2 H2 x y d1 d2 d Q g2.sub ((ht.ext g1.ext).ext g2.ext) (a1.mono g2.up) a2 hm fun v G3 H3 g3 a3 => q v G3 H3 ((g1.trans g2).trans g3) a3⟩⟩
theorem pd_bin {op : Operator} {r : R2} {g : D → D → Option D} (hr : OpD X.K L r g) (ho : OpR X (binaryOp op) r) (ha : PD X L a ma) (hb : PD X L b mb) : PD X L (.BinOp a op b pos) (dBin g ma mb) :=
  PE.imp (pe_op ho ha hb) (tOp_imp hr)
theorem pd_cmp {op : CmpOp} {r : R2} {g : D → D → Option D} (hr : OpD X.K L r g) (ho : OpR X (compareOp op) r) (hm : behindInMarks op b = false) (ha : PD X L a ma) (hb : PD X L b mb) : PD X L (.Compare a [op] [b] pos) (dBin g ma mb) :=
  PE.imp (pe_cmpR ho ha hb hm) (tOp_imp hr)
theorem pd_ix {r : R2} {g : D → D → Option D} (hr : OpD X.K L r g) (ho : IxR X r) (hs : PlainIx b) (ha : PD X L a ma) (hb : PD X L b mb) : PD X L (.Subscript a b pos) (dBin g ma mb) :=
  PE.imp (pe_ix ho ha hb hs) (tOp_imp hr)
def UnD (K : PySem.W.Frag) (L : List Addr) (r : V → Hp → VK → Prop) (g : D → Option D) : Prop :=
  ∀ (G H : Hp) (x : V) (d1 d : D) (Q : VK), Sub G H → Tabs L H → At K G d1 x → g d1 = some d → (∀ v G' H', Gr L G H G' H' → At K G' d v → Q v H') → r x H Q
theorem pd_un {op : UnaryOp} {r : V → Hp → VK → Prop} {g : D → Option D} (hr : UnD X.K L r g) (ho : UnR X (unaryOp op) r) (ha : PD X L a ma) : PD X L (.UnaryOp op a pos) (dUn g ma) :=
  PE.imp (pe_un ho ha) fun σ H Q ⟨G, ρ, d, hs, hR, ht, hm, q⟩ => by
    unfold dUn at hm
    cases h1 : ma ρ with
    | none => rw [h1] at hm; cases hm
    | some d1 =>
      rw [h1] at hm
      exact ⟨G, ρ, d1, hs, hR, ht, h1, fun x G1 H1 g1 a1 => hr G1 H1 x d1 d Q g1.sub (ht.ext g1.ext) a1 hm fun v G3 H3 g3 a3 => q v G3 H3 (g1.trans g3) a3⟩
/-! argument lists -/
theorem pad_nil : PAD X L [] dNil := PA.imp pa_nil fun σ H Q ⟨G, ρ, ds, hs, hR, ht, hm, q⟩ => by cases hm; exact q [] G H (.refl hs) rfl
theorem pad_cons {es : List Expr} {m : Env → Option (List D)} (ha : PD X L e ma) (hr : PAD X L es m) (hs : starEach (e :: es) X.env = (false, eval e X.env) :: starEach es X.env := by rfl) : PAD X L (e :: es) (dCons ma m) :=
  PA.imp (pa_cons ha hr hs) fun σ H Q ⟨G, ρ, ds, hs, hR, ht, hm, q⟩ => by
    unfold dCons at hm
    cases h1 : ma ρ with
    | none => rw [h1] at hm; cases hm
    | some d1 =>
      cases h2 : m ρ with
      | none => rw [h1, h2] at hm; cases hm
      | some d2 =>
        rw [h1, h2] at hm
        cases hm
        exact ⟨G, ρ, d1, hs, hR, ht, h1, fun x G1 H1 g1 a1 => ⟨G1, ρ, d2, g1.sub, hR.mono g1.up, ht.ext g1.ext, h2, fun xs G2 H2 g2 a2 => q (x :: xs) G2 H2 (g1.trans g2) ⟨x, xs, rfl, a1.mono g2.up, a2⟩⟩⟩
/-- a call by values, over data -/
def CallD (K : PySem.W.Frag) (L : List Addr) (r : List V → Hp → VK → Prop) (g : List D → Option D) : Prop :=
  ∀ (G H : Hp) (xs : List V) (ds : List D) (d : D) (Q : VK), Sub G H → Tabs L H → Ats K G ds xs → g ds = some d → (∀ v G' H', Gr L G H G' H' → At K G' d v → Q v H') → r xs H Q
theorem tA_imp {r : List V → Hp → VK → Prop} {g : List D → Option D} {m : Env → Option (List D)} (hr : CallD X.K L r g) : ∀ σ H Q, tP X.K L (dFn g m) σ H Q → tCB r (tPA X.K L m) σ H Q := fun σ H Q ⟨G, ρ, d, hs, hR, ht, hm, q⟩ => by
  unfold dFn at hm
  cases h1 : m ρ with
  | none => rw [h1] at hm; cases hm
  | some ds =>
    rw [h1] at hm
    exact ⟨G, ρ, ds, hs, hR, ht, h1, fun xs G1 H1 g1 a1 => hr G1 H1 xs ds d Q g1.sub (ht.ext g1.ext) a1 hm fun v G3 H3 g3 a3 => q v G3 H3 (g1.trans g3) a3⟩
theorem pd_callB {x : Str} {id : String} {p : Pos} {es : List Expr} {r : List V → Hp → VK → Prop} {g : List D → Option D} {m : Env → Option (List D)} (hr : CallD X.K L r g) (hc : CallR X (.builtin id) r) (hg : Gl X x) (hm : X.mg x = none) (hv : bootBuiltins x = some (.builtin id)) (ha : PAD X L (e :: es) m) (hn : x ≠ "__name__" := by decide) (hdb : (x == ("__debug__" : Str)) = false := by decide)
    (he : starEach (e :: es) X.env = (false, eval e X.env) :: starEach es X.env := by rfl) (hpl : (backTo pos (starEach es X.env)).any (·.1) = false := by rfl) : PD X L (.Call (.Name x p) (e :: es) [] pos) (dFn g m) :=
  PE.imp (pe_callB hc hg hm hv ha hn hdb he hpl) (tA_imp hr)
theorem pd_callTy {x : Str} {T : String} {p : Pos} {es : List Expr} {r : List V → Hp → VK → Prop} {g : List D → Option D} {m : Env → Option (List D)} (hr : CallD X.K L r g) (hc : CallR X (.type T) r) (hg : Gl X x) (hm : X.mg x = none) (hv : bootBuiltins x = some (.type T)) (ha : PAD X L (e :: es) m) (hn : x ≠ "__name__" := by decide) (hdb : (x == ("__debug__" : Str)) = false := by decide)
    (he : starEach (e :: es) X.env = (false, eval e X.env) :: starEach es X.env := by rfl) (hpl : (backTo pos (starEach es X.env)).any (·.1) = false := by rfl) : PD X L (.Call (.Name x p) (e :: es) [] pos) (dFn g m) :=
  PE.imp (pe_callTy hc hg hm hv ha hn hdb he hpl) (tA_imp hr)
/-- a def's promise over data -/
def spP (K : PySem.W.Frag) (L : List Addr) (n : Nat) (g : List D → Option D) : Sp := fun vs H Q _ => ∃ G ds d, Sub G H ∧ Tabs L H ∧ ds.length = n ∧ Ats K G ds vs ∧ g ds = some d ∧ ∀ v G' H', Gr L G H G' H' → At K G' d v → Q v H'
theorem pd_call {k n : Nat} {f : Addr} {fd : FuncData} {ps : List Str} {g : List D → Option D} {x : Str} {p : Pos} {es : List Expr} {m : Env → Option (List D)} (F : FnOk X.prog X.w X.K X.mg X.base CX0 k f fd ps (spP X.K L n g)) (hr : Room k X.A) (hg : Gl X x) (hm : X.mg x = some (.ref f)) (hk : PySem.W.keepIn X.K (.ref f) = true) (hb : Binds X.K fd ps [])
    (ha : PAD X L (e :: es) m) (hn : ∀ ρ ds, m ρ = some ds → ds.length = n) (hdb : (x == ("__debug__" : Str)) = false := by decide) (he : starEach (e :: es) X.env = (false, eval e X.env) :: starEach es X.env := by rfl) (hpl : (backTo pos (starEach es X.env)).any (·.1) = false := by rfl) :
    PD X L (.Call (.Name x p) (e :: es) [] pos) (dFn g m) :=
  PE.imp (pe_call (dvs := []) (E := E0) F hr hg hm hk hb .nil pass0 ha hdb he hpl) fun σ H Q ⟨G, ρ, d, hs, hR, ht, hmm, q⟩ => by
    unfold dFn at hmm
    cases h1 : m ρ with
    | none => rw [h1] at hmm; cases hmm
    | some ds =>
      rw [h1] at hmm
      refine ⟨G, ρ, ds, hs, hR, ht, h1, fun xs G1 H1 g1 a1 => ?_⟩
      show spP X.K L n g (xs ++ []) H1 Q E0
      rw [List.append_nil]
      exact ⟨G1, ds, d, g1.sub, ht.ext g1.ext, hn ρ ds h1, a1, hmm, fun v G3 H3 g3 a3 => q v G3 H3 (g1.trans g3) a3⟩
theorem pd_lst {es : List Expr} {m : Env → Option (List D)} (ha : PAD X L es m) (hl : ∀ ρ ds, m ρ = some ds → ds.length ≤ sizeLine) : PD X L (.List es pos) (dFn (fun ds => some (.lst ds)) m) :=
  PE.imp (pe_lst ha) fun σ H Q ⟨G, ρ, d, hs, hR, ht, hm, q⟩ => by
    unfold dFn at hm
    cases h1 : m ρ with
    | none => rw [h1] at hm; cases hm
    | some ds =>
      rw [h1] at hm
      cases hm
      exact ⟨G, ρ, ds, hs, hR, ht, h1, fun xs G1 H1 g1 a1 => ⟨by rw [a1.length]; exact hl ρ ds h1, fun p hp => q _ (upd G1 p (.lst xs)) _ (g1.trans (.lay g1.sub hp fun ps z => by cases z)) ⟨p, xs, rfl, upd_same, a1.mono fun a o e => by
        rw [upd_ne (ne_of_none (g1.sub a o e).1 hp)]; exact e⟩⟩⟩
theorem pd_tup {es : List Expr} {k : Nat} {m : Env → Option (List D)} (ha : PAD X L es m) (hl : ∀ ρ ds, m ρ = some ds → ds.length ≤ sizeLine) : PD X L (.Tuple es k pos) (dFn (fun ds => some (.tup ds)) m) :=
  PE.imp (pe_tup ha) fun σ H Q ⟨G, ρ, d, hs, hR, ht, hm, q⟩ => by
    unfold dFn at hm
    cases h1 : m ρ with
    | none => rw [h1] at hm; cases hm
    | some ds =>
      rw [h1] at hm
      cases hm
      exact ⟨G, ρ, ds, hs, hR, ht, h1, fun xs G1 H1 g1 a1 => ⟨by rw [a1.length]; exact hl ρ ds h1, fun p hp => q _ (upd G1 p (.tup xs)) _ (g1.trans (.lay g1.sub hp fun ps z => by cases z)) ⟨p, xs, rfl, upd_same, a1.mono fun a o e => by
        rw [upd_ne (ne_of_none (g1.sub a o e).1 hp)]; exact e⟩⟩⟩
theorem len0 : ∀ (ρ : Env) (ds : List D), dNil ρ = some ds → ds.length = 0 := fun ρ ds h => by cases h; rfl
theorem lenS {n : Nat} {m : Env → Option (List D)} (h : ∀ ρ ds, m ρ = some ds → ds.length = n) : ∀ (ρ : Env) (ds : List D), dCons ma m ρ = some ds → ds.length = n + 1 := fun ρ ds e => by
  unfold dCons at e
  cases h1 : ma ρ with
  | none => rw [h1] at e; cases e
  | some d1 =>
    cases h2 : m ρ with
    | none => rw [h1, h2] at e; cases e
    | some d2 =>
      rw [h1, h2] at e
      cases e
      rw [List.length_cons, h ρ d2 h2]
theorem lenL {n : Nat} {m : Env → Option (List D)} (h : ∀ ρ ds, m ρ = some ds → ds.length = n) (hn : n ≤ 1000) : ∀ (ρ : Env) (ds : List D), m ρ = some ds → ds.length ≤ sizeLine := fun ρ ds e => by
  rw [h ρ ds e]; exact Nat.le_trans hn (by decide)
/-! and, or, not, conditional, tests -/
theorem at_b {G : Hp} {d : D} {v : V} {k : Bool} (h : toB d = some k) (a : At X.K G d v) : v = .bl k := by
  cases d <;> simp only [toB, Option.some.injEq, reduceCtorEq] at h
  subst h
  exact a
theorem tP_b {K : PySem.W.Frag} {σ : L2.St} {G H : Hp} {ρ : Env} {k : Bool} {Q : VK} (hs : Sub G H) (hR : Rep K G σ ρ) (ht : Tabs L H) (h : dB ma ρ = some k) (q : ∀ G' H', Gr L G H G' H' → Q (.bl k) H') : tP K L ma σ H Q := by
  unfold dB at h
  cases h1 : ma ρ with
  | none => rw [h1] at h; cases h
  | some d =>
    rw [h1] at h
    have h : toB d = some k := h
    refine ⟨G, ρ, d, hs, hR, ht, h1, fun v G1 H1 g1 a1 => ?_⟩
    cases d <;> simp only [toB, Option.some.injEq, reduceCtorEq] at h
    subst h
    cases (show v = .bl _ from a1)
    exact q G1 H1 g1
theorem pd_one {op : PySem.BoolOp} (ha : PD X L a ma) : PD X L (.BoolOp op [a] pos) ma := pe_one ha
theorem pd_and {rest : List Expr} (ha : PD X L a ma) (hb : PD X L (.BoolOp .And (b :: rest) pos) mb) : PD X L (.BoolOp .And (a :: b :: rest) pos) (dAnd ma mb) :=
  PE.imp (pe_and ha hb) fun σ H Q ⟨G, ρ, d, hs, hR, ht, hm, q⟩ => by
    unfold dAnd at hm
    cases h1 : dB ma ρ with
    | none => rw [h1] at hm; cases hm
    | some k =>
      rw [h1] at hm
      refine tP_b hs hR ht h1 fun G1 H1 g1 => ⟨k, rfl, ?_⟩
      cases k with
      | false => cases hm; exact q _ G1 H1 g1 rfl
      | true =>
        cases h2 : dB mb ρ with
        | none => simp [h2] at hm
        | some j =>
          simp only [h2, Option.bind_some, if_true, Option.some.injEq] at hm
          subst hm
          exact tP_b g1.sub (hR.mono g1.up) (ht.ext g1.ext) h2 fun G2 H2 g2 => q _ G2 H2 (g1.trans g2) rfl
theorem pd_or {rest : List Expr} (ha : PD X L a ma) (hb : PD X L (.BoolOp .Or (b :: rest) pos) mb) : PD X L (.BoolOp .Or (a :: b :: rest) pos) (dOr ma mb) :=
  PE.imp (pe_or ha hb) fun σ H Q ⟨G, ρ, d, hs, hR, ht, hm, q⟩ => by
    unfold dOr at hm
    cases h1 : dB ma ρ with
    | none => rw [h1] at hm; cases hm
    | some k =>
      rw [h1] at hm
      refine tP_b hs hR ht h1 fun G1 H1 g1 => ⟨k, rfl, ?_⟩
      cases k with
      | true => cases hm; exact q _ G1 H1 g1 rfl
      | false =>
        cases h2 : dB mb ρ with
        | none => simp [h2] at hm
        | some j =>
          simp only [h2, Option.bind_some, Bool.false_eq_true, if_false, Option.some.injEq] at hm
          subst hm
          exact tP_b g1.sub (hR.mono g1.up) (ht.ext g1.ext) h2 fun G2 H2 g2 => q _ G2 H2 (g1.trans g2) rfl
theorem pd_not (ha : PD X L a ma) : PD X L (.UnaryOp .Not a pos) (dNot ma) :=
  PE.imp (pe_not ha) fun σ H Q ⟨G, ρ, d, hs, hR, ht, hm, q⟩ => by
    unfold dNot at hm
    cases h1 : dB ma ρ with
    | none => rw [h1] at hm; cases hm
    | some k =>
      rw [h1] at hm
      cases hm
      exact tP_b hs hR ht h1 fun G1 H1 g1 => ⟨k, rfl, q _ G1 H1 g1 rfl⟩
theorem ptd_val (h : PD X L e ma) (he : ∀ whole, isTrue e X.env whole = (do let v ← whole; standAt e.pos; holding [v] (truthy v)) := by intro _; rfl) : PTD X L e (dB ma) :=
  PT.imp (pt_val h he) fun σ H Q ⟨G, ρ, k, hs, hR, ht, hm, q⟩ => tP_b hs hR ht hm fun G1 H1 g1 => ⟨k, rfl, q G1 H1 g1⟩
theorem ptd_cmp {op : CmpOp} {r : R2} {g : D → D → Option D} (hr : OpD X.K L r g) (ho : OpR X (compareOp op) r) (hm : behindInMarks op b = false) (ha : PD X L a ma) (hb : PD X L b mb) : PTD X L (.Compare a [op] [b] pos) (dB (dBin g ma mb)) :=
  PT.imp (pt_cmpR ho ha hb hm) fun σ H Q ⟨G, ρ, k, hs, hR, ht, hmm, q⟩ => tOp_imp hr σ H _ (tP_b hs hR ht hmm fun G1 H1 g1 => ⟨k, rfl, q G1 H1 g1⟩)
variable {ta tb : _root_.DN.Env → Option Bool}
theorem ptd_not (h : PTD X L a ta) : PTD X L (.UnaryOp .Not a pos) (tNotD ta) :=
  PT.imp (pt_not h) fun σ H Q ⟨G, ρ, k, hs, hR, ht, hm, q⟩ => by
    unfold tNotD at hm
    cases h1 : ta ρ with
    | none => rw [h1] at hm; cases hm
    | some j =>
      rw [h1] at hm
      cases hm
      exact ⟨G, ρ, j, hs, hR, ht, h1, fun G1 H1 g1 => q G1 H1 g1⟩
/-- a test whatever its whole is -/
def PWD (X : Cx) (L : List Addr) (e : Expr) (m : _root_.DN.Env → Option Bool) : Prop := PW X e (tPT X.K L m)
theorem _root_.L2.PW.imp {X : Cx} {e : Expr} {t t' : TT} (h : PW X e t) (i : ∀ σ H Q, t' σ H Q → t σ H Q) : PW X e t' := ⟨fun wh pins s σ H Q I q => h.run wh pins s σ H Q I (i σ H Q q)⟩
theorem pwd_and1 (h : PTD X L a ta) : PWD X L (.BoolOp .And [a] pos) ta := pw_and1 h
theorem pwd_or1 (h : PTD X L a ta) : PWD X L (.BoolOp .Or [a] pos) ta := pw_or1 h
theorem pwd_and {rest : List Expr} (ha : PTD X L a ta) (hb : PWD X L (.BoolOp .And (b :: rest) pos) tb) : PWD X L (.BoolOp .And (a :: b :: rest) pos) (tAndD ta tb) :=
  PW.imp (pw_and ha hb) fun σ H Q ⟨G, ρ, k, hs, hR, ht, hm, q⟩ => by
    unfold tAndD at hm
    cases h1 : ta ρ with
    | none => rw [h1] at hm; cases hm
    | some j =>
      rw [h1] at hm
      refine ⟨G, ρ, j, hs, hR, ht, h1, fun G1 H1 g1 => ?_⟩
      cases j with
      | false => cases hm; exact q G1 H1 g1
      | true => exact ⟨G1, ρ, k, g1.sub, hR.mono g1.up, ht.ext g1.ext, hm, fun G2 H2 g2 => q G2 H2 (g1.trans g2)⟩
theorem pwd_or {rest : List Expr} (ha : PTD X L a ta) (hb : PWD X L (.BoolOp .Or (b :: rest) pos) tb) : PWD X L (.BoolOp .Or (a :: b :: rest) pos) (tOrD ta tb) :=
  PW.imp (pw_or ha hb) fun σ H Q ⟨G, ρ, k, hs, hR, ht, hm, q⟩ => by
    unfold tOrD at hm
    cases h1 : ta ρ with
    | none => rw [h1] at hm; cases hm
    | some j =>
      rw [h1] at hm
      refine ⟨G, ρ, j, hs, hR, ht, h1, fun G1 H1 g1 => ?_⟩
      cases j with
      | true => cases hm; exact q G1 H1 g1
      | false => exact ⟨G1, ρ, k, g1.sub, hR.mono g1.up, ht.ext g1.ext, hm, fun G2 H2 g2 => q G2 H2 (g1.trans g2)⟩
theorem ptd_w (h : PWD X L e ta) : PTD X L e ta := h.pt
theorem pd_ifExp {c : Expr} (hc : PTD X L c ta) (ha : PD X L a ma) (hb : PD X L b mb) : PD X L (.IfExp c a b pos) (dIf ta ma mb) :=
  PE.imp (pe_ifExp hc ha hb) fun σ H Q ⟨G, ρ, d, hs, hR, ht, hm, q⟩ => by
    unfold dIf at hm
    cases h1 : ta ρ with
    | none => rw [h1] at hm; cases hm
    | some j =>
      rw [h1] at hm
      refine ⟨G, ρ, j, hs, hR, ht, h1, fun G1 H1 g1 => ?_⟩
      cases j with
      | true => exact ⟨G1, ρ, d, g1.sub, hR.mono g1.up, ht.ext g1.ext, hm, fun v G2 H2 g2 a2 => q v G2 H2 (g1.trans g2) a2⟩
      | false => exact ⟨G1, ρ, d, g1.sub, hR.mono g1.up, ht.ext g1.ext, hm, fun v G2 H2 g2 a2 => q v G2 H2 (g1.trans g2) a2⟩
end
end DN

set_option Elab.async false
set_option linter.all false
set_option maxRecDepth 100000
set_option maxHeartbeats 2000000
/-! The operators over plain data. -/
namespace DN
open PySem PySem.Spec PyProof.Rows L2 GxR GX
theorem opR_or {X : Cx} {f : Value → Value → Sem Value} {r r' : R2} (h : OpR X f r) (h' : OpR X f r') : OpR X f (fun x y H Q => r x y H Q ∨ r' x y H Q) := fun pins s σ H x y v u Q I rx ry hh =>
  hh.elim (fun z => h pins s σ H x y v u Q I rx ry z) fun z => h' pins s σ H x y v u Q I rx ry z
theorem callR_or {X : Cx} {f : Value} {r r' : List V → Hp → VK → Prop} (h : CallR X f r) (h' : CallR X f r') : CallR X f (fun xs H Q => r xs H Q ∨ r' xs H Q) := fun pins s σ H xs us Q I rv hh =>
  hh.elim (fun z => h pins s σ H xs us Q I rv z) fun z => h' pins s σ H xs us Q I rv z
/-! + - * // percent ** and minus -/
def rStr2 : R2 := fun x y H Q => ∃ i j, x = .str i ∧ y = .str j ∧ i.length + j.length ≤ sizeLine ∧ Q (.str (i ++ j)) H
def gAdd : D → D → Option D
  | .int i, .int j => some (.int (i + j))
  | .lst a, .lst b => if a.length + b.length ≤ 1000000 then some (.lst (a ++ b)) else none
  | .str a, .str b => if a.length + b.length ≤ 1000000 then some (.str (a ++ b)) else none
  | .tup a, .tup b => if a.length + b.length ≤ 1000000 then some (.tup (a ++ b)) else none
  | _, _ => none
def rAdd (K : PySem.W.Frag) : R2 := fun x y H Q => rI0 (fun i j => .int (i + j)) x y H Q ∨ (rCat x y H Q ∨ (rStr2 x y H Q ∨ rCatA K x y H Q))
theorem op_addD {X : Cx} : OpR X (binaryOp .Add) (rAdd X.K) := opR_or op_add (opR_or op_cat (opR_or op_add_str op_catA))
section
variable {K : PySem.W.Frag} {L : List Addr}
theorem line_of {n : Nat} (h : n ≤ 1000000) : n ≤ sizeLine := Nat.le_trans h (by decide)
theorem dAdd : OpD K L (rAdd K) gAdd := fun G H x y d1 d2 d Q hs ht a1 a2 hg q => by
  cases d1 <;> cases d2 <;> simp only [gAdd, reduceCtorEq, Option.some.injEq, Option.ite_none_right_eq_some] at hg
  · subst hg
    exact .inl ⟨_, _, a1, a2, q _ G H (.refl hs) rfl⟩
  · obtain ⟨hl, rfl⟩ := hg
    exact .inr (.inr (.inl ⟨_, _, a1, a2, line_of hl, q _ G H (.refl hs) rfl⟩))
  · obtain ⟨hl, rfl⟩ := hg
    obtain ⟨p, xs, rfl, h1, t1⟩ := a1
    obtain ⟨p', ys, rfl, h2, t2⟩ := a2
    refine .inr (.inl ⟨p, p', xs, ys, rfl, rfl, (hs _ _ h1).1, (hs _ _ h2).1, by rw [t1.length, t2.length]; exact line_of hl, fun z hz => q _ (upd G z (.lst (xs ++ ys))) _ (.lay hs hz fun ps e => by cases e) ⟨z, _, rfl, upd_same, ?_⟩⟩)
    exact (t1.append t2).mono fun a o e => by rw [upd_ne (ne_of_none (hs a o e).1 hz)]; exact e
  · obtain ⟨hl, rfl⟩ := hg
    rename_i a b
    obtain ⟨p, xs, rfl, h1, t1⟩ := a1
    obtain ⟨p', ys, rfl, h2, t2⟩ := a2
    refine .inr (.inr (.inr ⟨p, p', xs, ys, rfl, rfl, SqT.of (hs _ _ h1).1, SqT.of (hs _ _ h2).1, by rw [t1.length, t2.length]; exact line_of hl, fun z => ?_, fun _ z => ?_, fun _ _ z hz => q _ (upd G z (.tup (xs ++ ys))) _ (.lay hs hz fun ps e => by cases e) ⟨z, _, rfl, upd_same, ?_⟩⟩))
    · subst z
      have : a = [] := List.length_eq_zero_iff.mp (by rw [← t1.length]; rfl)
      subst this
      exact q _ G H (.refl hs) ⟨p', ys, rfl, h2, t2⟩
    · subst z
      have : b = [] := List.length_eq_zero_iff.mp (by rw [← t2.length]; rfl)
      subst this
      exact q _ G H (.refl hs) ⟨p, xs, rfl, h1, by rw [List.append_nil]; exact t1⟩
    · exact (t1.append t2).mono fun a o e => by rw [upd_ne (ne_of_none (hs a o e).1 hz)]; exact e
def gSub : D → D → Option D
  | .int i, .int j => some (.int (i - j))
  | _, _ => none
theorem dSub : OpD K L (rI0 fun i j => .int (i - j)) gSub := fun G H x y d1 d2 d Q hs ht a1 a2 hg q => by
  cases d1 <;> cases d2 <;> simp only [gSub, reduceCtorEq, Option.some.injEq] at hg
  subst hg
  exact ⟨_, _, a1, a2, q _ G H (.refl hs) rfl⟩
def mulOk (i j : Int) : Bool := decide (i.natAbs < 18446744073709551616) || decide (j.natAbs < 18446744073709551616) || decide (i.natAbs.log2 + j.natAbs.log2 < 1000000)
def rMulS : R2 := fun x y H Q => ∃ z n, x = .str z ∧ y = .int n ∧ ((n = 0 ∧ Q (.str Str.empty) H) ∨ (n = 1 ∧ Q (.str z) H))
theorem op_mulS {X : Cx} : OpR X (binaryOp .Mult) rMulS := fun pins s σ H x y v u Q I rx ry h => by
  obtain ⟨z, n, rfl, rfl, h⟩ := h
  obtain ⟨t, rfl⟩ := rx
  obtain ⟨tu, rfl⟩ := ry
  rcases h with ⟨rfl, q⟩ | ⟨rfl, q⟩
  · exact PySem.P.mul_str_none (by decide) (by decide) ⟨.str Str.empty, H, I.tok _, ⟨_, rfl⟩, q⟩
  · refine PySem.P.mul_str (by decide) (fun _ h => by simp at h) (fun _ h => by simp at h) ?_
    rw [if_neg (by decide), if_pos (by simp)]
    exact ⟨.str z, H, I, ⟨_, rfl⟩, q⟩
def gMul : D → D → Option D
  | .int i, .int j => if mulOk i j = true then some (.int (i * j)) else none
  | .lst a, .int k => if k < 1000 ∧ -1000 < k ∧ a.length * k.toNat ≤ 1000000 then some (.lst (List.replicate k.toNat a).flatten) else none
  | .str z, .int n => if n = 0 then some (.str Str.empty) else if n = 1 then some (.str z) else none
  | _, _ => none
def rMulD : R2 := fun x y H Q => (rI CMul (fun i j => .int (i * j)) x y H Q ∨ rI CMulW (fun i j => .int (i * j)) x y H Q) ∨ (rRep x y H Q ∨ rMulS x y H Q)
theorem op_mulD {X : Cx} : OpR X (binaryOp .Mult) rMulD := opR_or (opR_or op_mul op_mulW) (opR_or op_rep op_mulS)
theorem small64 {i : Int} (h : i.natAbs < 18446744073709551616) : -(2 ^ 64) < i ∧ i < 2 ^ 64 := by
  constructor <;> omega
theorem dMul : OpD K L rMulD gMul := fun G H x y d1 d2 d Q hs ht a1 a2 hg q => by
  cases d1 <;> cases d2 <;> simp only [gMul, reduceCtorEq, Option.some.injEq, Option.ite_none_right_eq_some] at hg
  · rename_i i j
    obtain ⟨hl, rfl⟩ := hg
    unfold mulOk at hl
    simp only [Bool.or_eq_true, decide_eq_true_eq] at hl
    rcases hl with (h | h) | h
    · exact .inl (.inl ⟨_, _, a1, a2, .inl (small64 h), q _ G H (.refl hs) rfl⟩)
    · exact .inl (.inl ⟨_, _, a1, a2, .inr (small64 h), q _ G H (.refl hs) rfl⟩)
    · exact .inl (.inr ⟨_, _, a1, a2, h, q _ G H (.refl hs) rfl⟩)
  · rename_i z n
    refine .inr (.inr ⟨z, n, a1, a2, ?_⟩)
    by_cases h0 : n = 0
    · rw [if_pos h0] at hg
      cases hg
      exact .inl ⟨h0, q _ G H (.refl hs) rfl⟩
    · rw [if_neg h0] at hg
      by_cases h1 : n = 1
      · rw [if_pos h1] at hg
        cases hg
        exact .inr ⟨h1, q _ G H (.refl hs) rfl⟩
      · rw [if_neg h1] at hg
        cases hg
  · rename_i ds k
    obtain ⟨⟨hk1, hk2, hl⟩, rfl⟩ := hg
    obtain ⟨p, xs, rfl, h1, t1⟩ := a1
    refine .inr (.inl ⟨p, k, xs, rfl, a2, (hs _ _ h1).1, by omega, by omega, by rw [t1.length]; exact line_of hl, fun z hz => q _ (upd G z (.lst _)) _ (.lay hs hz fun ps e => by cases e) ⟨z, _, rfl, upd_same, ?_⟩⟩)
    exact (t1.flat _).mono fun a o e => by rw [upd_ne (ne_of_none (hs a o e).1 hz)]; exact e
def gFdiv : D → D → Option D
  | .int i, .int j => if 0 < j ∧ j.natAbs.log2 < 9000 then some (.int (i / j)) else none
  | _, _ => none
theorem dFdiv : OpD K L (rI CDivW fun i j => .int (i / j)) gFdiv := fun G H x y d1 d2 d Q hs ht a1 a2 hg q => by
  cases d1 <;> cases d2 <;> simp only [gFdiv, reduceCtorEq, Option.some.injEq, Option.ite_none_right_eq_some] at hg
  obtain ⟨hl, rfl⟩ := hg
  exact ⟨_, _, a1, a2, hl, q _ G H (.refl hs) rfl⟩
def gMod : D → D → Option D
  | .int i, .int j => if 0 < j then some (.int (i % j)) else none
  | _, _ => none
theorem dMod : OpD K L (rI (fun _ j => 0 < j) fun i j => .int (i % j)) gMod := fun G H x y d1 d2 d Q hs ht a1 a2 hg q => by
  cases d1 <;> cases d2 <;> simp only [gMod, reduceCtorEq, Option.some.injEq, Option.ite_none_right_eq_some] at hg
  obtain ⟨hl, rfl⟩ := hg
  exact ⟨_, _, a1, a2, hl, q _ G H (.refl hs) rfl⟩
def gPow : D → D → Option D
  | .int i, .int j => if 0 ≤ j ∧ j ≤ 1000000 ∧ i.natAbs < 2 ^ 64 then some (.int (i ^ j.toNat)) else none
  | _, _ => none
theorem dPow : OpD K L (rI CPow fun i j => .int (i ^ j.toNat)) gPow := fun G H x y d1 d2 d Q hs ht a1 a2 hg q => by
  cases d1 <;> cases d2 <;> simp only [gPow, reduceCtorEq, Option.some.injEq, Option.ite_none_right_eq_some] at hg
  obtain ⟨hl, rfl⟩ := hg
  exact ⟨_, _, a1, a2, hl, q _ G H (.refl hs) rfl⟩
def gNeg : D → Option D
  | .int i => some (.int (-i))
  | _ => none
theorem dNeg : UnD K L (rU fun i => .int (-i)) gNeg := fun G H x d1 d Q hs ht a1 hg q => by
  cases d1 <;> simp only [gNeg, reduceCtorEq, Option.some.injEq] at hg
  subst hg
  exact ⟨_, a1, q _ G H (.refl hs) rfl⟩
/-! comparisons of ints -/
def gI (p : Int → Int → Bool) : D → D → Option D
  | .int i, .int j => some (.bl (p i j))
  | _, _ => none
theorem dI {p : Int → Int → Bool} : OpD K L (rI0 fun i j => .bl (p i j)) (gI p) := fun G H x y d1 d2 d Q hs ht a1 a2 hg q => by
  cases d1 <;> cases d2 <;> simp only [gI, reduceCtorEq, Option.some.injEq] at hg
  subst hg
  exact ⟨_, _, a1, a2, q _ G H (.refl hs) rfl⟩
def pLt (i j : Int) : Bool := decide (i < j)
def pLe (i j : Int) : Bool := decide (i ≤ j)
def pGt (i j : Int) : Bool := decide (j < i)
def pGe (i j : Int) : Bool := decide (j ≤ i)
/-! == and != of data -/
mutual
def toPy : D → Option PyData
  | .non => some .none
  | .bl b => some (.bool b)
  | .int i => some (.int i)
  | .str s => some (.str s)
  | .lst ds => (toPys ds).map .list
  | .tup ds => (toPys ds).map .tuple
  | .dct => none
  | .scr _ => none
  | .obj _ _ _ => none
def toPys : List D → Option (List PyData)
  | [] => some []
  | d :: ds => (toPy d).bind fun p => (toPys ds).bind fun ps => some (p :: ps)
end
mutual
theorem dp_of {G H : Hp} (hs : Sub G H) : ∀ {d : D} {p : PyData} {v : V}, toPy d = some p → At K G d v → Dp K H v p
  | .non, p, v, h, a => by cases h; cases (show v = _ from a); exact .non
  | .bl b, p, v, h, a => by cases h; cases (show v = _ from a); exact .bl b
  | .int b, p, v, h, a => by cases h; cases (show v = _ from a); exact .int b
  | .str b, p, v, h, a => by cases h; cases (show v = _ from a); exact .str b
  | .lst ds, p, v, h, ⟨a, xs, e, h1, t⟩ => by
    unfold toPy at h
    cases q : toPys ds with
    | none => rw [q] at h; cases h
    | some ps =>
      rw [q] at h
      cases h
      subst e
      exact .lst (SqL.of (hs _ _ h1).1) (dps_of hs q t)
  | .tup ds, p, v, h, ⟨a, xs, e, h1, t⟩ => by
    unfold toPy at h
    cases q : toPys ds with
    | none => rw [q] at h; cases h
    | some ps =>
      rw [q] at h
      cases h
      subst e
      exact .tup (SqT.of (hs _ _ h1).1) (dps_of hs q t)
theorem dps_of {G H : Hp} (hs : Sub G H) : ∀ {ds : List D} {ps : List PyData} {xs : List V}, toPys ds = some ps → Ats K G ds xs → DpAll K H xs ps
  | [], ps, xs, h, a => by cases h; rw [show xs = [] from a]; exact .nil
  | d :: ds, ps, xs, h, ⟨x, r, e, h1, t⟩ => by
    unfold toPys at h
    cases q1 : toPy d with
    | none => rw [q1] at h; cases h
    | some p =>
      cases q2 : toPys ds with
      | none => rw [q1, q2] at h; cases h
      | some ps' =>
        rw [q1, q2] at h
        cases h
        subst e
        exact .cons (dp_of hs q1 h1) (dps_of hs q2 t)
end
def gEqv0 (neg : Bool) (d e : D) : Option D := (toPy d).bind fun p => (toPy e).bind fun q => if SeqAt.shaped p = true ∧ SeqAt.shaped q = true then some (.bl (if neg = true then !PyData.eqv p q else PyData.eqv p q)) else none
/-! the same data, empty dicts in it -/
mutual
def sameD : D → D → Bool
  | .non, .non => true
  | .bl a, .bl b => decide (a = b)
  | .int a, .int b => decide (a = b)
  | .str a, .str b => decide (a = b)
  | .lst a, .lst b => sameDs a b
  | .tup a, .tup b => sameDs a b
  | .dct, .dct => true
  | _, _ => false
def sameDs : List D → List D → Bool
  | [], [] => true
  | a :: as, b :: bs => sameD a b && sameDs as bs
  | _, _ => false
end
mutual
/-- no scripts, no objects, of a nesting below n -/
def okS : Nat → D → Bool
  | _, .non => true
  | _, .bl _ => true
  | _, .int _ => true
  | _, .str _ => true
  | _, .dct => true
  | n + 1, .lst ds => okSs n ds
  | n + 1, .tup ds => okSs n ds
  | _, _ => false
def okSs : Nat → List D → Bool
  | _, [] => true
  | n, d :: ds => okS n d && okSs n ds
end
mutual
theorem same_eq : ∀ {d e : D}, sameD d e = true → d = e
  | .non, .non, _ => rfl
  | .bl a, .bl b, h => by unfold sameD at h; rw [of_decide_eq_true h]
  | .int a, .int b, h => by unfold sameD at h; rw [of_decide_eq_true h]
  | .str a, .str b, h => by unfold sameD at h; rw [of_decide_eq_true h]
  | .lst a, .lst b, h => by unfold sameD at h; rw [sames_eq h]
  | .tup a, .tup b, h => by unfold sameD at h; rw [sames_eq h]
  | .dct, .dct, _ => rfl
theorem sames_eq : ∀ {ds es : List D}, sameDs ds es = true → ds = es
  | [], [], _ => rfl
  | a :: as, b :: bs, h => by
    unfold sameDs at h
    rw [Bool.and_eq_true] at h
    rw [same_eq h.1, sames_eq h.2]
end
theorem empty_dict {P : Program} {w : World} {H : Hp} {h : Heap} {a : Addr} (e : ObjOk P w H h a (.dK [])) (P' : Program) (w' : World) : (a == sysModules) = false ∧ h.DictOf (mixKind P' w') a ([] : List (Key × Value)) := by
  obtain ⟨_, low, vs, kv, o, es, ep, h1, h2, h3, h4, h5, h6⟩ := e
  cases kv
  have he : es.toList = [] := by cases h5' : es.toList with
    | nil => rfl
    | cons x y => rw [h5'] at h5; cases h5
  obtain ⟨es⟩ := es
  have he : es = [] := he
  subst he
  refine ⟨low, o, #[], ep, h1, h2, h3, ?_, .nil, List.nodup_nil⟩
  intro i hi
  first | (simp at hi) | exact absurd hi (by simp)
def seqD : D → Bool
  | .lst _ => true
  | .tup _ => true
  | _ => false
section
variable {X : Cx} {pins : List (Addr × Obj)} {σ : L2.St} {G H : Hp} {s : Shared}
mutual
theorem eqat (I : Inv X pins σ H s) (hs : Sub G H) : ∀ (n : Nat) (d : D) (A : Around) (x y : V) (v u : Value), okS n d = true → A.units + n + 1 < cLine → At X.K G d x → At X.K G d y → RelV x v → RelV y u → SeqAt.EqAt A s v u true
  | _, .non, A, x, y, v, u, _, _, a, b, rx, ry => by
    cases (show x = _ from a); cases (show y = _ from b)
    exact eqAt_same rx ry rfl
  | _, .bl k, A, x, y, v, u, _, _, a, b, rx, ry => by
    cases (show x = _ from a); cases (show y = _ from b)
    exact eqAt_same rx ry rfl
  | _, .int k, A, x, y, v, u, _, _, a, b, rx, ry => by
    cases (show x = _ from a); cases (show y = _ from b)
    exact eqAt_same rx ry rfl
  | _, .str k, A, x, y, v, u, _, _, a, b, rx, ry => by
    cases (show x = _ from a); cases (show y = _ from b)
    exact eqAt_same rx ry rfl
  | n, .dct, A, x, y, v, u, _, hu, a, b, rx, ry => by
    obtain ⟨p, rfl, h1⟩ := a
    obtain ⟨p', rfl, h2⟩ := b
    cases (show v = Value.ref p from rx)
    cases (show u = Value.ref p' from ry)
    by_cases e : p = p'
    · subst e; exact SeqAt.EqAt.same _
    · refine SeqAt.EqAt.of_refs e fun P' w' E Q q => ?_
      obtain ⟨l1, d1⟩ := empty_dict (I.hok p _ (hs _ _ h1).1) P' w'
      obtain ⟨l2, d2⟩ := empty_dict (I.hok p' _ (hs _ _ h2).1) P' w'
      exact PySem.W.rcP_dicts (knd := mixKind P' w') (r := true) l1 l2 d1 d2 (by omega) (fun _ => .nil) E Q q
  | n + 1, .lst ds, A, x, y, v, u, h, hu, a, b, rx, ry => by
    obtain ⟨p, xs, rfl, h1, t1⟩ := a
    obtain ⟨p', ys, rfl, h2, t2⟩ := b
    cases (show v = Value.ref p from rx)
    cases (show u = Value.ref p' from ry)
    by_cases e : p = p'
    · subst e; exact SeqAt.EqAt.same _
    · obtain ⟨us, r1, p1, _⟩ := I.list (SqL.of (hs _ _ h1).1)
      obtain ⟨ws, r2, p2, _⟩ := I.list (SqL.of (hs _ _ h2).1)
      unfold okS at h
      have hsz : us.toArray.size = ws.toArray.size := by
        rw [List.size_toArray, List.size_toArray, ← r1.length, ← r2.length, t1.length, t2.length]
      have k := SeqAt.RcAt.lists (A := A) (e := fun _ => true) p1.isList p2.isList hsz (by omega) fun j j1 j2 => by
        have := eqats I hs n ds A.in1 xs ys us ws h (by show A.units + 1 + n + 1 < cLine; omega) t1 t2 r1 r2 j (by simpa using j1) (by simpa using j2)
        simpa using this
      rw [show ((List.range us.toArray.size).all fun _ => true) = true from List.all_eq_true.mpr fun _ _ => rfl] at k
      exact SeqAt.EqAt.of_refs e k
  | n + 1, .tup ds, A, x, y, v, u, h, hu, a, b, rx, ry => by
    obtain ⟨p, xs, rfl, h1, t1⟩ := a
    obtain ⟨p', ys, rfl, h2, t2⟩ := b
    cases (show v = Value.ref p from rx)
    cases (show u = Value.ref p' from ry)
    by_cases e : p = p'
    · subst e; exact SeqAt.EqAt.same _
    · obtain ⟨us, r1, p1, _⟩ := I.tuple (SqT.of (hs _ _ h1).1)
      obtain ⟨ws, r2, p2, _⟩ := I.tuple (SqT.of (hs _ _ h2).1)
      unfold okS at h
      have hsz : us.toArray.size = ws.toArray.size := by
        rw [List.size_toArray, List.size_toArray, ← r1.length, ← r2.length, t1.length, t2.length]
      have k := SeqAt.RcAt.tuples (A := A) (e := fun _ => true) p1 p2 (by omega) fun j j1 j2 => by
        have := eqats I hs n ds A.in1 xs ys us ws h (by show A.units + 1 + n + 1 < cLine; omega) t1 t2 r1 r2 j (by simpa using j1) (by simpa using j2)
        simpa using this
      rw [show ((List.range (min us.toArray.size ws.toArray.size)).all fun _ => true) = true from List.all_eq_true.mpr fun _ _ => rfl, hsz] at k
      simp only [Bool.true_and, beq_self_eq_true] at k
      exact SeqAt.EqAt.of_refs e k
  | 0, .lst ds, A, x, y, v, u, h, _, _, _, _, _ => by unfold okS at h; cases h
  | 0, .tup ds, A, x, y, v, u, h, _, _, _, _, _ => by unfold okS at h; cases h
  | _, .scr ds, A, x, y, v, u, h, _, _, _, _, _ => by unfold okS at h; cases h
  | _, .obj c k ds, A, x, y, v, u, h, _, _, _, _, _ => by unfold okS at h; cases h
theorem eqats (I : Inv X pins σ H s) (hs : Sub G H) : ∀ (n : Nat) (ds : List D) (A : Around) (xs ys : List V) (us ws : List Value), okSs n ds = true → A.units + n + 1 < cLine → Ats X.K G ds xs → Ats X.K G ds ys → Vals xs us → Vals ys ws → ∀ j (j1 : j < us.length) (j2 : j < ws.length), SeqAt.EqAt A s us[j] ws[j] true
  | n, [], A, xs, ys, us, ws, _, _, a, b, r1, r2, j, j1, j2 => by
    cases (show xs = [] from a)
    cases r1
    exact absurd j1 (Nat.not_lt_zero j)
  | n, d :: ds, A, xs, ys, us, ws, h, hu, ⟨x, r, e1, a, t1⟩, ⟨y, r', e2, b, t2⟩, r1, r2, j, j1, j2 => by
    subst e1 e2
    unfold okSs at h
    rw [Bool.and_eq_true] at h
    cases r1 with
    | cons q1 w1 =>
      cases r2 with
      | cons q2 w2 =>
        cases j with
        | zero => exact eqat I hs n d A x y _ _ h.1 hu a b q1 q2
        | succ j => exact eqats I hs n ds A r r' _ _ h.2 hu t1 t2 w1 w2 j (Nat.lt_of_succ_lt_succ j1) (Nat.lt_of_succ_lt_succ j2)
end
/-- x == y, the same lists or tuples -/
def rSame (K : PySem.W.Frag) (b : Bool) : R2 := fun x y H Q => ∃ (G : Hp) (d : D), Sub G H ∧ okS 60 d = true ∧ seqD d = true ∧ At K G d x ∧ At K G d y ∧ Q (.bl b) H
theorem op_same (hu : X.A.units + 64 < cLine) : OpR X (compareOp .Eq) (rSame X.K true) := by
  intro pins s σ H x y v u Q I rx ry h
  obtain ⟨G, d, hs, ok, sq, a, b, q⟩ := h
  cases d with
  | lst ds =>
    obtain ⟨p, xs, rfl, h1, t1⟩ := a
    obtain ⟨p', ys, rfl, h2, t2⟩ := b
    cases (show v = Value.ref p from rx)
    cases (show u = Value.ref p' from ry)
    obtain ⟨us, r1, p1, _⟩ := I.list (SqL.of (hs _ _ h1).1)
    obtain ⟨ws, r2, p2, _⟩ := I.list (SqL.of (hs _ _ h2).1)
    unfold okS at ok
    have hsz : us.toArray.size = ws.toArray.size := by
      rw [List.size_toArray, List.size_toArray, ← r1.length, ← r2.length, t1.length, t2.length]
    have k := SeqAt.RcAt.lists (A := X.A) (e := fun _ => true) p1.isList p2.isList hsz (by omega) fun j j1 j2 => by
      have := eqats I hs 59 ds X.A.in1 xs ys us ws ok (by show X.A.units + 1 + 59 + 1 < cLine; omega) t1 t2 r1 r2 j (by simpa using j1) (by simpa using j2)
      simpa using this
    rw [show ((List.range us.toArray.size).all fun _ => true) = true from List.all_eq_true.mpr fun _ _ => rfl] at k
    exact k X.prog X.w _ _ ⟨.bl true, H, I, rfl, q⟩
  | tup ds =>
    obtain ⟨p, xs, rfl, h1, t1⟩ := a
    obtain ⟨p', ys, rfl, h2, t2⟩ := b
    cases (show v = Value.ref p from rx)
    cases (show u = Value.ref p' from ry)
    obtain ⟨us, r1, p1, _⟩ := I.tuple (SqT.of (hs _ _ h1).1)
    obtain ⟨ws, r2, p2, _⟩ := I.tuple (SqT.of (hs _ _ h2).1)
    unfold okS at ok
    have hsz : us.toArray.size = ws.toArray.size := by
      rw [List.size_toArray, List.size_toArray, ← r1.length, ← r2.length, t1.length, t2.length]
    have k := SeqAt.RcAt.tuples (A := X.A) (e := fun _ => true) p1 p2 (by omega) fun j j1 j2 => by
      have := eqats I hs 59 ds X.A.in1 xs ys us ws ok (by show X.A.units + 1 + 59 + 1 < cLine; omega) t1 t2 r1 r2 j (by simpa using j1) (by simpa using j2)
      simpa using this
    rw [show ((List.range (min us.toArray.size ws.toArray.size)).all fun _ => true) = true from List.all_eq_true.mpr fun _ _ => rfl, hsz] at k
    simp only [Bool.true_and, beq_self_eq_true] at k
    exact k X.prog X.w _ _ ⟨.bl true, H, I, rfl, q⟩
  | _ => cases sq
theorem op_nsame (hu : X.A.units + 64 < cLine) : OpR X (compareOp .NotEq) (rSame X.K false) := by
  intro pins s σ H x y v u Q I rx ry h
  obtain ⟨G, d, hs, ok, sq, a, b, q⟩ := h
  cases d with
  | lst ds =>
    obtain ⟨p, xs, rfl, h1, t1⟩ := a
    obtain ⟨p', ys, rfl, h2, t2⟩ := b
    cases (show v = Value.ref p from rx)
    cases (show u = Value.ref p' from ry)
    obtain ⟨us, r1, p1, _⟩ := I.list (SqL.of (hs _ _ h1).1)
    obtain ⟨ws, r2, p2, _⟩ := I.list (SqL.of (hs _ _ h2).1)
    unfold okS at ok
    have hsz : us.toArray.size = ws.toArray.size := by
      rw [List.size_toArray, List.size_toArray, ← r1.length, ← r2.length, t1.length, t2.length]
    have k := SeqAt.RcNeAt.lists (A := X.A) (e := fun _ => true) p1.isList p2.isList hsz (by omega) fun j j1 j2 => by
      have := eqats I hs 59 ds X.A.in1 xs ys us ws ok (by show X.A.units + 1 + 59 + 1 < cLine; omega) t1 t2 r1 r2 j (by simpa using j1) (by simpa using j2)
      simpa using this
    rw [show ((List.range us.toArray.size).all fun _ => true) = true from List.all_eq_true.mpr fun _ _ => rfl] at k
    exact k X.prog X.w _ _ ⟨.bl false, H, I, rfl, q⟩
  | tup ds =>
    obtain ⟨p, xs, rfl, h1, t1⟩ := a
    obtain ⟨p', ys, rfl, h2, t2⟩ := b
    cases (show v = Value.ref p from rx)
    cases (show u = Value.ref p' from ry)
    obtain ⟨us, r1, p1, _⟩ := I.tuple (SqT.of (hs _ _ h1).1)
    obtain ⟨ws, r2, p2, _⟩ := I.tuple (SqT.of (hs _ _ h2).1)
    unfold okS at ok
    have hsz : us.toArray.size = ws.toArray.size := by
      rw [List.size_toArray, List.size_toArray, ← r1.length, ← r2.length, t1.length, t2.length]
    have k := SeqAt.RcNeAt.tuples (A := X.A) (e := fun _ => true) p1 p2 (by omega) fun j j1 j2 => by
      have := eqats I hs 59 ds X.A.in1 xs ys us ws ok (by show X.A.units + 1 + 59 + 1 < cLine; omega) t1 t2 r1 r2 j (by simpa using j1) (by simpa using j2)
      simpa using this
    rw [show ((List.range (min us.toArray.size ws.toArray.size)).all fun _ => true) = true from List.all_eq_true.mpr fun _ _ => rfl, hsz] at k
    simp only [Bool.true_and, beq_self_eq_true, Bool.not_true] at k
    exact k X.prog X.w _ _ ⟨.bl false, H, I, rfl, q⟩
  | _ => cases sq
end
def gEqv (neg : Bool) (d e : D) : Option D := match gEqv0 neg d e with
  | some r => some r
  | none => if sameD d e = true ∧ okS 60 d = true ∧ seqD d = true then some (.bl (!neg)) else none
theorem eqv_0 {neg : Bool} {d e r : D} (h : gEqv0 neg d e = some r) : gEqv neg d e = some r := by unfold gEqv; rw [h]
theorem op_eqX {X : Cx} (hu : X.A.units + 64 < cLine) : OpR X (compareOp .Eq) (fun x y H Q => rEqD X.K x y H Q ∨ rSame X.K true x y H Q) := opR_or (op_eqD hu) (op_same hu)
theorem op_neX {X : Cx} (hu : X.A.units + 64 < cLine) : OpR X (compareOp .NotEq) (fun x y H Q => rNeD X.K x y H Q ∨ rSame X.K false x y H Q) := opR_or (op_neD hu) (op_nsame hu)
theorem eqv_same {neg : Bool} {d1 d2 d : D} (h0 : gEqv0 neg d1 d2 = none) (hg : gEqv neg d1 d2 = some d) : d1 = d2 ∧ okS 60 d1 = true ∧ seqD d1 = true ∧ d = .bl (!neg) := by
  unfold gEqv at hg
  rw [h0] at hg
  simp only [Option.ite_none_right_eq_some, Option.some.injEq] at hg
  exact ⟨same_eq hg.1.1, hg.1.2.1, hg.1.2.2, hg.2.symm⟩
theorem dEq : OpD K L (fun x y H Q => rEqD K x y H Q ∨ rSame K true x y H Q) (gEqv false) := fun G H x y d1 d2 d Q hs ht a1 a2 hg q => by
  cases h0 : gEqv0 false d1 d2 with
  | none =>
    obtain ⟨rfl, h1, h2, rfl⟩ := eqv_same h0 hg
    exact .inr ⟨G, d1, hs, h1, h2, a1, a2, q _ G H (.refl hs) rfl⟩
  | some r =>
    rw [eqv_0 h0] at hg
    cases hg
    refine .inl ?_
    unfold gEqv0 at h0
    cases h1 : toPy d1 with
    | none => rw [h1] at h0; cases h0
    | some p1 =>
      cases h2 : toPy d2 with
      | none => rw [h1, h2] at h0; cases h0
      | some p2 =>
        rw [h1, h2] at h0
        simp only [Option.bind_some, Option.ite_none_right_eq_some, Option.some.injEq, Bool.false_eq_true, if_false] at h0
        obtain ⟨⟨s1, s2⟩, rfl⟩ := h0
        exact ⟨p1, p2, dp_of hs h1 a1, dp_of hs h2 a2, s1, s2, q _ G H (.refl hs) rfl⟩
theorem dNe : OpD K L (fun x y H Q => rNeD K x y H Q ∨ rSame K false x y H Q) (gEqv true) := fun G H x y d1 d2 d Q hs ht a1 a2 hg q => by
  cases h0 : gEqv0 true d1 d2 with
  | none =>
    obtain ⟨rfl, h1, h2, rfl⟩ := eqv_same h0 hg
    exact .inr ⟨G, d1, hs, h1, h2, a1, a2, q _ G H (.refl hs) rfl⟩
  | some r =>
    rw [eqv_0 h0] at hg
    cases hg
    refine .inl ?_
    unfold gEqv0 at h0
    cases h1 : toPy d1 with
    | none => rw [h1] at h0; cases h0
    | some p1 =>
      cases h2 : toPy d2 with
      | none => rw [h1, h2] at h0; cases h0
      | some p2 =>
        rw [h1, h2] at h0
        simp only [Option.bind_some, Option.ite_none_right_eq_some, Option.some.injEq, if_true] at h0
        obtain ⟨⟨s1, s2⟩, rfl⟩ := h0
        exact ⟨p1, p2, dp_of hs h1 a1, dp_of hs h2 a2, s1, s2, q _ G H (.refl hs) rfl⟩
/-! is None -/
def gIsN (neg : Bool) : D → D → Option D
  | .non, .non => some (.bl (!neg))
  | _, .non => some (.bl neg)
  | _, _ => none
def isNon : D → Bool
  | .non => true
  | _ => false
theorem non_iff {G : Hp} {d : D} {v : V} (a : At K G d v) : decide (v = .non) = isNon d := by
  cases d with
  | non => rw [show v = .non from a]; rfl
  | bl b => rw [show v = .bl b from a]; rfl
  | int b => rw [show v = .int b from a]; rfl
  | str b => rw [show v = .str b from a]; exact decide_eq_false (by intro z; cases z)
  | lst ds => obtain ⟨a, xs, rfl, _⟩ := a; exact decide_eq_false (by intro z; cases z)
  | tup ds => obtain ⟨a, xs, rfl, _⟩ := a; exact decide_eq_false (by intro z; cases z)
  | dct => obtain ⟨a, rfl, _⟩ := a; exact decide_eq_false (by intro z; cases z)
  | scr ns => obtain ⟨a, rfl, _⟩ := a; exact decide_eq_false (by intro z; cases z)
  | obj c ks ds => obtain ⟨a, C, dx, xs, rfl, _⟩ := a; exact decide_eq_false (by intro z; cases z)
theorem dIsN : OpD K L (fun x y H Q => y = .non ∧ Q (.bl (decide (x = .non))) H) (gIsN false) := fun G H x y d1 d2 d Q hs ht a1 a2 hg q => by
  cases d2 with
  | non =>
    refine ⟨a2, ?_⟩
    rw [non_iff a1]
    cases d1 <;> cases hg <;> exact q _ G H (.refl hs) rfl
  | _ => cases d1 <;> cases hg
theorem dNotN : OpD K L (fun x y H Q => y = .non ∧ Q (.bl (!decide (x = .non))) H) (gIsN true) := fun G H x y d1 d2 d Q hs ht a1 a2 hg q => by
  cases d2 with
  | non =>
    refine ⟨a2, ?_⟩
    rw [non_iff a1]
    cases d1 <;> cases hg <;> exact q _ G H (.refl hs) rfl
  | _ => cases d1 <;> cases hg
/-! items -/
def gIx : D → D → Option D
  | .lst ds, .int i => atI ds i
  | .tup ds, .int i => atI ds i
  | .scr ns, .int i => (atI ns i).map .int
  | .str z, .int i => if z.length ≤ 1000000 then (atI z.cps.toList i).map fun c => .str ⟨#[c]⟩ else none
  | _, _ => none
def rIxD (K : PySem.W.Frag) : R2 := fun x y H Q => rIxL K x y H Q ∨ (rIxT K x y H Q ∨ rIxS x y H Q)
theorem ixR_or {X : Cx} {r r' : R2} (h : IxR X r) (h' : IxR X r') : IxR X (fun x y H Q => r x y H Q ∨ r' x y H Q) := fun a b pins s σ H x y v u Q I rx ry hh hp =>
  hh.elim (fun z => h a b pins s σ H x y v u Q I rx ry z hp) fun z => h' a b pins s σ H x y v u Q I rx ry z hp
theorem ix_D {X : Cx} : IxR X (rIxD X.K) := ixR_or ix_list (ixR_or ix_tup ix_str)
theorem Ats.atI {G : Hp} {ds : List D} {xs : List V} {i : Int} {d : D} (t : Ats K G ds xs) (h : L2.atI ds i = some d) : ∃ x, L2.atI xs i = some x ∧ At K G d x := by
  unfold L2.atI at h ⊢
  rw [t.length]
  cases q : ixN ds.length i with
  | none => rw [q] at h; cases h
  | some j =>
    rw [q] at h
    exact t.get h
theorem dIx : OpD K L (rIxD K) gIx := fun G H x y d1 d2 d Q hs ht a1 a2 hg q => by
  cases d1 <;> cases d2 <;> simp only [gIx, reduceCtorEq, Option.ite_none_right_eq_some] at hg
  · obtain ⟨hl, hg⟩ := hg
    rename_i z i
    cases e : L2.atI z.cps.toList i with
    | none => rw [e] at hg; cases hg
    | some c =>
      rw [e] at hg
      cases hg
      exact .inr (.inr ⟨z, i, c, a1, a2, line_of hl, e, q _ G H (.refl hs) rfl⟩)
  · obtain ⟨p, xs, rfl, h1, t1⟩ := a1
    obtain ⟨v, hv, av⟩ := t1.atI hg
    exact .inl ⟨p, xs, _, v, rfl, a2, SqL.of (hs _ _ h1).1, hv, q v G H (.refl hs) av⟩
  · obtain ⟨p, xs, rfl, h1, t1⟩ := a1
    obtain ⟨v, hv, av⟩ := t1.atI hg
    exact .inr (.inl ⟨p, xs, _, v, rfl, a2, SqT.of (hs _ _ h1).1, hv, q v G H (.refl hs) av⟩)
  · rename_i ns i
    obtain ⟨p, rfl, h1⟩ := a1
    cases e : L2.atI ns i with
    | none => rw [e] at hg; cases hg
    | some n =>
      rw [e] at hg
      cases hg
      have h2 : SqL K H p (ns.map V.int) := by
        rcases h1 with (h | ⟨o, h⟩) | h
        · exact .inl (.inl (hs _ _ h).1)
        · exact .inl (.inr ⟨o, (hs _ _ h).1⟩)
        · exact .inr h
      refine .inl ⟨p, ns.map V.int, i, .int n, rfl, a2, h2, ?_, q _ G H (.refl hs) rfl⟩
      unfold L2.atI at e ⊢
      rw [List.length_map]
      cases z : ixN ns.length i with
      | none => rw [z] at e; cases e
      | some j =>
        rw [z] at e
        show (ns.map V.int)[j]? = _
        rw [List.getElem?_map, show ns[j]? = some n from e]
        rfl
/-! calls by values -/
theorem scr_read {G H : Hp} {p : Addr} {ns : List Int} (hs : Sub G H) (h1 : SqL K G p (ns.map V.int)) : SqL K H p (ns.map V.int) := by
  rcases h1 with (h | ⟨o, h⟩) | h
  · exact .inl (.inl (hs _ _ h).1)
  · exact .inl (.inr ⟨o, (hs _ _ h).1⟩)
  · exact .inr h
def g1 (g : D → Option D) : List D → Option D
  | [d] => g d
  | _ => none
theorem g1_of {g : D → Option D} {G : Hp} {ds : List D} {d : D} {xs : List V} (a : Ats K G ds xs) (h : g1 g ds = some d) : ∃ e x, ds = [e] ∧ xs = [x] ∧ At K G e x ∧ g e = some d := by
  cases ds with
  | nil => cases h
  | cons e r =>
    cases r with
    | cons _ _ => cases h
    | nil =>
      obtain ⟨x, r, rfl, ax, hr⟩ := a
      obtain rfl : r = [] := hr
      exact ⟨e, x, rfl, rfl, ax, h⟩
def gg2 (g : D → D → Option D) : List D → Option D
  | [d, e] => g d e
  | _ => none
theorem gg2_of {g : D → D → Option D} {G : Hp} {ds : List D} {d : D} {xs : List V} (a : Ats K G ds xs) (h : gg2 g ds = some d) : ∃ e f x y, ds = [e, f] ∧ xs = [x, y] ∧ At K G e x ∧ At K G f y ∧ g e f = some d := by
  cases ds with
  | nil => cases h
  | cons e r =>
    cases r with
    | nil => cases h
    | cons f r =>
      cases r with
      | cons _ _ => cases h
      | nil =>
        obtain ⟨x, r, rfl, ax, y, r2, rfl, ay, hr⟩ := a
        obtain rfl : r2 = [] := hr
        exact ⟨e, f, x, y, rfl, rfl, ax, ay, h⟩
def hLen : D → Option D
  | .lst ds => some (.int ds.length)
  | .tup ds => some (.int ds.length)
  | .scr ns => some (.int ns.length)
  | .str z => if z.length ≤ 1000000 then some (.int z.length) else none
  | _ => none
def gLen : List D → Option D := g1 hLen
def rLenD (K : PySem.W.Frag) : List V → Hp → VK → Prop := fun xs H Q => (∃ p ys, xs = [.ref p] ∧ (SqL K H p ys ∨ SqT K H p ys) ∧ Q (.int ys.length) H) ∨ ∃ z, xs = [.str z] ∧ z.length ≤ sizeLine ∧ Q (.int z.length) H
theorem call_lenD {X : Cx} : CallR X (.builtin "len") (rLenD X.K) := callR_or call_len_seq call_len_str
theorem dLen : CallD K L (rLenD K) gLen := fun G H xs ds d Q hs ht a hg q => by
  obtain ⟨e, x, rfl, rfl, ax, h⟩ := g1_of a hg
  cases e <;> simp only [hLen, reduceCtorEq, Option.some.injEq, Option.ite_none_right_eq_some] at h
  · obtain ⟨hl, rfl⟩ := h
    exact .inr ⟨_, by rw [ax], line_of hl, q _ G H (.refl hs) rfl⟩
  · subst h
    obtain ⟨p, ys, rfl, h1, t1⟩ := ax
    rw [← t1.length] at q
    exact .inl ⟨p, ys, rfl, .inl (SqL.of (hs _ _ h1).1), q _ G H (.refl hs) rfl⟩
  · subst h
    obtain ⟨p, ys, rfl, h1, t1⟩ := ax
    rw [← t1.length] at q
    exact .inl ⟨p, ys, rfl, .inr (SqT.of (hs _ _ h1).1), q _ G H (.refl hs) rfl⟩
  · subst h
    rename_i ns
    obtain ⟨p, rfl, h1⟩ := ax
    have e3 : ns.length = (ns.map V.int).length := by rw [List.length_map]
    rw [e3] at q
    exact .inl ⟨p, _, rfl, .inl (scr_read hs h1), q _ G H (.refl hs) rfl⟩
def hInt : D → Option D
  | .int i => some (.int i)
  | .bl k => some (.int (if k then 1 else 0))
  | _ => none
def gInt : List D → Option D := g1 hInt
theorem dIntC : CallD K L (fun xs H Q => (∃ i, xs = [.int i] ∧ Q (.int i) H) ∨ ∃ k, xs = [.bl k] ∧ Q (.int (if k then 1 else 0)) H) gInt := fun G H xs ds d Q hs ht a hg q => by
  obtain ⟨e, x, rfl, rfl, ax, h⟩ := g1_of a hg
  cases e <;> simp only [hInt, reduceCtorEq, Option.some.injEq] at h
  · subst h
    cases (show x = _ from ax)
    exact .inr ⟨_, rfl, q _ G H (.refl hs) rfl⟩
  · subst h
    cases (show x = _ from ax)
    exact .inl ⟨_, rfl, q _ G H (.refl hs) rfl⟩
def h2 (p : Int → Int → Int) : D → D → Option D
  | .int i, .int j => some (.int (p i j))
  | _, _ => none
def g2 (p : Int → Int → Int) : List D → Option D := gg2 (h2 p)
theorem d2 {p : Int → Int → Int} : CallD K L (fun xs H Q => ∃ i j, xs = [.int i, .int j] ∧ Q (.int (p i j)) H) (g2 p) := fun G H xs ds d Q hs ht a hg q => by
  obtain ⟨e, f, x, y, rfl, rfl, ax, ay, h⟩ := gg2_of a hg
  cases e <;> cases f <;> simp only [h2, reduceCtorEq, Option.some.injEq] at h
  subst h
  cases (show x = _ from ax)
  cases (show y = _ from ay)
  exact ⟨_, _, rfl, q _ G H (.refl hs) rfl⟩
def pMax (i j : Int) : Int := if j > i then j else i
def pMin (i j : Int) : Int := if j < i then j else i
def hAbs : D → Option D
  | .int i => some (.int (if i < 0 then -i else i))
  | _ => none
def gAbs : List D → Option D := g1 hAbs
theorem dAbs : CallD K L (fun xs H Q => ∃ i, xs = [.int i] ∧ Q (.int (if i < 0 then -i else i)) H) gAbs := fun G H xs ds d Q hs ht a hg q => by
  obtain ⟨e, x, rfl, rfl, ax, h⟩ := g1_of a hg
  cases e <;> simp only [hAbs, reduceCtorEq, Option.some.injEq] at h
  subst h
  cases (show x = _ from ax)
  exact ⟨_, rfl, q _ G H (.refl hs) rfl⟩
def hList : D → Option D
  | .lst ds => some (.lst ds)
  | .tup ds => some (.lst ds)
  | .scr ns => some (.lst (ns.map .int))
  | _ => none
def gList : List D → Option D := g1 hList
def rListD (K : PySem.W.Frag) : List V → Hp → VK → Prop := fun xs H Q => ∃ p ys, xs = [.ref p] ∧ (SqL K H p ys ∨ SqT K H p ys) ∧ ∀ l, H l = none → Q (.ref l) (upd H l (.lst ys))
theorem newL {G H : Hp} {ds : List D} {ys : List V} {p : Addr} {Q : VK} (hs : Sub G H) (t : Ats K G ds ys) (hp : H p = none) (q : ∀ v G' H', Gr L G H G' H' → At K G' (.lst ds) v → Q v H') : Q (.ref p) (upd H p (.lst ys)) :=
  q _ (upd G p (.lst ys)) _ (.lay hs hp fun ps e => by cases e) ⟨p, ys, rfl, upd_same, t.mono fun a o e => by rw [upd_ne (ne_of_none (hs a o e).1 hp)]; exact e⟩
theorem newT {G H : Hp} {ds : List D} {ys : List V} {p : Addr} {Q : VK} (hs : Sub G H) (t : Ats K G ds ys) (hp : H p = none) (q : ∀ v G' H', Gr L G H G' H' → At K G' (.tup ds) v → Q v H') : Q (.ref p) (upd H p (.tup ys)) :=
  q _ (upd G p (.tup ys)) _ (.lay hs hp fun ps e => by cases e) ⟨p, ys, rfl, upd_same, t.mono fun a o e => by rw [upd_ne (ne_of_none (hs a o e).1 hp)]; exact e⟩
theorem dListC : CallD K L (rListD K) gList := fun G H xs ds d Q hs ht a hg q => by
  obtain ⟨e, x, rfl, rfl, ax, h⟩ := g1_of a hg
  cases e <;> simp only [hList, reduceCtorEq, Option.some.injEq] at h
  · subst h
    obtain ⟨p, ys, rfl, h1, t1⟩ := ax
    exact ⟨p, ys, rfl, .inl (SqL.of (hs _ _ h1).1), fun l hl => newL hs t1 hl q⟩
  · subst h
    obtain ⟨p, ys, rfl, h1, t1⟩ := ax
    exact ⟨p, ys, rfl, .inr (SqT.of (hs _ _ h1).1), fun l hl => newL hs t1 hl q⟩
  · subst h
    rename_i ns
    obtain ⟨p, rfl, h1⟩ := ax
    exact ⟨p, _, rfl, .inl (scr_read hs h1), fun l hl => newL hs (ats_ints ns) hl q⟩
def hTuple : D → Option D
  | .lst ds => some (.tup ds)
  | .tup ds => some (.tup ds)
  | _ => none
def gTuple : List D → Option D := g1 hTuple
def rTupleD (K : PySem.W.Frag) : List V → Hp → VK → Prop := fun xs H Q => ∃ p ys, xs = [.ref p] ∧ ((SqL K H p ys ∧ ∀ l, H l = none → Q (.ref l) (upd H l (.tup ys))) ∨ (SqT K H p ys ∧ Q (.ref p) H))
theorem dTupleC : CallD K L (rTupleD K) gTuple := fun G H xs ds d Q hs ht a hg q => by
  obtain ⟨e, x, rfl, rfl, ax, h⟩ := g1_of a hg
  cases e <;> simp only [hTuple, reduceCtorEq, Option.some.injEq] at h
  · subst h
    obtain ⟨p, ys, rfl, h1, t1⟩ := ax
    exact ⟨p, ys, rfl, .inl ⟨SqL.of (hs _ _ h1).1, fun l hl => newT hs t1 hl q⟩⟩
  · subst h
    obtain ⟨p, ys, rfl, h1, t1⟩ := ax
    exact ⟨p, ys, rfl, .inr ⟨SqT.of (hs _ _ h1).1, q _ G H (.refl hs) ⟨p, ys, rfl, h1, t1⟩⟩⟩
/-! type(x) is T, isinstance(x, T) -/
def tyName : D → String
  | .non => "NoneType"
  | .bl _ => "bool"
  | .int _ => "int"
  | .str _ => "str"
  | .lst _ => "list"
  | .tup _ => "tuple"
  | .dct => "dict"
  | .scr _ => "list"
  | .obj _ _ _ => "list"
def isOb : D → Bool
  | .obj _ _ _ => true
  | _ => false
theorem tyB_of {G H : Hp} {d : D} {v : V} (hs : Sub G H) (a : At K G d v) (ho : isOb d = false) : TyB K H v (tyName d) := by
  cases d with
  | obj c ks ds => cases ho
  | non => rw [show v = .non from a]; exact .non
  | bl b => rw [show v = .bl b from a]; exact .bl b
  | int b => rw [show v = .int b from a]; exact .int b
  | str b => rw [show v = .str b from a]; exact .str b
  | lst ds => obtain ⟨p, xs, rfl, h, _⟩ := a; exact .lst (SqL.of (hs _ _ h).1)
  | tup ds => obtain ⟨p, xs, rfl, h, _⟩ := a; exact .tup (SqT.of (hs _ _ h).1)
  | dct => obtain ⟨p, rfl, h⟩ := a; exact .dK (hs _ _ h).1
  | scr ns => obtain ⟨p, rfl, h⟩ := a; exact .lst (scr_read hs h)
theorem tyX_of {G H : Hp} {d : D} {v : V} (hs : Sub G H) (a : At K G d v) (ho : isOb d = false) : TyX K H v (.type (tyName d)) := by
  cases d with
  | obj c ks ds => cases ho
  | non => rw [show v = .non from a]; exact .base .non
  | bl b => rw [show v = .bl b from a]; exact .base (.bl b)
  | int b => rw [show v = .int b from a]; exact .base (.int b)
  | str b => rw [show v = .str b from a]; exact .base (.str b)
  | lst ds => obtain ⟨p, xs, rfl, h, _⟩ := a; exact .base (.lst (hs _ _ h).1)
  | tup ds => obtain ⟨p, xs, rfl, h, _⟩ := a; exact .base (.tup (hs _ _ h).1)
  | dct => obtain ⟨p, rfl, h⟩ := a; exact .base (.dK (hs _ _ h).1)
  | scr ns =>
    obtain ⟨p, rfl, h⟩ := a
    rcases scr_read hs h with (h | ⟨o, h⟩) | ⟨o, its, n, h, c, _⟩
    · exact .base (.lst h)
    · exact .base (.frz h)
    · exact .kList h c
def gTy (neg : Bool) (T : String) (d : D) : Option D := if isOb d = true then none else some (.bl (if neg = true then !decide (tyName d = T) else decide (tyName d = T)))
/-- is x, which is of the built-in type a, one of the built-in type T -/
def isTy (a T : String) : Bool := decide (a = T) || (decide (a = "bool") && decide (T = "int"))
def kinds : List String := ["NoneType", "bool", "int", "str", "list", "tuple", "dict"]
theorem isTy_ok : ∀ a ∈ kinds, ∀ T ∈ ["bool", "int", "str", "list", "tuple", "dict"], kitB a T = some (isTy a T) := by decide +kernel
theorem tyName_mem (d : D) : tyName d ∈ kinds := by cases d <;> simp [tyName, kinds]
def gInst (T : String) (d : D) : Option D := if isOb d = true then none else some (.bl (isTy (tyName d) T))
theorem of_ob {d x y : D} (h : (if isOb d = true then none else some x) = some y) : isOb d = false ∧ x = y := by
  cases e : isOb d with
  | true => rw [e] at h; cases h
  | false => rw [e] at h; exact ⟨rfl, Option.some.inj h⟩
end
section
variable {X : Cx} {L : List Addr} {a : Expr} {pos p1 p2 p3 : Pos} {ma : DM}
theorem pd_typeIs {T : Str} {Tn : String} (hg : Gl X "type") (hm : X.mg "type" = none) (hT : Gl X T) (hmT : X.mg T = none) (hv : bootBuiltins T = some (.type Tn)) (ha : PD X L a ma) (hn : T ≠ "__name__" := by decide) (hd : (T == ("__debug__" : Str)) = false := by decide)
    (na : starEach [a] X.env = (false, eval a X.env) :: starEach [] X.env := by rfl) : PD X L (.Compare (.Call (.Name "type" p1) [a] [] p2) [.Is] [.Name T p3] pos) (dUn (gTy false Tn) ma) :=
  PE.imp (pe_cmpR op_isTyB (pe_callTy call_type1 hg hm (by decide +kernel) (pa_cons ha pa_nil na) (he := na)) (pe_bltn (v := .ty Tn) hT hmT hv rfl hn hd) (nomark _)) fun σ H Q ⟨G, ρ, d, hs, hR, ht, hmm, q⟩ => by
    unfold dUn at hmm
    cases h1 : ma ρ with
    | none => rw [h1] at hmm; cases hmm
    | some d1 =>
      rw [h1] at hmm
      obtain ⟨ho, rfl⟩ := of_ob hmm
      exact ⟨G, ρ, d1, hs, hR, ht, h1, fun x G1 H1 g1 a1 => ⟨x, tyName d1, rfl, tyB_of g1.sub a1 ho, _, _, rfl, rfl, q _ G1 H1 g1 rfl⟩⟩
theorem pd_typeNot {T : Str} {Tn : String} (hg : Gl X "type") (hm : X.mg "type" = none) (hT : Gl X T) (hmT : X.mg T = none) (hv : bootBuiltins T = some (.type Tn)) (ha : PD X L a ma) (hn : T ≠ "__name__" := by decide) (hd : (T == ("__debug__" : Str)) = false := by decide)
    (na : starEach [a] X.env = (false, eval a X.env) :: starEach [] X.env := by rfl) : PD X L (.Compare (.Call (.Name "type" p1) [a] [] p2) [.IsNot] [.Name T p3] pos) (dUn (gTy true Tn) ma) :=
  PE.imp (pe_cmpR op_notTyB (pe_callTy call_type1 hg hm (by decide +kernel) (pa_cons ha pa_nil na) (he := na)) (pe_bltn (v := .ty Tn) hT hmT hv rfl hn hd) (nomark _)) fun σ H Q ⟨G, ρ, d, hs, hR, ht, hmm, q⟩ => by
    unfold dUn at hmm
    cases h1 : ma ρ with
    | none => rw [h1] at hmm; cases hmm
    | some d1 =>
      rw [h1] at hmm
      obtain ⟨ho, rfl⟩ := of_ob hmm
      exact ⟨G, ρ, d1, hs, hR, ht, h1, fun x G1 H1 g1 a1 => ⟨x, tyName d1, rfl, tyB_of g1.sub a1 ho, _, _, rfl, rfl, q _ G1 H1 g1 rfl⟩⟩
theorem pd_isinst {T : Str} {Tn : String} (hg : Gl X "isinstance") (hm : X.mg "isinstance" = none) (hT : Gl X T) (hmT : X.mg T = none) (hv : bootBuiltins T = some (.type Tn)) (hk : Tn ∈ ["bool", "int", "str", "list", "tuple", "dict"]) (ha : PD X L a ma) (hn : T ≠ "__name__" := by decide) (hd : (T == ("__debug__" : Str)) = false := by decide)
    (na : starEach [a, .Name T p3] X.env = (false, eval a X.env) :: starEach [.Name T p3] X.env := by rfl) (nb : starEach [.Name T p3] X.env = (false, eval (.Name T p3) X.env) :: starEach [] X.env := by rfl) (hpl : (backTo pos (starEach [.Name T p3] X.env)).any (·.1) = false := by rfl) :
    PD X L (.Call (.Name "isinstance" p1) [a, .Name T p3] [] pos) (dUn (gInst Tn) ma) :=
  PE.imp (pe_callB call_isi hg hm (by decide +kernel) (pa_cons ha (pa_cons (pe_bltn (v := .ty Tn) hT hmT hv rfl hn hd) pa_nil nb) na) (he := na) (hpl := hpl)) fun σ H Q ⟨G, ρ, d, hs, hR, ht, hmm, q⟩ => by
    unfold dUn at hmm
    cases h1 : ma ρ with
    | none => rw [h1] at hmm; cases hmm
    | some d1 =>
      rw [h1] at hmm
      obtain ⟨ho, rfl⟩ := of_ob hmm
      exact ⟨G, ρ, d1, hs, hR, ht, h1, fun x G1 H1 g1 a1 => ⟨x, .ty Tn, .type (tyName d1), .type Tn, isTy (tyName d1) Tn, rfl, .ty Tn, tyX_of g1.sub a1 ho, kit_ty (isTy_ok _ (tyName_mem d1) _ hk), q _ G1 H1 g1 rfl⟩⟩
/-! a chain of two comparisons -/
def dChain (g g' : D → D → Option D) (a b c : DM) : DM := fun ρ => (a ρ).bind fun x => (b ρ).bind fun y => (g x y).bind fun z => (toB z).bind fun k => if k = true then (c ρ).bind fun w => g' y w else some (.bl false)
theorem tChain_imp {r r' : R2} {g g' : D → D → Option D} {mb mc : DM} (hr : OpD X.K L r g) (hr' : OpD X.K L r' g') : ∀ σ H Q, tP X.K L (dChain g g' ma mb mc) σ H Q → tChain r r' (tP X.K L ma) (tP X.K L mb) (tP X.K L mc) σ H Q := fun σ H Q ⟨G, ρ, d, hs, hR, ht, hm, q⟩ => by
  unfold dChain at hm
  cases h1 : ma ρ with
  | none => rw [h1] at hm; cases hm
  | some d1 =>
    cases h2 : mb ρ with
    | none => rw [h1, h2] at hm; cases hm
    | some d2 =>
      rw [h1, h2] at hm
      cases h3 : g d1 d2 with
      | none => simp [h3] at hm
      | some d3 =>
        cases h4 : toB d3 with
        | none => simp [h3, h4] at hm
        | some k =>
          simp only [h3, h4, Option.bind_some] at hm
          refine ⟨G, ρ, d1, hs, hR, ht, h1, fun x G1 H1 g1 a1 => ⟨G1, ρ, d2, g1.sub, hR.mono g1.up, ht.ext g1.ext, h2, fun y G2 H2 g2 a2 => ?_⟩⟩
          refine hr G2 H2 x y d1 d2 d3 _ g2.sub ((ht.ext g1.ext).ext g2.ext) (a1.mono g2.up) a2 h3 fun z G3 H3 g3 a3 => ⟨k, ?_, ?_⟩
          · cases d3 <;> simp only [toB, Option.some.injEq, reduceCtorEq] at h4
            subst h4
            exact a3
          · cases k with
            | false => cases hm; exact q _ G3 H3 ((g1.trans g2).trans g3) rfl
            | true =>
              simp only [if_true] at hm ⊢
              cases h5 : mc ρ with
              | none => rw [h5] at hm; cases hm
              | some d5 =>
                rw [h5] at hm
                exact ⟨G3, ρ, d5, g3.sub, hR.mono ((g1.trans g2).trans g3).up, ht.ext ((g1.trans g2).trans g3).ext, h5, fun w G4 H4 g4 a4 =>
                  hr' G4 H4 y w d2 d5 d _ g4.sub (ht.ext (((g1.trans g2).trans g3).trans g4).ext) (a2.mono (g3.trans g4).up) a4 hm fun v G5 H5 g5 a5 => q v G5 H5 ((((g1.trans g2).trans g3).trans g4).trans g5) a5⟩
theorem pd_chain {op op' : CmpOp} {b c : Expr} {r r' : R2} {g g' : D → D → Option D} {mb mc : DM} (hr : OpD X.K L r g) (hr' : OpD X.K L r' g') (ho : OpR X (compareOp op) r) (ho' : OpR X (compareOp op') r') (ha : PD X L a ma) (hb : PD X L b mb) (hc : PD X L c mc)
    (hm : lastMarks [op, op'] [b, c] = false := by with_unfolding_all rfl) : PD X L (.Compare a [op, op'] [b, c] pos) (dChain g g' ma mb mc) := PE.imp (pe_chain ho ho' ha hb hc hm) (tChain_imp hr hr')
theorem ptd_chain {op op' : CmpOp} {b c : Expr} {r r' : R2} {g g' : D → D → Option D} {mb mc : DM} (hr : OpD X.K L r g) (hr' : OpD X.K L r' g') (ho : OpR X (compareOp op) r) (ho' : OpR X (compareOp op') r') (ha : PD X L a ma) (hb : PD X L b mb) (hc : PD X L c mc)
    (hm : lastMarks [op, op'] [b, c] = false := by with_unfolding_all rfl) : PTD X L (.Compare a [op, op'] [b, c] pos) (dB (dChain g g' ma mb mc)) :=
  PT.imp (pt_chain ho ho' ha hb hc hm) fun σ H Q ⟨G, ρ, k, hs, hR, ht, hmm, q⟩ => tChain_imp hr hr' σ H _ (tP_b hs hR ht hmm fun G1 H1 g1 => ⟨k, rfl, q G1 H1 g1⟩)
/-! slices of lists -/
def cutD {α : Type} (xs : List α) (lo hi : Option Int) : List α := (xs.drop (HT.sIx xs.length 0 lo)).take (HT.sIx xs.length xs.length hi - HT.sIx xs.length 0 lo)
def dNoP : _root_.DN.Env → Option (Option Int) := fun _ => some none
def dPart (m : DM) : _root_.DN.Env → Option (Option Int) := fun ρ => (m ρ).bind fun | .int i => some (some i) | _ => none
def gSl : D → Option Int → Option Int → Option D
  | .lst ds, lo, hi => some (.lst (cutD ds lo hi))
  | .scr ns, lo, hi => some (.lst ((cutD ns lo hi).map .int))
  | .tup ds, lo, hi => some (.tup (cutD ds lo hi))
  | .str z, lo, hi => if z.length ≤ 1000000 then some (.str (PySem.Txt.slice z lo hi)) else none
  | _, _, _ => none
def rSlD (K : PySem.W.Frag) : V → Option Int → Option Int → Hp → VK → Prop := fun x lo hi H Q => rSlL K x lo hi H Q ∨ (rSlA K x lo hi H Q ∨ C8.rSlX x lo hi H Q)
theorem slR_or {X : Cx} {r r' : V → Option Int → Option Int → Hp → VK → Prop} (h : SlR X r) (h' : SlR X r') : SlR X (fun x lo hi H Q => r x lo hi H Q ∨ r' x lo hi H Q) := fun pins s σ H x v vl vu lo hi sl Q I rx hs pl pu hh =>
  hh.elim (fun z => h pins s σ H x v vl vu lo hi sl Q I rx hs pl pu z) fun z => h' pins s σ H x v vl vu lo hi sl Q I rx hs pl pu z
theorem sl_D {X : Cx} : SlR X (rSlD X.K) := slR_or sl_list (slR_or sl_tupA C8.sl_txt)
theorem cut_whole {α : Type} {xs : List α} {lo hi : Option Int} (h : HT.sIx xs.length 0 lo = 0 ∧ HT.sIx xs.length xs.length hi = xs.length) : cutD xs lo hi = xs := by
  unfold cutD
  rw [h.1, h.2]
  simp
def dSl (m : DM) (lo hi : _root_.DN.Env → Option (Option Int)) : DM := fun ρ => (m ρ).bind fun x => (lo ρ).bind fun l => (hi ρ).bind fun h => gSl x l h
def tPO (K : PySem.W.Frag) (L : List Addr) (m : _root_.DN.Env → Option (Option Int)) : TO := fun σ H Q => ∃ G ρ o, Sub G H ∧ Rep K G σ ρ ∧ Tabs L H ∧ m ρ = some o ∧ ∀ G' H', Gr L G H G' H' → Q o H'
def POD (X : Cx) (L : List Addr) (e : Option Expr) (m : _root_.DN.Env → Option (Option Int)) : Prop := PO X e (tPO X.K L m)
theorem pod_none : POD X L none dNoP := ⟨fun pins s σ H Q I ⟨G, ρ, o, hs, hR, ht, hm, q⟩ => po_none.run pins s σ H Q I (by cases hm; exact q G H (.refl hs))⟩
theorem pod_some (h : PD X L a ma) : POD X L (some a) (dPart ma) := ⟨fun pins s σ H Q I ⟨G, ρ, o, hs, hR, ht, hm, q⟩ => (po_some h).run pins s σ H Q I (by
  unfold dPart at hm
  cases h1 : ma ρ with
  | none => rw [h1] at hm; cases hm
  | some d =>
    rw [h1] at hm
    cases d <;> simp only [Option.bind_some, reduceCtorEq, Option.some.injEq] at hm
    subst hm
    exact ⟨G, ρ, _, hs, hR, ht, h1, fun x G1 H1 g1 a1 => ⟨_, a1, q G1 H1 g1⟩⟩)⟩
theorem pd_slice {lo hi : Option Expr} {p2' : Pos} {ml mh : _root_.DN.Env → Option (Option Int)} (ha : PD X L a ma) (hl : POD X L lo ml) (hh : POD X L hi mh) : PD X L (.Subscript a (.Slice lo hi none p2') pos) (dSl ma ml mh) :=
  PE.imp (pe_slice sl_D ha hl hh) fun σ H Q ⟨G, ρ, d, hs, hR, ht, hm, q⟩ => by
    unfold dSl at hm
    cases h1 : ma ρ with
    | none => rw [h1] at hm; cases hm
    | some d1 =>
      cases h2 : ml ρ with
      | none => rw [h1, h2] at hm; cases hm
      | some l =>
        cases h3 : mh ρ with
        | none => rw [h1, h2, h3] at hm; cases hm
        | some u =>
          rw [h1, h2, h3] at hm
          refine ⟨G, ρ, d1, hs, hR, ht, h1, fun x G1 H1 g1 a1 => ⟨G1, ρ, l, g1.sub, hR.mono g1.up, ht.ext g1.ext, h2, fun G2 H2 g2 => ⟨G2, ρ, u, g2.sub, hR.mono (g1.trans g2).up, ht.ext (g1.trans g2).ext, h3, fun G3 H3 g3 => ?_⟩⟩⟩
          have a3 := a1.mono (g2.trans g3).up
          have g13 := (g1.trans g2).trans g3
          cases d1 <;> simp only [Option.bind_some, gSl, reduceCtorEq, Option.some.injEq, Option.ite_none_right_eq_some] at hm
          · obtain ⟨hl, rfl⟩ := hm
            exact .inr (.inr ⟨_, a3, line_of hl, q _ G3 H3 g13 rfl⟩)
          · subst hm
            obtain ⟨p, xs, rfl, h4, t4⟩ := a3
            refine .inl ⟨p, xs, rfl, SqL.of (g3.sub _ _ h4).1, fun z hz => newL g3.sub (ds := cutD _ l u) ?_ hz fun v G' H' gg aa => q v G' H' (g13.trans gg) aa⟩
            unfold cutV cutD
            rw [t4.length]
            exact (t4.drop _).take _
          · subst hm
            obtain ⟨p, xs, rfl, h4, t4⟩ := a3
            refine .inr (.inl ⟨p, xs, rfl, SqT.of (g3.sub _ _ h4).1, fun hw => ?_, fun _ z hz => newT g3.sub (ds := cutD _ l u) ?_ hz fun v G' H' gg aa => q v G' H' (g13.trans gg) aa⟩)
            · rw [t4.length] at hw
              rw [cut_whole hw] at q
              exact q _ G3 H3 g13 ⟨p, xs, rfl, h4, t4⟩
            · unfold cutV cutD
              rw [t4.length]
              exact (t4.drop _).take _
          · subst hm
            obtain ⟨p, rfl, h4⟩ := a3
            refine .inl ⟨p, _, rfl, scr_read g3.sub h4, fun z hz => newL g3.sub (ds := (cutD _ l u).map .int) ?_ hz fun v G' H' gg aa => q v G' H' (g13.trans gg) aa⟩
            unfold cutV cutD
            rw [List.length_map, ← List.map_drop, ← List.map_take]
            exact ats_ints _
end
end DN

set_option Elab.async false
set_option linter.all false
set_option maxRecDepth 100000
set_option maxHeartbeats 2000000
/-! Walks, comprehensions, generator expressions, statements, defs over plain data. -/
namespace DN
open PySem PySem.Spec PyProof.Rows L2 GxR GX
/-! ### what is walked -/
def Wk (K : PySem.W.Frag) (L : List Addr) (J : It) (G H1 : Hp) (ds : List D) : Prop := ∀ H2, Sub G H2 →
  (∀ i d, ds[i]? = some d → J.go i H2 ∧ ∀ x H3, J.yld i H2 x H3 → ∀ G2, Sub G2 H2 → (∀ a o, G a = some o → G2 a = some o) → ∃ G3, Gr L G2 H2 G3 H3 ∧ At K G3 d x) ∧ (∀ i, ds.length ≤ i → J.stop i H2)
def tI (K : PySem.W.Frag) (L : List Addr) (m : Env → Option (List D)) : TI := fun σ H R => ∃ G ρ ds, Sub G H ∧ Rep K G σ ρ ∧ Tabs L H ∧ m ρ = some ds ∧ ∀ J G1 H1, Gr L G H G1 H1 → Wk K L J G1 H1 ds → R J H1
def PID (X : Cx) (L : List Addr) (tg e : Expr) (m : Env → Option (List D)) : Prop := PI X tg e (tI X.K L m)
def lsOf : D → Option (List D)
  | .lst ds => some ds
  | .scr ns => some (ns.map .int)
  | _ => none
def tuOf : D → Option (List D)
  | .tup ds => some ds
  | _ => none
def dLs (m : DM) : Env → Option (List D) := fun ρ => (m ρ).bind lsOf
def dTu (m : DM) : Env → Option (List D) := fun ρ => (m ρ).bind tuOf
section
variable {K : PySem.W.Frag} {L : List Addr}
theorem ls_at {G : Hp} {d : D} {ds : List D} {v : V} (h : lsOf d = some ds) (a : At K G d v) : ∃ p xs, v = .ref p ∧ SqL K G p xs ∧ Ats K G ds xs := by
  cases d <;> simp only [lsOf, reduceCtorEq, Option.some.injEq] at h
  · subst h
    obtain ⟨p, xs, rfl, h1, t⟩ := a
    exact ⟨p, xs, rfl, SqL.of h1, t⟩
  · subst h
    obtain ⟨p, rfl, h1⟩ := a
    exact ⟨p, _, rfl, h1, ats_ints _⟩
theorem sql_sub {G H : Hp} {p : Addr} {xs : List V} (hs : Sub G H) (h : SqL K G p xs) : SqL K H p xs := by
  rcases h with (h | ⟨o, h⟩) | h
  · exact .inl (.inl (hs _ _ h).1)
  · exact .inl (.inr ⟨o, (hs _ _ h).1⟩)
  · exact .inr h
theorem sqt_sub {G H : Hp} {p : Addr} {xs : List V} (hs : Sub G H) (h : SqT K G p xs) : SqT K H p xs := by
  rcases h with (h | ⟨o, h⟩) | h
  · exact .inl (.inl (hs _ _ h).1)
  · exact .inl (.inr ⟨o, (hs _ _ h).1⟩)
  · exact .inr h
theorem wk_list {G H1 : Hp} {p : Addr} {xs : List V} {ds : List D} (hs : Sub G H1) (h : SqL K G p xs) (t : Ats K G ds xs) : Wk K L (Itl K p) G H1 ds := fun H2 e => by
  have h2 : SqL K H2 p xs := sql_sub e h
  refine ⟨fun i d hi => ?_, fun i hi => ⟨xs, h2, by rw [t.length]; exact hi⟩⟩
  obtain ⟨x, hx, ax⟩ := t.get hi
  refine ⟨⟨xs, x, h2, hx⟩, fun y H3 ⟨e3, hy⟩ G2 s2 u2 => ?_⟩
  subst e3
  obtain rfl : x = y := Option.some.inj (hx.symm.trans (hy xs h2))
  exact ⟨G2, .refl s2, ax.mono u2⟩
theorem wk_tup {G H1 : Hp} {p : Addr} {xs : List V} {ds : List D} (hs : Sub G H1) (h : SqT K G p xs) (t : Ats K G ds xs) : Wk K L (Itt K p) G H1 ds := fun H2 e => by
  have h2 : SqT K H2 p xs := sqt_sub e h
  refine ⟨fun i d hi => ?_, fun i hi => ⟨xs, h2, by rw [t.length]; exact hi⟩⟩
  obtain ⟨x, hx, ax⟩ := t.get hi
  refine ⟨⟨xs, x, h2, hx⟩, fun y H3 ⟨e3, hy⟩ G2 s2 u2 => ?_⟩
  subst e3
  obtain rfl : x = y := Option.some.inj (hx.symm.trans (hy xs h2))
  exact ⟨G2, .refl s2, ax.mono u2⟩
def rangeD (i j : Int) : List D := (List.range (j - i).toNat).map fun k => .int (i + (k : Nat))
theorem wk_range {G H1 : Hp} {i j : Int} {n : Nat} (hn : n = (j - i).toNat) : Wk K L (Itr i n) G H1 (rangeD i j) := fun H2 e => by
  subst hn
  refine ⟨fun k d hk => ?_, fun k hk => show (j - i).toNat ≤ k by unfold rangeD at hk; rw [List.length_map, List.length_range] at hk; exact hk⟩
  unfold rangeD at hk
  rw [List.getElem?_map] at hk
  have hlt : k < (j - i).toNat := by
    by_cases h : k < (j - i).toNat
    · exact h
    · rw [List.getElem?_eq_none (by simpa using h)] at hk; cases hk
  rw [List.getElem?_range hlt] at hk
  cases hk
  exact ⟨hlt, fun x H3 ⟨e3, hx⟩ G2 s2 u2 => by subst e3 hx; exact ⟨G2, .refl s2, rfl⟩⟩
def dRng1 (m : DM) : Env → Option (List D) := fun ρ => (m ρ).bind fun | .int j => if -(2 ^ 62) ≤ j ∧ j < 2 ^ 62 then some (rangeD 0 j) else none | _ => none
def dRng2 (a b : DM) : Env → Option (List D) := fun ρ => (a ρ).bind fun x => (b ρ).bind fun y => match x, y with
  | .int i, .int j => if -(2 ^ 62) ≤ i ∧ i < 2 ^ 62 ∧ -(2 ^ 62) ≤ j ∧ j < 2 ^ 62 then some (rangeD i j) else none
  | _, _ => none
def zipD : List D → List D → List D
  | x :: xs, y :: ys => .tup [x, y] :: zipD xs ys
  | _, _ => []
theorem zipD_len : ∀ (xs ys : List D), (zipD xs ys).length = min xs.length ys.length
  | [], _ => by simp [zipD]
  | _ :: _, [] => by simp [zipD]
  | x :: xs, y :: ys => by rw [zipD, List.length_cons, zipD_len xs ys, List.length_cons, List.length_cons]; omega
theorem zipD_get : ∀ {xs ys : List D} {i : Nat} {d : D}, (zipD xs ys)[i]? = some d → ∃ a b, xs[i]? = some a ∧ ys[i]? = some b ∧ d = .tup [a, b]
  | [], _, _, _, h => by simp [zipD] at h
  | _ :: _, [], _, _, h => by simp [zipD] at h
  | x :: xs, y :: ys, 0, d, h => by
    simp only [zipD, List.getElem?_cons_zero, Option.some.injEq] at h
    exact ⟨x, y, rfl, rfl, h.symm⟩
  | x :: xs, y :: ys, i + 1, d, h => by
    simp only [zipD, List.getElem?_cons_succ] at h
    obtain ⟨a, b, h1, h2, h3⟩ := zipD_get (xs := xs) (ys := ys) (i := i) h
    exact ⟨a, b, by simpa using h1, by simpa using h2, h3⟩
def dZip (a b : DM) : Env → Option (List D) := fun ρ => (a ρ).bind fun x => (b ρ).bind fun y => (lsOf x).bind fun xs => (lsOf y).bind fun ys => some (zipD xs ys)
theorem wk_zip {G H1 : Hp} {p q : Addr} {xs ys : List V} {ds es : List D} (hs : Sub G H1) (h : SqL K G p xs) (t : Ats K G ds xs) (h' : SqL K G q ys) (t' : Ats K G es ys) : Wk K L (Itz K p q) G H1 (zipD ds es) := fun H2 e => by
  have h2 : SqL K H2 p xs := sql_sub e h
  have h3 : SqL K H2 q ys := sql_sub e h'
  refine ⟨fun i d hi => ?_, fun i hi => ⟨xs, ys, h2, h3, by rw [t.length, t'.length]; rw [zipD_len] at hi; omega⟩⟩
  obtain ⟨a, b, ha, hb, rfl⟩ := zipD_get hi
  obtain ⟨x, hx, ax⟩ := t.get ha
  obtain ⟨y, hy, ay⟩ := t'.get hb
  refine ⟨⟨xs, ys, x, y, h2, h3, hx, hy⟩, fun v H3 ⟨T, x', y', ev, hT, eH, f1, f2⟩ G2 s2 u2 => ?_⟩
  subst ev eH
  obtain rfl : x = x' := Option.some.inj (hx.symm.trans (f1 xs h2))
  obtain rfl : y = y' := Option.some.inj (hy.symm.trans (f2 ys h3))
  refine ⟨upd G2 T (.tup [x, y]), .lay s2 hT (fun ps z => by cases z), T, [x, y], rfl, upd_same, x, [y], rfl, ?_, y, [], rfl, ?_, rfl⟩
  · exact (ax.mono u2).mono fun a o e => by rw [upd_ne (ne_of_none (s2 a o e).1 hT)]; exact e
  · exact (ay.mono u2).mono fun a o e => by rw [upd_ne (ne_of_none (s2 a o e).1 hT)]; exact e
def enumD : Nat → List D → List D
  | _, [] => []
  | n, x :: xs => .tup [.int n, x] :: enumD (n + 1) xs
theorem enumD_len : ∀ (n : Nat) (xs : List D), (enumD n xs).length = xs.length
  | _, [] => rfl
  | n, x :: xs => by rw [enumD, List.length_cons, enumD_len (n + 1) xs, List.length_cons]
theorem enumD_get : ∀ {n : Nat} {xs : List D} {i : Nat} {d : D}, (enumD n xs)[i]? = some d → ∃ a, xs[i]? = some a ∧ d = .tup [.int ((n + i : Nat) : Int), a]
  | _, [], _, _, h => by simp [enumD] at h
  | n, x :: xs, 0, d, h => by
    simp only [enumD, List.getElem?_cons_zero, Option.some.injEq] at h
    exact ⟨x, rfl, h.symm⟩
  | n, x :: xs, i + 1, d, h => by
    simp only [enumD, List.getElem?_cons_succ] at h
    obtain ⟨a, h1, h2⟩ := enumD_get h
    exact ⟨a, h1, by rw [h2]; congr 3; omega⟩
def dEnum (a : DM) : Env → Option (List D) := fun ρ => (a ρ).bind fun x => (lsOf x).bind fun xs => some (enumD 0 xs)
theorem wk_enum {G H1 : Hp} {p : Addr} {xs : List V} {ds : List D} (hs : Sub G H1) (h : SqL K G p xs) (t : Ats K G ds xs) : Wk K L (Ite K p) G H1 (enumD 0 ds) := fun H2 e => by
  have h2 : SqL K H2 p xs := sql_sub e h
  refine ⟨fun i d hi => ?_, fun i hi => ⟨xs, h2, by rw [t.length]; rw [enumD_len] at hi; exact hi⟩⟩
  obtain ⟨a, ha, rfl⟩ := enumD_get hi
  obtain ⟨x, hx, ax⟩ := t.get ha
  refine ⟨⟨xs, x, h2, hx⟩, fun v H3 ⟨T, x', ev, hT, eH, f1⟩ G2 s2 u2 => ?_⟩
  subst ev eH
  obtain rfl : x = x' := Option.some.inj (hx.symm.trans (f1 xs h2))
  refine ⟨upd G2 T (.tup [.int (i : Nat), x]), .lay s2 hT (fun ps z => by cases z), T, _, rfl, upd_same, _, [x], rfl, by rw [Nat.zero_add]; rfl, x, [], rfl, ?_, rfl⟩
  exact (ax.mono u2).mono fun a o e => by rw [upd_ne (ne_of_none (s2 a o e).1 hT)]; exact e
end
section
variable {X : Cx} {L : List Addr} {tg e e2 : Expr} {pos p : Pos} {ma mb : DM}
theorem pid_list (ha : PD X L e ma) : PID X L tg e (dLs ma) := PI.imp (pi_list ha) fun σ H R ⟨G, ρ, ds, hs, hR, ht, hm, q⟩ => by
  unfold dLs at hm
  cases h1 : ma ρ with
  | none => rw [h1] at hm; cases hm
  | some d =>
    rw [h1] at hm
    refine ⟨G, ρ, d, hs, hR, ht, h1, fun x G1 H1 g1 a1 => ?_⟩
    obtain ⟨p, xs, rfl, h2, t2⟩ := ls_at hm a1
    exact ⟨p, rfl, ⟨xs, sql_sub g1.sub h2⟩, q _ G1 H1 g1 (wk_list g1.sub h2 t2)⟩
theorem pid_tup (ha : PD X L e ma) : PID X L tg e (dTu ma) := PI.imp (pi_tup ha) fun σ H R ⟨G, ρ, ds, hs, hR, ht, hm, q⟩ => by
  unfold dTu at hm
  cases h1 : ma ρ with
  | none => rw [h1] at hm; cases hm
  | some d =>
    rw [h1] at hm
    refine ⟨G, ρ, d, hs, hR, ht, h1, fun x G1 H1 g1 a1 => ?_⟩
    cases d <;> simp only [Option.bind_some, tuOf, reduceCtorEq, Option.some.injEq] at hm
    subst hm
    obtain ⟨p, xs, rfl, h2, t2⟩ := a1
    exact ⟨p, rfl, ⟨xs, SqT.of (g1.sub _ _ h2).1⟩, q _ G1 H1 g1 (wk_tup g1.sub (SqT.of h2) t2)⟩
theorem pid_range1 (hg : Gl X "range") (hm : X.mg "range" = none) (ha : PD X L e ma) (hs : starEach [e] X.env = [(false, eval e X.env)] := by rfl) : PID X L tg (.Call (.Name "range" p) [e] [] pos) (dRng1 ma) :=
  PI.imp (pi_range1 hg hm (pa_cons ha pa_nil hs) hs) fun σ H R ⟨G, ρ, ds, hs, hR, ht, hm, q⟩ => by
    unfold dRng1 at hm
    cases h1 : ma ρ with
    | none => rw [h1] at hm; cases hm
    | some d =>
      rw [h1] at hm
      refine ⟨G, ρ, d, hs, hR, ht, h1, fun x G1 H1 g1 a1 => ?_⟩
      cases d <;> simp only [Option.bind_some, reduceCtorEq, Option.some.injEq, Option.ite_none_right_eq_some] at hm
      obtain ⟨⟨b1, b2⟩, rfl⟩ := hm
      cases (show x = _ from a1)
      exact ⟨_, rfl, b1, b2, q _ G1 H1 g1 (wk_range (by rw [Int.sub_zero]))⟩
theorem pid_range2 (hg : Gl X "range") (hm : X.mg "range" = none) (ha : PD X L e ma) (hb : PD X L e2 mb) (hs : starEach [e, e2] X.env = [(false, eval e X.env), (false, eval e2 X.env)] := by rfl) (hs2 : starEach [e2] X.env = [(false, eval e2 X.env)] := by rfl) :
    PID X L tg (.Call (.Name "range" p) [e, e2] [] pos) (dRng2 ma mb) :=
  PI.imp (pi_range2 hg hm (pa_cons ha (pa_cons hb pa_nil hs2) (by rw [hs, hs2])) hs hs2) fun σ H R ⟨G, ρ, ds, hs, hR, ht, hm, q⟩ => by
    unfold dRng2 at hm
    cases h1 : ma ρ with
    | none => rw [h1] at hm; cases hm
    | some d =>
      cases h2 : mb ρ with
      | none => rw [h1, h2] at hm; cases hm
      | some d2 =>
        rw [h1, h2] at hm
        refine ⟨G, ρ, d, hs, hR, ht, h1, fun x G1 H1 g1 a1 => ⟨G1, ρ, d2, g1.sub, hR.mono g1.up, ht.ext g1.ext, h2, fun y G2 H2 g2 a2 => ?_⟩⟩
        cases d <;> cases d2 <;> simp only [Option.bind_some, reduceCtorEq, Option.some.injEq, Option.ite_none_right_eq_some] at hm
        obtain ⟨b1, rfl⟩ := hm
        cases (show x = _ from a1)
        cases (show y = _ from a2)
        exact ⟨_, _, rfl, b1, q _ G2 H2 (g1.trans g2) (wk_range rfl)⟩
theorem pid_zip {elts : List Expr} {kk : Nat} {tpos : Pos} (hg : Gl X "zip") (hm : X.mg "zip" = none) (ha : PD X L e ma) (hb : PD X L e2 mb) (hs : starEach [e, e2] X.env = (false, eval e X.env) :: starEach [e2] X.env := by rfl) (hs2 : starEach [e2] X.env = (false, eval e2 X.env) :: starEach [] X.env := by rfl)
    (hpl : (backTo pos (starEach [e2] X.env)).any (·.1) = false := by rfl) : PID X L (.Tuple elts kk tpos) (.Call (.Name "zip" p) [e, e2] [] pos) (dZip ma mb) :=
  PI.imp (pi_zip hg hm (pa_cons ha (pa_cons hb pa_nil hs2) hs) hs hpl) fun σ H R ⟨G, ρ, ds, hs, hR, ht, hm, q⟩ => by
    unfold dZip at hm
    cases h1 : ma ρ with
    | none => rw [h1] at hm; cases hm
    | some d =>
      cases h2 : mb ρ with
      | none => rw [h1, h2] at hm; cases hm
      | some d2 =>
        rw [h1, h2] at hm
        refine ⟨G, ρ, d, hs, hR, ht, h1, fun x G1 H1 g1 a1 => ⟨G1, ρ, d2, g1.sub, hR.mono g1.up, ht.ext g1.ext, h2, fun y G2 H2 g2 a2 => ?_⟩⟩
        cases h3 : lsOf d with
        | none => simp [h3] at hm
        | some xs =>
          cases h4 : lsOf d2 with
          | none => simp [h3, h4] at hm
          | some ys =>
            simp only [h3, h4, Option.bind_some, Option.some.injEq] at hm
            subst hm
            obtain ⟨p, vs, rfl, k2, t2⟩ := ls_at h3 (a1.mono g2.up)
            obtain ⟨p', vs', rfl, k3, t3⟩ := ls_at h4 a2
            exact ⟨p, p', vs, vs', rfl, sql_sub g2.sub k2, sql_sub g2.sub k3, q _ G2 H2 (g1.trans g2) (wk_zip g2.sub k2 t2 k3 t3)⟩
theorem pid_enum {elts : List Expr} {kk : Nat} {tpos : Pos} (hg : Gl X "enumerate") (hm : X.mg "enumerate" = none) (ha : PD X L e ma) (hs : starEach [e] X.env = [(false, eval e X.env)] := by rfl) : PID X L (.Tuple elts kk tpos) (.Call (.Name "enumerate" p) [e] [] pos) (dEnum ma) :=
  PI.imp (pi_enum hg hm (pa_cons ha pa_nil hs) hs) fun σ H R ⟨G, ρ, ds, hs, hR, ht, hm, q⟩ => by
    unfold dEnum at hm
    cases h1 : ma ρ with
    | none => rw [h1] at hm; cases hm
    | some d =>
      rw [h1] at hm
      refine ⟨G, ρ, d, hs, hR, ht, h1, fun x G1 H1 g1 a1 => ?_⟩
      cases h3 : lsOf d with
      | none => simp [h3] at hm
      | some xs =>
        simp only [h3, Option.bind_some, Option.some.injEq] at hm
        subst hm
        obtain ⟨p, vs, rfl, k2, t2⟩ := ls_at h3 a1
        exact ⟨p, vs, rfl, sql_sub g1.sub k2, q _ G1 H1 g1 (wk_enum g1.sub k2 t2)⟩
end
/-! ### targets -/
/-- what a target does over data -/
def GdOk (K : PySem.W.Frag) (vs : List Nat) (g : TG) (bd : D → Env → Option Env) : Prop := ∀ (G H : Hp) (σ : L2.St) (ρ ρ1 : Env) (d : D) (x : V) (Q : L2.St → Hp → Prop), Sub G H → Rep K G σ ρ → At K G d x → bd d ρ = some ρ1 →
  (∀ σ1, Rep K G σ1 ρ1 → σ1.length = σ.length → wipe σ1 vs = wipe σ vs → Q σ1 H) → g x σ H Q
theorem wipe_at (σ : L2.St) : ∀ (vs : List Nat) (j : Nat), (wipe σ vs)[j]? = if j ∈ vs then (σ[j]?).map fun _ => none else σ[j]?
  | [], j => by simp [wipe]
  | v :: vs, j => by
    show ((wipe σ vs).set v none)[j]? = _
    by_cases h : v = j
    · subst h
      rw [if_pos List.mem_cons_self, List.getElem?_set]
      rw [if_pos rfl]
      have hl : (wipe σ vs).length = σ.length := wipe_length σ vs
      by_cases hv : v < σ.length
      · rw [if_pos (by rw [hl]; exact hv), List.getElem?_eq_getElem hv]; rfl
      · rw [if_neg (by rw [hl]; exact hv), List.getElem?_eq_none (Nat.le_of_not_lt hv)]; rfl
    · rw [List.getElem?_set_ne h, wipe_at σ vs j]
      have e : (j ∈ v :: vs) = (j ∈ vs) := by
        apply propext
        constructor
        · intro hm
          rcases List.mem_cons.mp hm with z | z
          · exact absurd z.symm h
          · exact z
        · exact List.mem_cons_of_mem _
      simp only [e]
theorem wipe_set {σ : L2.St} {vs : List Nat} {i : Nat} {x : Option V} (h : i ∈ vs) : wipe (σ.set i x) vs = wipe σ vs := by
  apply List.ext_getElem?
  intro j
  rw [wipe_at, wipe_at]
  by_cases hj : j ∈ vs
  · rw [if_pos hj, if_pos hj]
    by_cases hij : i = j
    · subst hij
      rw [List.getElem?_set]
      rw [if_pos rfl]
      by_cases hl : i < σ.length
      · rw [if_pos hl, List.getElem?_eq_getElem hl]; rfl
      · rw [if_neg hl, List.getElem?_eq_none (Nat.le_of_not_lt hl)]
    · rw [List.getElem?_set_ne hij]
  · rw [if_neg hj, if_neg hj]
    have hij : i ≠ j := fun z => hj (by rw [← z]; exact h)
    rw [List.getElem?_set_ne hij]
theorem wipe_wipe (σ : L2.St) (vs : List Nat) : wipe (wipe σ vs) vs = wipe σ vs := by
  apply List.ext_getElem?
  intro j
  rw [wipe_at, wipe_at]
  by_cases hj : j ∈ vs
  · rw [if_pos hj, if_pos hj]
    cases σ[j]? <;> rfl
  · rw [if_neg hj, if_neg hj]
theorem wipe_capt (σ : L2.St) (n : Nat) (is : List Nat) : wipe (capt σ n is) (List.range n) = capt σ n is := by
  apply List.ext_getElem?
  intro j
  rw [wipe_at]
  by_cases hj : j < n
  · rw [if_pos (List.mem_range.mpr hj)]
    unfold GX.capt
    rw [List.getElem?_append_left (by simpa using hj), List.getElem?_replicate, if_pos hj]
    rfl
  · rw [if_neg (fun h => hj (List.mem_range.mp h))]
def bd1 (i : Nat) : D → Env → Option Env := fun d ρ => some (ρ.set i (some d))
def bd2 (i j : Nat) : D → Env → Option Env := fun d ρ => match d with
  | .tup [a, b] => some ((ρ.set i (some a)).set j (some b))
  | _ => none
theorem gd1 {K : PySem.W.Frag} {vs : List Nat} {i : Nat} (h : i ∈ vs) : GdOk K vs (gName i) (bd1 i) := fun G H σ ρ ρ1 d x Q hs hR a hb q => by
  cases hb
  exact q _ (hR.set i a) (by rw [List.length_set]) (wipe_set h)
theorem gd2 {K : PySem.W.Frag} {vs : List Nat} {i j : Nat} (hi : i ∈ vs) (hj : j ∈ vs) : GdOk K vs (gTup K 2 (gCons (gName i) (gCons (gName j) gNil))) (bd2 i j) := fun G H σ ρ ρ1 d x Q hs hR a hb q => by
  unfold bd2 at hb
  split at hb
  · rename_i a1 b1
    cases hb
    obtain ⟨p, xs, rfl, h1, t1⟩ := a
    obtain ⟨u, v, rfl, au, av⟩ := t1.two
    exact ⟨p, [u, v], rfl, SqT.of (hs _ _ h1).1, rfl, u, [v], rfl, v, [], rfl, rfl, q _ ((hR.set i au).set j av) (by rw [List.length_set, List.length_set]) (by rw [wipe_set hj, wipe_set hi])⟩
  · cases hb

/-! ### list comprehensions -/
def lcGo (bd : D → Env → Option Env) (tt : Env → Option Bool) (me : DM) (ρ0 : Env) : List D → Option (List D)
  | [] => some []
  | d :: ds => (bd d ρ0).bind fun ρ1 => (tt ρ1).bind fun b => if b = true then (me ρ1).bind fun y => (lcGo bd tt me ρ0 ds).bind fun ys => some (y :: ys) else lcGo bd tt me ρ0 ds
def dLc (vs : List Nat) (mi : Env → Option (List D)) (bd : D → Env → Option Env) (tt : Env → Option Bool) (me : DM) : DM := fun ρ => (mi ρ).bind fun ds => (lcGo bd tt me (wipeD ρ vs) ds).bind fun es => if ds.length < 1000000 then some (.lst es) else none
theorem lcGo_len {bd : D → Env → Option Env} {tt : Env → Option Bool} {me : DM} {ρ0 : Env} : ∀ {ds es : List D}, lcGo bd tt me ρ0 ds = some es → es.length ≤ ds.length
  | [], es, h => by cases h; exact Nat.le_refl _
  | d :: ds, es, h => by
    unfold lcGo at h
    cases h1 : bd d ρ0 with
    | none => rw [h1] at h; cases h
    | some ρ1 =>
      cases h2 : tt ρ1 with
      | none => simp [h1, h2] at h
      | some b =>
        cases b with
        | false =>
          simp only [h1, h2, Option.bind_some, Bool.false_eq_true, if_false] at h
          exact Nat.le_succ_of_le (lcGo_len h)
        | true =>
          simp only [h1, h2, Option.bind_some, if_true] at h
          cases h3 : me ρ1 with
          | none => rw [h3] at h; cases h
          | some y =>
            cases h4 : lcGo bd tt me ρ0 ds with
            | none => simp [h3, h4] at h
            | some ys =>
              simp only [h3, h4, Option.bind_some, Option.some.injEq] at h
              subst h
              rw [List.length_cons, List.length_cons]
              exact Nat.succ_le_succ (lcGo_len h4)
def tYesD : Env → Option Bool := fun _ => some true
theorem yes_ok {K : PySem.W.Frag} {L : List Addr} : ∀ σ H Q, tPT K L tYesD σ H Q → tYes σ H Q := fun σ H Q ⟨G, ρ, b, hs, hR, ht, hm, q⟩ => by cases hm; exact q G H (.refl hs)
/-- a list that was not there at H -/
def New (H : Hp) (d : D) (v : V) : Prop := ∀ ds, d = .lst ds → ∃ p, v = .ref p ∧ H p = none
theorem New.back {L : List Addr} {H H1 : Hp} {d : D} {v : V} (e : Ext L H H1) (n : New H1 d v) : New H d v := fun ds h => by
  obtain ⟨p, e1, e2⟩ := n ds h
  exact ⟨p, e1, e.dom p e2⟩
/-- e is worth m, a new list if it is one -/
def tPN (K : PySem.W.Frag) (L : List Addr) (m : DM) : TE := fun σ H Q => ∃ G ρ d, Sub G H ∧ Rep K G σ ρ ∧ Tabs L H ∧ m ρ = some d ∧ ∀ v G' H', Gr L G H G' H' → At K G' d v → New H d v → Q v H'
section
variable {K : PySem.W.Frag} {L : List Addr} {vs : List Nat} {mi : Env → Option (List D)} {bd : D → Env → Option Env} {tt : Env → Option Bool} {me : DM} {g : TG}
theorem lc_impN (hg : GdOk K vs g bd) : ∀ σ H Q, tPN K L (dLc vs mi bd tt me) σ H Q → tLc (tI K L mi) g (tPT K L tt) (tP K L me) vs σ H Q := fun σ H Q ⟨G, ρ, d, hs, hR, ht, hm, q⟩ => by
  unfold dLc at hm
  cases h1 : mi ρ with
  | none => rw [h1] at hm; cases hm
  | some ds =>
    cases h2 : lcGo bd tt me (wipeD ρ vs) ds with
    | none => simp [h1, h2] at hm
    | some es =>
      simp only [h1, h2, Option.bind_some, Option.ite_none_right_eq_some, Option.some.injEq] at hm
      obtain ⟨hlen, rfl⟩ := hm
      refine ⟨G, ρ, ds, hs, hR, ht, h1, fun J G1 H1 g1 wk Dd hD => ?_⟩
      refine ⟨fun i m H' => m = ds.length - i ∧ i ≤ ds.length ∧ ∃ Gi acc accD rest, Ext L H1 H' ∧ Sub Gi H' ∧ Gi Dd = none ∧ (∀ a o, G1 a = some o → Gi a = some o) ∧ (∀ a, Gi a ≠ none → G1 a ≠ none ∨ H1 a = none) ∧ H' Dd = some (.lst acc) ∧ Ats K Gi accD acc ∧ accD.length ≤ i ∧ lcGo bd tt me (wipeD ρ vs) (ds.drop i) = some rest ∧ accD ++ rest = es,
        ⟨ds.length, by simp, Nat.zero_le _, G1, [], [], es, .new hD, fun a o e => ⟨by rw [upd_ne (ne_of_none (g1.sub a o e).1 hD)]; exact (g1.sub a o e).1, (g1.sub a o e).2⟩, g1.sub.none hD, fun _ _ e => e, fun a e => .inl e, upd_same, rfl, Nat.zero_le _, by rw [List.drop_zero]; exact h2, List.nil_append _⟩, ?_⟩
      rintro i m H' ⟨rfl, hi, Gi, acc, accD, rest, e1, si, nD, up, nw, hDl, ta, hla, hgo, hes⟩
      by_cases hlt : i < ds.length
      · refine .inr ?_
        obtain ⟨w1, _⟩ := wk H' (fun a o e => si a o (up a o e))
        obtain ⟨go, yl⟩ := w1 i ds[i] (List.getElem?_eq_getElem hlt)
        refine ⟨go, fun H5 => ∃ Gi acc accD rest, Ext L H1 H5 ∧ Sub Gi H5 ∧ Gi Dd = none ∧ (∀ a o, G1 a = some o → Gi a = some o) ∧ (∀ a, Gi a ≠ none → G1 a ≠ none ∨ H1 a = none) ∧ H5 Dd = some (.lst acc) ∧ Ats K Gi accD acc ∧ accD.length ≤ i + 1 ∧ lcGo bd tt me (wipeD ρ vs) (ds.drop (i + 1)) = some rest ∧ accD ++ rest = es,
          fun H5 h5 => ⟨_, by omega, rfl, hlt, h5⟩, fun x H3 hy => ?_⟩
        obtain ⟨G3, g3, a3⟩ := yl x H3 hy Gi si up
        have hR3 : Rep K G3 (wipe σ vs) (wipeD ρ vs) := (hR.wipe vs).mono fun a o e => g3.up a o (up a o (g1.up a o e))
        rw [List.drop_eq_getElem_cons hlt] at hgo
        unfold lcGo at hgo
        cases k1 : bd ds[i] (wipeD ρ vs) with
        | none => rw [k1] at hgo; cases hgo
        | some ρ1 =>
          cases k2 : tt ρ1 with
          | none => simp [k1, k2] at hgo
          | some b =>
            -- whatever comes behind H' keeps the list at Dd out of what is seen
            have step : ∀ G4 H4, Gr L Gi H' G4 H4 → Ext L H1 H4 ∧ Sub G4 H4 ∧ G4 Dd = none ∧ (∀ a o, G1 a = some o → G4 a = some o) ∧ (∀ a, G4 a ≠ none → G1 a ≠ none ∨ H1 a = none) ∧ H4 Dd = some (.lst acc) := fun G4 H4 g4 => by
              refine ⟨e1.trans g4.ext, g4.sub, ?_, fun a o e => g4.up a o (up a o e), fun a e => ?_, g4.ext.keep _ _ hDl (fun ps z => by cases z)⟩
              · cases z : G4 Dd with
                | none => rfl
                | some o =>
                  rcases g4.new Dd (by rw [z]; simp) with y | y
                  · exact absurd nD y
                  · rw [hDl] at y; cases y
              · rcases g4.new a e with y | y
                · exact nw a y
                · exact .inr (e1.dom a y)
            refine hg G3 H3 (wipe σ vs) (wipeD ρ vs) ρ1 ds[i] x _ g3.sub hR3 a3 k1 fun σ1 hR1 hl1 hw1 => ⟨by rw [hw1, wipe_wipe], G3, ρ1, b, g3.sub, hR1, (ht.ext g1.ext).ext (e1.trans g3.ext), k2, fun G4 H4 g4 => ?_⟩
            cases b with
            | false =>
              simp only [k1, k2, Option.bind_some, Bool.false_eq_true, if_false] at hgo ⊢
              obtain ⟨s1, s2, s3, s4, s5, s6⟩ := step G4 H4 (g3.trans g4)
              exact ⟨G4, acc, accD, rest, s1, s2, s3, s4, s5, s6, ta.mono (g3.trans g4).up, by omega, hgo, hes⟩
            | true =>
              simp only [k1, k2, Option.bind_some, if_true] at hgo ⊢
              cases k3 : me ρ1 with
              | none => rw [k3] at hgo; cases hgo
              | some y =>
                cases k4 : lcGo bd tt me (wipeD ρ vs) (ds.drop (i + 1)) with
                | none => simp [k3, k4] at hgo
                | some ys =>
                  simp only [k3, k4, Option.bind_some, Option.some.injEq] at hgo
                  subst hgo
                  refine ⟨G4, ρ1, y, g4.sub, hR1.mono g4.up, (ht.ext g1.ext).ext (e1.trans (g3.trans g4).ext), k3, fun v G5 H5 g5 a5 => ?_⟩
                  obtain ⟨s1, s2, s3, s4, s5, s6⟩ := step G5 H5 ((g3.trans g4).trans g5)
                  refine ⟨acc, s6, ?_, G5, acc ++ [v], accD ++ [y], ys, s1.mut hD, fun a o e => ?_, s3, s4, s5, upd_same, (ta.mono ((g3.trans g4).trans g5).up).append (.one a5), by rw [List.length_append, List.length_singleton]; omega, rfl, by rw [List.append_assoc]; exact hes⟩
                  · rw [ta.length]
                    exact Nat.lt_of_le_of_lt hla (Nat.lt_trans hlt (Nat.lt_of_lt_of_le hlen (by decide)))
                  · rw [upd_ne (fun z => by rw [z, s3] at e; cases e)]
                    exact s2 a o e
      · have hi' : i = ds.length := by omega
        subst hi'
        obtain ⟨_, w2⟩ := wk H' (fun a o e => si a o (up a o e))
        refine .inl ⟨w2 _ (Nat.le_refl _), ?_⟩
        rw [List.drop_of_length_le (Nat.le_refl _)] at hgo
        cases hgo
        rw [List.append_nil] at hes
        subst hes
        refine q (.ref Dd) (upd Gi Dd (.lst acc)) H' ⟨fun a o e => ?_, fun a o e => ?_, g1.ext.trans e1, fun a e => ?_⟩ ⟨Dd, acc, rfl, upd_same, ta.mono fun a o e => ?_⟩ fun _ _ => ⟨Dd, rfl, g1.ext.dom _ hD⟩
        · by_cases ha : a = Dd
          · subst ha; rw [upd_same] at e; cases e; exact ⟨hDl, fun ps z => by cases z⟩
          · rw [upd_ne ha] at e; exact si a o e
        · have hne : a ≠ Dd := fun z => by
            have y := g1.up a o e
            rw [z, g1.sub.none hD] at y
            cases y
          rw [upd_ne hne]
          exact up a o (g1.up a o e)
        · by_cases ha : a = Dd
          · subst ha; exact .inr (g1.ext.dom _ hD)
          · rw [upd_ne ha] at e
            rcases nw a e with y | y
            · exact g1.new a y
            · exact .inr (g1.ext.dom a y)
        · rw [upd_ne (fun z => by rw [z, nD] at e; cases e)]; exact e
theorem lc_imp (hg : GdOk K vs g bd) : ∀ σ H Q, tP K L (dLc vs mi bd tt me) σ H Q → tLc (tI K L mi) g (tPT K L tt) (tP K L me) vs σ H Q := fun σ H Q ⟨G, ρ, d, hs, hR, ht, hm, q⟩ => lc_impN hg σ H Q ⟨G, ρ, d, hs, hR, ht, hm, fun v G' H' g a _ => q v G' H' g a⟩
end
section
variable {X : Cx} {L : List Addr} {tg iter elt : Expr} {ifs : List Expr} {scope : Scope} {own : List (Str × Nat)} {pos : Pos} {mi : Env → Option (List D)} {bd : D → Env → Option Env} {tt : Env → Option Bool} {me : DM} {g : TG}
theorem pd_lc (hc : X.calm = true) (hN : X.N.Nodup) (hi : PID X L tg iter mi) (ok : BlkOk X.N X.env.scope scope own) (hgd : GdOk X.K (own.map (·.2)) g bd)
    (hg : ∀ (s : Shared) (H : Hp) (C : Addr) (cl : List (Str × Addr)) (fp : List Addr), PG (X.blk s H scope (compEnvC scope cl C X.env) fp) tg g) (ht : ∀ (s : Shared) (H : Hp) (C : Addr) (cl : List (Str × Addr)) (fp : List Addr), PTs (X.blk s H scope (compEnvC scope cl C X.env) fp) ifs (tPT X.K L tt))
    (he : ∀ (s : Shared) (H : Hp) (C : Addr) (cl : List (Str × Addr)) (fp : List Addr), PD (X.blk s H scope (compEnvC scope cl C X.env) fp) L elt me) (hs : ∀ x, foldedSetIterable iter X.env x = pure x := by intro _; rfl) :
    PD X L (.ListComp elt [⟨tg, iter, ifs, 0⟩] scope pos) (dLc (own.map (·.2)) mi bd tt me) := PE.imp (pe_lc (te := tP X.K L me) hc hN hi ok hg ht he hs) (lc_imp hgd)
theorem ptsd_nil {X : Cx} : PTs X [] (tPT X.K L tYesD) := ⟨fun pins s σ H Q I h => pts_nil.run pins s σ H Q I (yes_ok σ H Q h)⟩
theorem ptsd_one {X : Cx} {c : Expr} (h : PTD X L c tt) : PTs X [c] (tPT X.K L tt) := pts_one h
end
/-! ### all, any, sum -/
def anyGo (neg : Bool) (bd : D → Env → Option Env) (tt : Env → Option Bool) (me : DM) (ρ0 : Env) : List D → Option D
  | [] => some (.bl neg)
  | d :: ds => (bd d ρ0).bind fun ρ1 => (tt ρ1).bind fun b => if b = true then (dB me ρ1).bind fun y => if y = neg then anyGo neg bd tt me ρ0 ds else some (.bl y) else anyGo neg bd tt me ρ0 ds
def dQ (neg : Bool) (n : Nat) (is : List Nat) (mi : Env → Option (List D)) (bd : D → Env → Option Env) (tt : Env → Option Bool) (me : DM) : DM := fun ρ => (mi ρ).bind fun ds => anyGo neg bd tt me (captD ρ n is) ds
def toI : D → Option Int
  | .int i => some i
  | _ => none
def dI0 (m : DM) : Env → Option Int := fun ρ => (m ρ).bind toI
def sumGo (bd : D → Env → Option Env) (tt : Env → Option Bool) (me : DM) (ρ0 : Env) : Int → List D → Option D
  | acc, [] => some (.int acc)
  | acc, d :: ds => (bd d ρ0).bind fun ρ1 => (tt ρ1).bind fun b => if b = true then (dI0 me ρ1).bind fun y => sumGo bd tt me ρ0 (acc + y) ds else sumGo bd tt me ρ0 acc ds
def dSum (n : Nat) (is : List Nat) (mi : Env → Option (List D)) (bd : D → Env → Option Env) (tt : Env → Option Bool) (me : DM) : DM := fun ρ => (mi ρ).bind fun ds => sumGo bd tt me (captD ρ n is) 0 ds
section
variable {K : PySem.W.Frag} {L : List Addr} {n : Nat} {is : List Nat} {mi : Env → Option (List D)} {bd : D → Env → Option Env} {tt : Env → Option Bool} {me : DM} {g : TG} {P : Addr}
/-- a generator's turns over data, its rest worth R -/
theorem gen_at {α : Type} {acc0 : α} {Step : VK → α → V → Hp → (α → Hp → Prop) → Prop} {QT : VK → α → Hp → Prop} {R : α → List D → Option D} {G H : Hp} {σ : L2.St} {ρ : Env} {d : D} {ds : List D} {Q : VK} (hP : P ∈ L) (hg : GdOk K (List.range n) g bd)
    (hs : Sub G H) (hR : Rep K G σ ρ) (ht : Tabs L H) (h1 : mi ρ = some ds) (hr0 : R acc0 ds = some d) (q : ∀ v G' H', Gr L G H G' H' → At K G' d v → Q v H')
    (hend : ∀ (acc : α) (G' H' : Hp), R acc [] = some d → Gr L G H G' H' → QT Q acc H')
    (hturn : ∀ (acc : α) (e : D) (es : List D), R acc (e :: es) = some d → ∃ ρ1 b, bd e (captD ρ n is) = some ρ1 ∧ tt ρ1 = some b ∧ (b = false → R acc es = some d) ∧ (b = true → ∃ y, me ρ1 = some y ∧
      ∀ (G' H' : Hp) (v : V) (N : α → Hp → Prop), Gr L G H G' H' → At K G' y v → (∀ acc', R acc' es = some d → N acc' H') → Step Q acc v H' N)) :
    tGen P (tI K L mi) g (tPT K L tt) (tP K L me) n is acc0 Step QT σ H Q := by
  refine ⟨G, ρ, ds, hs, hR, ht, h1, fun J G1 H1 g1 wk => ⟨ht.ext g1.ext P hP, fun H2 hT => ?_⟩⟩
  have g2 : Gr L G H G1 H2 := g1.trans (.of g1.sub (.tabbed (ht.ext g1.ext P hP) hT))
  have e12 : Ext L H1 H2 := .tabbed (ht.ext g1.ext P hP) hT
  refine ⟨fun i m acc H' => m = ds.length - i ∧ i ≤ ds.length ∧ ∃ Gi, Gr L G H Gi H' ∧ Ext L H1 H' ∧ (∀ a o, G1 a = some o → Gi a = some o) ∧ R acc (ds.drop i) = some d, ⟨ds.length, by simp, Nat.zero_le _, G1, g2, e12, fun _ _ e => e, by rw [List.drop_zero]; exact hr0⟩, ?_⟩
  rintro i m acc H' ⟨rfl, hi, Gi, gi, e1, up, hr⟩
  by_cases hlt : i < ds.length
  · refine .inr ?_
    obtain ⟨w1, _⟩ := wk H' (fun a o e => gi.sub a o (up a o e))
    obtain ⟨go, yl⟩ := w1 i ds[i] (List.getElem?_eq_getElem hlt)
    refine ⟨go, fun acc' H5 => ∃ Gi, Gr L G H Gi H5 ∧ Ext L H1 H5 ∧ (∀ a o, G1 a = some o → Gi a = some o) ∧ R acc' (ds.drop (i + 1)) = some d, fun acc' H5 h5 => ⟨_, by omega, rfl, hlt, h5⟩, fun x H3 hy => ?_⟩
    obtain ⟨G3, g3, a3⟩ := yl x H3 hy Gi gi.sub up
    have hR3 : Rep K G3 (capt σ n is) (captD ρ n is) := (hR.capt n is).mono fun a o e => g3.up a o (gi.up a o e)
    rw [List.drop_eq_getElem_cons hlt] at hr
    obtain ⟨ρ1, b, k1, k2, kF, kT⟩ := hturn acc ds[i] _ hr
    refine hg G3 H3 (capt σ n is) (captD ρ n is) ρ1 ds[i] x _ g3.sub hR3 a3 k1 fun σ1 hR1 hl1 hw1 => ⟨by rw [hw1, wipe_capt], G3, ρ1, b, g3.sub, hR1, ht.ext (gi.trans g3).ext, k2, fun G4 H4 g4 => ?_⟩
    have g34 := g3.trans g4
    cases b with
    | false =>
      simp only [Bool.false_eq_true, if_false]
      exact ⟨G4, gi.trans g34, e1.trans g34.ext, fun a o e => g34.up a o (up a o e), kF rfl⟩
    | true =>
      simp only [if_true]
      obtain ⟨y, k3, kS⟩ := kT rfl
      refine ⟨G4, ρ1, y, g4.sub, hR1.mono g4.up, ht.ext (gi.trans g34).ext, k3, fun v G5 H5 g5 a5 => ?_⟩
      exact kS G5 H5 v _ ((gi.trans g34).trans g5) a5 fun acc' hr' => ⟨G5, (gi.trans g34).trans g5, e1.trans (g34.trans g5).ext, fun a o e => (g34.trans g5).up a o (up a o e), hr'⟩
  · have hi' : i = ds.length := by omega
    subst hi'
    obtain ⟨_, w2⟩ := wk H' (fun a o e => gi.sub a o (up a o e))
    rw [List.drop_of_length_le (Nat.le_refl _)] at hr
    exact .inl ⟨w2 _ (Nat.le_refl _), hend acc Gi H' hr gi⟩
theorem any_parts {neg : Bool} {ρ0 : Env} {e d : D} {ds : List D} (h : anyGo neg bd tt me ρ0 (e :: ds) = some d) : ∃ ρ1 b, bd e ρ0 = some ρ1 ∧ tt ρ1 = some b ∧ (b = false → anyGo neg bd tt me ρ0 ds = some d) ∧ (b = true → ∃ y, dB me ρ1 = some y ∧ (y = neg → anyGo neg bd tt me ρ0 ds = some d) ∧ (y ≠ neg → d = .bl y)) := by
  unfold anyGo at h
  cases h1 : bd e ρ0 with
  | none => rw [h1] at h; cases h
  | some ρ1 =>
    cases h2 : tt ρ1 with
    | none => simp [h1, h2] at h
    | some b =>
      refine ⟨ρ1, b, rfl, h2, fun hb => ?_, fun hb => ?_⟩
      · subst hb; simpa [h1, h2] using h
      · subst hb
        simp only [h1, h2, Option.bind_some, if_true] at h
        cases h3 : dB me ρ1 with
        | none => rw [h3] at h; cases h
        | some y =>
          rw [h3] at h
          refine ⟨y, rfl, fun hy => ?_, fun hy => ?_⟩
          · simpa [hy] using h
          · simp only [Option.bind_some, if_neg hy, Option.some.injEq] at h
            exact h.symm
theorem dB_parts {ρ1 : Env} {y : Bool} (h : dB me ρ1 = some y) : me ρ1 = some (.bl y) := by
  unfold dB at h
  cases h1 : me ρ1 with
  | none => rw [h1] at h; cases h
  | some d =>
    rw [h1] at h
    cases d <;> simp only [Option.bind_some, toB, Option.some.injEq, reduceCtorEq] at h
    rw [h]
theorem all_imp (hP : P ∈ L) (hg : GdOk K (List.range n) g bd) : ∀ σ H Q, tP K L (dQ true n is mi bd tt me) σ H Q → tAll P (tI K L mi) g (tPT K L tt) (tP K L me) n is σ H Q := fun σ H Q ⟨G, ρ, d, hs, hR, ht, hm, q⟩ => by
  unfold dQ at hm
  cases h1 : mi ρ with
  | none => rw [h1] at hm; cases hm
  | some ds =>
    rw [h1] at hm
    refine gen_at (R := fun _ ds => anyGo true bd tt me (captD ρ n is) ds) hP hg hs hR ht h1 hm q (fun acc G' H' hr g => ?_) (fun acc e es hr => ?_)
    · cases hr
      exact q _ G' H' g rfl
    · obtain ⟨ρ1, b, k1, k2, k3, k4⟩ := any_parts hr
      refine ⟨ρ1, b, k1, k2, k3, fun hb => ?_⟩
      obtain ⟨y, k5, k6, k7⟩ := k4 hb
      refine ⟨_, dB_parts k5, fun G' H' v N g a hN => ⟨y, a, ?_⟩⟩
      cases y with
      | true => exact hN () (k6 rfl)
      | false =>
        have e := k7 (by decide)
        subst e
        exact q _ G' H' g rfl
theorem any_imp (hP : P ∈ L) (hg : GdOk K (List.range n) g bd) : ∀ σ H Q, tP K L (dQ false n is mi bd tt me) σ H Q → tAny P (tI K L mi) g (tPT K L tt) (tP K L me) n is σ H Q := fun σ H Q ⟨G, ρ, d, hs, hR, ht, hm, q⟩ => by
  unfold dQ at hm
  cases h1 : mi ρ with
  | none => rw [h1] at hm; cases hm
  | some ds =>
    rw [h1] at hm
    refine gen_at (R := fun _ ds => anyGo false bd tt me (captD ρ n is) ds) hP hg hs hR ht h1 hm q (fun acc G' H' hr g => ?_) (fun acc e es hr => ?_)
    · cases hr
      exact q _ G' H' g rfl
    · obtain ⟨ρ1, b, k1, k2, k3, k4⟩ := any_parts hr
      refine ⟨ρ1, b, k1, k2, k3, fun hb => ?_⟩
      obtain ⟨y, k5, k6, k7⟩ := k4 hb
      refine ⟨_, dB_parts k5, fun G' H' v N g a hN => ⟨y, a, ?_⟩⟩
      cases y with
      | false => exact hN () (k6 rfl)
      | true =>
        have e := k7 (by decide)
        subst e
        exact q _ G' H' g rfl
theorem sum_imp (hP : P ∈ L) (hg : GdOk K (List.range n) g bd) : ∀ σ H Q, tP K L (dSum n is mi bd tt me) σ H Q → tSum P (tI K L mi) g (tPT K L tt) (tP K L me) n is σ H Q := fun σ H Q ⟨G, ρ, d, hs, hR, ht, hm, q⟩ => by
  unfold dSum at hm
  cases h1 : mi ρ with
  | none => rw [h1] at hm; cases hm
  | some ds =>
    rw [h1] at hm
    refine gen_at (R := fun acc ds => sumGo bd tt me (captD ρ n is) acc ds) hP hg hs hR ht h1 hm q (fun acc G' H' hr g => ?_) (fun acc e es hr => ?_)
    · cases hr
      exact q _ G' H' g rfl
    · unfold sumGo at hr
      cases k1 : bd e (captD ρ n is) with
      | none => rw [k1] at hr; cases hr
      | some ρ1 =>
        cases k2 : tt ρ1 with
        | none => simp [k1, k2] at hr
        | some b =>
          refine ⟨ρ1, b, rfl, k2, fun hb => ?_, fun hb => ?_⟩
          · subst hb; simpa [k1, k2] using hr
          · subst hb
            simp only [k1, k2, Option.bind_some, if_true] at hr
            unfold dI0 at hr
            cases k3 : me ρ1 with
            | none => rw [k3] at hr; cases hr
            | some y =>
              rw [k3] at hr
              cases y <;> simp only [Option.bind_some, toI, Option.bind_none, reduceCtorEq] at hr
              rename_i y
              exact ⟨_, rfl, fun G' H' v N g a hN => ⟨y, a, hN _ hr⟩⟩
end
section
variable {X : Cx} {elt tg iter : Expr} {ifs : List Expr} {scope : Scope} {p pos gpos : Pos} {own : List Str} {caps : List (Str × Nat)} {gt : TG} {k : Nat} {c P : Addr} {L : List Addr} {mi : Env → Option (List D)} {bd : D → Env → Option Env} {tt : Env → Option Bool} {me : DM}
theorem pd_all (hc : X.calm = true) (hr : Room (k + 1) X.A) (hg : Gl X "all") (hm : X.mg "all" = none) (TB : TabB X.base X.mg c P) (hP : P ∈ L) (hcode : X.env.code = .ref c) (ok : GScp X.N X.env.scope scope own caps) (hgd : GdOk X.K (List.range own.length) gt bd) (hi : PID X L tg iter mi)
    (hgt : ∀ A s H C cl code fp pn, Room k A → PG (gX X s H (genEnv scope cl C code builtinsNs X.env) (own ++ caps.map (·.1)) fp pn A) tg gt)
    (htt : ∀ A s H C cl code fp pn, Room k A → PTs (gX X s H (genEnv scope cl C code builtinsNs X.env) (own ++ caps.map (·.1)) fp pn A) ifs (tPT X.K L tt))
    (hte : ∀ A s H C cl code fp pn, Room k A → PD (gX X s H (genEnv scope cl C code builtinsNs X.env) (own ++ caps.map (·.1)) fp pn A) L elt me)
    (hs : ∀ v, genFold iter X.env v = pure v := by intro _; rfl)
    (he : starEach [.GeneratorExp elt [⟨tg, iter, ifs, 0⟩] scope gpos] X.env = (false, eval (.GeneratorExp elt [⟨tg, iter, ifs, 0⟩] scope gpos) X.env) :: starEach [] X.env := by rfl) :
    PD X L (.Call (.Name "all" p) [.GeneratorExp elt [⟨tg, iter, ifs, 0⟩] scope gpos] [] pos) (dQ true own.length (caps.map (·.2)) mi bd tt me) := PE.imp (pe_all (te := tP X.K L me) hc hr hg hm TB hcode ok hi hgt htt hte hs he) (all_imp hP hgd)
theorem pd_any (hc : X.calm = true) (hr : Room (k + 1) X.A) (hg : Gl X "any") (hm : X.mg "any" = none) (TB : TabB X.base X.mg c P) (hP : P ∈ L) (hcode : X.env.code = .ref c) (ok : GScp X.N X.env.scope scope own caps) (hgd : GdOk X.K (List.range own.length) gt bd) (hi : PID X L tg iter mi)
    (hgt : ∀ A s H C cl code fp pn, Room k A → PG (gX X s H (genEnv scope cl C code builtinsNs X.env) (own ++ caps.map (·.1)) fp pn A) tg gt)
    (htt : ∀ A s H C cl code fp pn, Room k A → PTs (gX X s H (genEnv scope cl C code builtinsNs X.env) (own ++ caps.map (·.1)) fp pn A) ifs (tPT X.K L tt))
    (hte : ∀ A s H C cl code fp pn, Room k A → PD (gX X s H (genEnv scope cl C code builtinsNs X.env) (own ++ caps.map (·.1)) fp pn A) L elt me)
    (hs : ∀ v, genFold iter X.env v = pure v := by intro _; rfl)
    (he : starEach [.GeneratorExp elt [⟨tg, iter, ifs, 0⟩] scope gpos] X.env = (false, eval (.GeneratorExp elt [⟨tg, iter, ifs, 0⟩] scope gpos) X.env) :: starEach [] X.env := by rfl) :
    PD X L (.Call (.Name "any" p) [.GeneratorExp elt [⟨tg, iter, ifs, 0⟩] scope gpos] [] pos) (dQ false own.length (caps.map (·.2)) mi bd tt me) := PE.imp (pe_any (te := tP X.K L me) hc hr hg hm TB hcode ok hi hgt htt hte hs he) (any_imp hP hgd)
theorem pd_sum (hc : X.calm = true) (hr : Room (k + 1) X.A) (hg : Gl X "sum") (hm : X.mg "sum" = none) (TB : TabB X.base X.mg c P) (hP : P ∈ L) (hcode : X.env.code = .ref c) (ok : GScp X.N X.env.scope scope own caps) (hgd : GdOk X.K (List.range own.length) gt bd) (hi : PID X L tg iter mi)
    (hgt : ∀ A s H C cl code fp pn, Room k A → PG (gX X s H (genEnv scope cl C code builtinsNs X.env) (own ++ caps.map (·.1)) fp pn A) tg gt)
    (htt : ∀ A s H C cl code fp pn, Room k A → PTs (gX X s H (genEnv scope cl C code builtinsNs X.env) (own ++ caps.map (·.1)) fp pn A) ifs (tPT X.K L tt))
    (hte : ∀ A s H C cl code fp pn, Room k A → PD (gX X s H (genEnv scope cl C code builtinsNs X.env) (own ++ caps.map (·.1)) fp pn A) L elt me)
    (hs : ∀ v, genFold iter X.env v = pure v := by intro _; rfl)
    (he : starEach [.GeneratorExp elt [⟨tg, iter, ifs, 0⟩] scope gpos] X.env = (false, eval (.GeneratorExp elt [⟨tg, iter, ifs, 0⟩] scope gpos) X.env) :: starEach [] X.env := by rfl) :
    PD X L (.Call (.Name "sum" p) [.GeneratorExp elt [⟨tg, iter, ifs, 0⟩] scope gpos] [] pos) (dSum own.length (caps.map (·.2)) mi bd tt me) := PE.imp (pe_sum (te := tP X.K L me) hc hr hg hm TB hcode ok hi hgt htt hte hs he) (sum_imp hP hgd)
end
end DN

set_option Elab.async false
set_option linter.all false
set_option maxRecDepth 100000
set_option maxHeartbeats 2000000
/-! What a def owns: lists, tuples, an object, by kinds. -/
namespace DN
open PySem PySem.Spec PyProof.Rows L2 GxR GX
def Scal : D → Bool
  | .non => true
  | .bl _ => true
  | .int _ => true
  | .str _ => true
  | _ => false
def Flat : D → Bool
  | .lst ds => ds.all Scal
  | d => Scal d
theorem scal_move {K : PySem.W.Frag} {G G1 : Hp} {d : D} {v : V} (h : Scal d = true) (a : At K G d v) : At K G1 d v := by
  cases d <;> first | exact a | cases h
theorem scals_move {K : PySem.W.Frag} {G G1 : Hp} : ∀ {ds : List D} {xs : List V}, ds.all Scal = true → Ats K G ds xs → Ats K G1 ds xs
  | [], _, _, a => a
  | d :: ds, _, h, ⟨x, r, e, a, t⟩ => by
    rw [List.all_cons, Bool.and_eq_true] at h
    exact ⟨x, r, e, scal_move h.1 a, scals_move h.2 t⟩
/-- how much of a thing is the def's own: nothing; all of it; itself, its items by a kind; nothing, but where it stands is known; an object, its attributes by kinds -/
inductive Kd where
  | pl | all | own (k : Kd) | fix (b : Addr) | fld (qs : List Kd)
def kids : Kd → Option Kd
  | .all => some .all
  | .own k => some k
  | _ => none
mutual
/-- v is d; the objects at A are the def's own -/
def Own (K : PySem.W.Frag) (G H : Hp) : D → Kd → V → List Addr → Prop
  | .lst ds, κ, v, A => (κ = .pl ∧ A = [] ∧ At K G (.lst ds) v) ∨ (∃ b, κ = .fix b ∧ v = .ref b ∧ A = [] ∧ At K G (.lst ds) v) ∨ ∃ k a xs B, kids κ = some k ∧ v = .ref a ∧ H a = some (.lst xs) ∧ A = a :: B ∧ Owns K G H ds k xs B
  | .tup ds, κ, v, A => (κ = .pl ∧ A = [] ∧ At K G (.tup ds) v) ∨ (∃ b, κ = .fix b ∧ v = .ref b ∧ A = [] ∧ At K G (.tup ds) v) ∨ ∃ k a xs B, kids κ = some k ∧ v = .ref a ∧ H a = some (.tup xs) ∧ A = a :: B ∧ Owns K G H ds k xs B
  | .obj c ks ds, κ, v, A => (κ = .pl ∧ A = [] ∧ At K G (.obj c ks ds) v) ∨ ∃ qs a C dx xs B, κ = .fld qs ∧ v = .ref a ∧ PySem.W.nsIn K mainGlobals c = some (some (.ref C)) ∧ H a = some (.ins C dx (ks.zip xs)) ∧ A = a :: B ∧ ks.length = ds.length ∧ OwnF K G H ds qs xs B
  | .non, _, v, A => A = [] ∧ At K G .non v
  | .bl b, _, v, A => A = [] ∧ At K G (.bl b) v
  | .int b, _, v, A => A = [] ∧ At K G (.int b) v
  | .str b, _, v, A => A = [] ∧ At K G (.str b) v
  | .dct, κ, v, A => κ = .pl ∧ A = [] ∧ At K G .dct v
  | .scr ns, κ, v, A => κ = .pl ∧ A = [] ∧ At K G (.scr ns) v
def Owns (K : PySem.W.Frag) (G H : Hp) : List D → Kd → List V → List Addr → Prop
  | [], _, xs, A => xs = [] ∧ A = []
  | d :: ds, κ, xs, A => ∃ x r B C, xs = x :: r ∧ A = B ++ C ∧ Own K G H d κ x B ∧ Owns K G H ds κ r C
/-- attributes, each by its own kind -/
def OwnF (K : PySem.W.Frag) (G H : Hp) : List D → List Kd → List V → List Addr → Prop
  | [], _, xs, A => xs = [] ∧ A = []
  | d :: ds, qs, xs, A => ∃ x r B C, xs = x :: r ∧ A = B ++ C ∧ Own K G H d (qs.headD .pl) x B ∧ OwnF K G H ds qs.tail r C
end
section
variable {K : PySem.W.Frag} {L : List Addr} {G G1 H H1 : Hp}
mutual
theorem Own.at (u : ∀ a o, G a = some o → G1 a = some o) : ∀ {d : D} {κ : Kd} {v : V} {A : List Addr}, (∀ a ∈ A, G1 a = H a) → Own K G H d κ v A → At K G1 d v
  | .lst _, _, _, _, e, h => by
    rcases h with ⟨_, _, h⟩ | ⟨_, _, _, _, h⟩ | ⟨k, a, xs, B, _, h1, h2, rfl, h3⟩
    · exact h.mono u
    · exact h.mono u
    · exact ⟨a, xs, h1, (e a List.mem_cons_self).trans h2, Owns.at u (fun b hb => e b (List.mem_cons_of_mem _ hb)) h3⟩
  | .tup _, _, _, _, e, h => by
    rcases h with ⟨_, _, h⟩ | ⟨_, _, _, _, h⟩ | ⟨k, a, xs, B, _, h1, h2, rfl, h3⟩
    · exact h.mono u
    · exact h.mono u
    · exact ⟨a, xs, h1, (e a List.mem_cons_self).trans h2, Owns.at u (fun b hb => e b (List.mem_cons_of_mem _ hb)) h3⟩
  | .obj _ _ _, _, _, _, e, h => by
    rcases h with ⟨_, _, h⟩ | ⟨qs, a, C, dx, xs, B, _, h1, h0, h2, rfl, hl, h3⟩
    · exact h.mono u
    · exact ⟨a, C, dx, xs, h1, h0, (e a List.mem_cons_self).trans h2, hl, OwnF.at u (fun b hb => e b (List.mem_cons_of_mem _ hb)) h3⟩
  | .non, _, _, _, _, h => h.2
  | .bl _, _, _, _, _, h => h.2
  | .int _, _, _, _, _, h => h.2
  | .str _, _, _, _, _, h => h.2
  | .dct, _, _, _, _, h => h.2.2.mono u
  | .scr _, _, _, _, _, h => h.2.2.mono u
theorem Owns.at (u : ∀ a o, G a = some o → G1 a = some o) : ∀ {ds : List D} {κ : Kd} {xs : List V} {A : List Addr}, (∀ a ∈ A, G1 a = H a) → Owns K G H ds κ xs A → Ats K G1 ds xs
  | [], _, _, _, _, h => h.1
  | _ :: _, _, _, _, e, h => by
    obtain ⟨x, r, B, C, rfl, rfl, h1, h2⟩ := h
    exact ⟨x, r, rfl, Own.at u (fun a ha => e a (List.mem_append_left _ ha)) h1, Owns.at u (fun a ha => e a (List.mem_append_right _ ha)) h2⟩
theorem OwnF.at (u : ∀ a o, G a = some o → G1 a = some o) : ∀ {ds : List D} {qs : List Kd} {xs : List V} {A : List Addr}, (∀ a ∈ A, G1 a = H a) → OwnF K G H ds qs xs A → Ats K G1 ds xs
  | [], _, _, _, _, h => h.1
  | _ :: _, _, _, _, e, h => by
    obtain ⟨x, r, B, C, rfl, rfl, h1, h2⟩ := h
    exact ⟨x, r, rfl, Own.at u (fun a ha => e a (List.mem_append_left _ ha)) h1, OwnF.at u (fun a ha => e a (List.mem_append_right _ ha)) h2⟩
end
mutual
theorem Own.sm : ∀ {d : D} {κ : Kd} {v : V} {A : List Addr}, Own K G H d κ v A → ∀ a ∈ A, ∃ o, H a = some o ∧ ∀ ps, o ≠ .tbl ps
  | .lst _, _, _, _, h, b, hb => by
    rcases h with ⟨_, rfl, _⟩ | ⟨_, _, _, rfl, _⟩ | ⟨k, a, xs, B, _, h1, h2, rfl, h3⟩
    · cases hb
    · cases hb
    · rcases List.mem_cons.mp hb with rfl | hb
      · exact ⟨_, h2, fun ps z => by cases z⟩
      · exact Owns.sm h3 b hb
  | .tup _, _, _, _, h, b, hb => by
    rcases h with ⟨_, rfl, _⟩ | ⟨_, _, _, rfl, _⟩ | ⟨k, a, xs, B, _, h1, h2, rfl, h3⟩
    · cases hb
    · cases hb
    · rcases List.mem_cons.mp hb with rfl | hb
      · exact ⟨_, h2, fun ps z => by cases z⟩
      · exact Owns.sm h3 b hb
  | .obj _ _ _, _, _, _, h, b, hb => by
    rcases h with ⟨_, rfl, _⟩ | ⟨qs, a, C, dx, xs, B, _, h1, h0, h2, rfl, hl, h3⟩
    · cases hb
    · rcases List.mem_cons.mp hb with rfl | hb
      · exact ⟨_, h2, fun ps z => by cases z⟩
      · exact OwnF.sm h3 b hb
  | .non, _, _, _, h, _, hb => by rw [h.1] at hb; cases hb
  | .bl _, _, _, _, h, _, hb => by rw [h.1] at hb; cases hb
  | .int _, _, _, _, h, _, hb => by rw [h.1] at hb; cases hb
  | .str _, _, _, _, h, _, hb => by rw [h.1] at hb; cases hb
  | .dct, _, _, _, h, _, hb => by rw [h.2.1] at hb; cases hb
  | .scr _, _, _, _, h, _, hb => by rw [h.2.1] at hb; cases hb
theorem Owns.sm : ∀ {ds : List D} {κ : Kd} {xs : List V} {A : List Addr}, Owns K G H ds κ xs A → ∀ a ∈ A, ∃ o, H a = some o ∧ ∀ ps, o ≠ .tbl ps
  | [], _, _, _, h, _, hb => by rw [h.2] at hb; cases hb
  | _ :: _, _, _, _, h, b, hb => by
    obtain ⟨x, r, B, C, rfl, rfl, h1, h2⟩ := h
    rcases List.mem_append.mp hb with hb | hb
    · exact Own.sm h1 b hb
    · exact Owns.sm h2 b hb
theorem OwnF.sm : ∀ {ds : List D} {qs : List Kd} {xs : List V} {A : List Addr}, OwnF K G H ds qs xs A → ∀ a ∈ A, ∃ o, H a = some o ∧ ∀ ps, o ≠ .tbl ps
  | [], _, _, _, h, _, hb => by rw [h.2] at hb; cases hb
  | _ :: _, _, _, _, h, b, hb => by
    obtain ⟨x, r, B, C, rfl, rfl, h1, h2⟩ := h
    rcases List.mem_append.mp hb with hb | hb
    · exact Own.sm h1 b hb
    · exact OwnF.sm h2 b hb
end
mutual
theorem Own.keep (u : ∀ a o, G a = .some o → G1 a = .some o) : ∀ {d : D} {κ : Kd} {v : V} {A : List Addr}, (∀ a ∈ A, ∀ o, H a = .some o → (∀ ps, o ≠ .tbl ps) → H1 a = .some o) → Own K G H d κ v A → Own K G1 H1 d κ v A
  | .lst _, _, _, _, e, h => by
    rcases h with ⟨h0, h1, h⟩ | ⟨b, h0, h4, h1, h⟩ | ⟨k, a, xs, B, hk, h1, h2, rfl, h3⟩
    · exact .inl ⟨h0, h1, h.mono u⟩
    · exact .inr (.inl ⟨b, h0, h4, h1, h.mono u⟩)
    · exact .inr (.inr ⟨k, a, xs, B, hk, h1, e a List.mem_cons_self _ h2 (fun ps z => by cases z), rfl, Owns.keep u (fun b hb => e b (List.mem_cons_of_mem _ hb)) h3⟩)
  | .tup _, _, _, _, e, h => by
    rcases h with ⟨h0, h1, h⟩ | ⟨b, h0, h4, h1, h⟩ | ⟨k, a, xs, B, hk, h1, h2, rfl, h3⟩
    · exact .inl ⟨h0, h1, h.mono u⟩
    · exact .inr (.inl ⟨b, h0, h4, h1, h.mono u⟩)
    · exact .inr (.inr ⟨k, a, xs, B, hk, h1, e a List.mem_cons_self _ h2 (fun ps z => by cases z), rfl, Owns.keep u (fun b hb => e b (List.mem_cons_of_mem _ hb)) h3⟩)
  | .obj _ _ _, _, _, _, e, h => by
    rcases h with ⟨h0, h1, h⟩ | ⟨qs, a, C, dx, xs, B, hk, h1, h0, h2, rfl, hl, h3⟩
    · exact .inl ⟨h0, h1, h.mono u⟩
    · exact .inr ⟨qs, a, C, dx, xs, B, hk, h1, h0, e a List.mem_cons_self _ h2 (fun ps z => by cases z), rfl, hl, OwnF.keep u (fun b hb => e b (List.mem_cons_of_mem _ hb)) h3⟩
  | .non, _, _, _, _, h => h
  | .bl _, _, _, _, _, h => h
  | .int _, _, _, _, _, h => h
  | .str _, _, _, _, _, h => h
  | .dct, _, _, _, _, h => ⟨h.1, h.2.1, h.2.2.mono u⟩
  | .scr _, _, _, _, _, h => ⟨h.1, h.2.1, h.2.2.mono u⟩
theorem Owns.keep (u : ∀ a o, G a = .some o → G1 a = .some o) : ∀ {ds : List D} {κ : Kd} {xs : List V} {A : List Addr}, (∀ a ∈ A, ∀ o, H a = .some o → (∀ ps, o ≠ .tbl ps) → H1 a = .some o) → Owns K G H ds κ xs A → Owns K G1 H1 ds κ xs A
  | [], _, _, _, _, h => h
  | _ :: _, _, _, _, e, h => by
    obtain ⟨x, r, B, C, rfl, rfl, h1, h2⟩ := h
    exact ⟨x, r, B, C, rfl, rfl, Own.keep u (fun a ha => e a (List.mem_append_left _ ha)) h1, Owns.keep u (fun a ha => e a (List.mem_append_right _ ha)) h2⟩
theorem OwnF.keep (u : ∀ a o, G a = .some o → G1 a = .some o) : ∀ {ds : List D} {qs : List Kd} {xs : List V} {A : List Addr}, (∀ a ∈ A, ∀ o, H a = .some o → (∀ ps, o ≠ .tbl ps) → H1 a = .some o) → OwnF K G H ds qs xs A → OwnF K G1 H1 ds qs xs A
  | [], _, _, _, _, h => h
  | _ :: _, _, _, _, e, h => by
    obtain ⟨x, r, B, C, rfl, rfl, h1, h2⟩ := h
    exact ⟨x, r, B, C, rfl, rfl, Own.keep u (fun a ha => e a (List.mem_append_left _ ha)) h1, OwnF.keep u (fun a ha => e a (List.mem_append_right _ ha)) h2⟩
end
mutual
theorem Own.move : ∀ {d : D} {v : V} {A : List Addr}, Own K G H d .all v A → Own K G1 H d .all v A
  | .lst _, _, _, h => by
    rcases h with ⟨h0, _, _⟩ | ⟨b, h0, _⟩ | ⟨k, a, xs, B, hk, h1, h2, rfl, h3⟩
    · cases h0
    · cases h0
    · cases hk
      exact .inr (.inr ⟨_, a, xs, B, rfl, h1, h2, rfl, Owns.move h3⟩)
  | .tup _, _, _, h => by
    rcases h with ⟨h0, _, _⟩ | ⟨b, h0, _⟩ | ⟨k, a, xs, B, hk, h1, h2, rfl, h3⟩
    · cases h0
    · cases h0
    · cases hk
      exact .inr (.inr ⟨_, a, xs, B, rfl, h1, h2, rfl, Owns.move h3⟩)
  | .obj _ _ _, _, _, h => by
    rcases h with ⟨h0, _, _⟩ | ⟨qs, a, C, dx, xs, B, hk, _⟩
    · cases h0
    · cases hk
  | .non, _, _, h => h
  | .bl _, _, _, h => h
  | .int _, _, _, h => h
  | .str _, _, _, h => h
  | .dct, _, _, h => nomatch h.1
  | .scr _, _, _, h => nomatch h.1
theorem Owns.move : ∀ {ds : List D} {xs : List V} {A : List Addr}, Owns K G H ds .all xs A → Owns K G1 H ds .all xs A
  | [], _, _, h => h
  | _ :: _, _, _, h => by
    obtain ⟨x, r, B, C, rfl, rfl, h1, h2⟩ := h
    exact ⟨x, r, B, C, rfl, rfl, Own.move h1, Owns.move h2⟩
end
theorem own_scal {κ : Kd} {d : D} {v : V} (h : Scal d = true) (a : At K G d v) : Own K G H d κ v [] := by
  cases d <;> first | exact ⟨rfl, a⟩ | cases h
theorem own_plain {d : D} {v : V} (a : At K G d v) : Own K G H d .pl v [] := by
  cases d <;> first | exact ⟨rfl, a⟩ | exact .inl ⟨rfl, rfl, a⟩ | exact ⟨rfl, rfl, a⟩
theorem Own.plain {d : D} {v : V} {A : List Addr} (h : Own K G H d .pl v A) : A = [] ∧ At K G d v := by
  cases d
  case lst ds => rcases h with ⟨_, h1, h⟩ | ⟨b, h0, _⟩ | ⟨k, a, xs, B, hk, _⟩ <;> first | exact ⟨h1, h⟩ | cases h0 | cases hk
  case tup ds => rcases h with ⟨_, h1, h⟩ | ⟨b, h0, _⟩ | ⟨k, a, xs, B, hk, _⟩ <;> first | exact ⟨h1, h⟩ | cases h0 | cases hk
  case obj c ks ds => rcases h with ⟨_, h1, h⟩ | ⟨qs, a, C, dx, xs, B, hk, _⟩ <;> first | exact ⟨h1, h⟩ | cases hk
  case dct => exact ⟨h.2.1, h.2.2⟩
  case scr ns => exact ⟨h.2.1, h.2.2⟩
  all_goals exact h
theorem owns_scal {κ : Kd} : ∀ {ds : List D} {xs : List V}, ds.all Scal = true → Ats K G ds xs → Owns K G H ds κ xs []
  | [], _, _, a => ⟨a, rfl⟩
  | d :: ds, _, h, ⟨x, r, e, a, t⟩ => by
    rw [List.all_cons, Bool.and_eq_true] at h
    exact ⟨x, r, [], [], e, rfl, own_scal h.1 a, owns_scal h.2 t⟩
theorem owns_plain : ∀ {ds : List D} {xs : List V}, Ats K G ds xs → Owns K G H ds .pl xs []
  | [], _, a => ⟨a, rfl⟩
  | d :: ds, _, ⟨x, r, e, a, t⟩ => ⟨x, r, [], [], e, rfl, own_plain a, owns_plain t⟩
theorem Owns.plain : ∀ {ds : List D} {xs : List V} {A : List Addr}, Owns K G H ds .pl xs A → A = [] ∧ Ats K G ds xs
  | [], _, _, h => ⟨h.2, h.1⟩
  | d :: ds, _, _, ⟨x, r, B, C, e, e2, a, t⟩ => by
    obtain ⟨h1, h2⟩ := a.plain
    obtain ⟨h3, h4⟩ := Owns.plain t
    exact ⟨by rw [e2, h1, h3]; rfl, x, r, e, h2, h4⟩
theorem Owns.app {κ : Kd} : ∀ {ds es : List D} {xs ys : List V} {A B : List Addr}, Owns K G H ds κ xs A → Owns K G H es κ ys B → Owns K G H (ds ++ es) κ (xs ++ ys) (A ++ B)
  | [], _, _, _, _, _, h, t => by
    obtain ⟨rfl, rfl⟩ := h
    exact t
  | _ :: _, _, _, _, _, _, h, t => by
    obtain ⟨x, r, B, C, rfl, rfl, h1, h2⟩ := h
    exact ⟨x, r ++ _, B, C ++ _, rfl, by rw [List.append_assoc], h1, Owns.app h2 t⟩
theorem Owns.one {κ : Kd} {d : D} {v : V} {A : List Addr} (h : Own K G H d κ v A) : Owns K G H [d] κ [v] A := ⟨v, [], A, [], rfl, by rw [List.append_nil], h, rfl, rfl⟩
theorem Owns.length {κ : Kd} : ∀ {ds : List D} {xs : List V} {A : List Addr}, Owns K G H ds κ xs A → xs.length = ds.length
  | [], _, _, h => by rw [h.1]; rfl
  | _ :: _, _, _, h => by
    obtain ⟨x, r, B, C, rfl, rfl, h1, h2⟩ := h
    rw [List.length_cons, List.length_cons, Owns.length h2]
theorem OwnF.length : ∀ {ds : List D} {qs : List Kd} {xs : List V} {A : List Addr}, OwnF K G H ds qs xs A → xs.length = ds.length
  | [], _, _, _, h => by rw [h.1]; rfl
  | _ :: _, _, _, _, h => by
    obtain ⟨x, r, B, C, rfl, rfl, h1, h2⟩ := h
    rw [List.length_cons, List.length_cons, OwnF.length h2]
/-- the addresses are out of what is seen, and were none at H0 -/
structure Fresh (H0 G : Hp) (A : List Addr) : Prop where
  nd : A.Nodup
  out : ∀ a ∈ A, G a = none
  nw : ∀ a ∈ A, H0 a = none
theorem Fresh.nil {H0 G : Hp} : Fresh H0 G [] := ⟨List.nodup_nil, fun a h => (nomatch h), fun a h => (nomatch h)⟩
theorem Own.list {κ k : Kd} {ds : List D} {v : V} {A : List Addr} (h : Own K G H (.lst ds) κ v A) (n : kids κ = some k) : ∃ a xs B, v = .ref a ∧ H a = .some (.lst xs) ∧ A = a :: B ∧ Owns K G H ds k xs B := by
  rcases h with ⟨rfl, _⟩ | ⟨b, rfl, _⟩ | ⟨k', a, xs, B, h0, h⟩
  · cases n
  · cases n
  · rw [n] at h0
    cases h0
    exact ⟨a, xs, B, h⟩
theorem Own.tupl {κ k : Kd} {ds : List D} {v : V} {A : List Addr} (h : Own K G H (.tup ds) κ v A) (n : kids κ = some k) : ∃ a xs B, v = .ref a ∧ H a = .some (.tup xs) ∧ A = a :: B ∧ Owns K G H ds k xs B := by
  rcases h with ⟨rfl, _⟩ | ⟨b, rfl, _⟩ | ⟨k', a, xs, B, h0, h⟩
  · cases n
  · cases n
  · rw [n] at h0
    cases h0
    exact ⟨a, xs, B, h⟩
theorem Own.objt {qs : List Kd} {c : Str} {ks : List Str} {ds : List D} {v : V} {A : List Addr} (h : Own K G H (.obj c ks ds) (.fld qs) v A) : ∃ a C dx xs B, v = .ref a ∧ PySem.W.nsIn K mainGlobals c = some (some (.ref C)) ∧ H a = some (.ins C dx (ks.zip xs)) ∧ A = a :: B ∧ ks.length = ds.length ∧ OwnF K G H ds qs xs B := by
  rcases h with ⟨h0, _⟩ | ⟨qs', a, C, dx, xs, B, h0, h⟩
  · cases h0
  · cases h0
    exact ⟨a, C, dx, xs, B, h⟩
end
/-! ### a list within what is owned -/
section
variable {K : PySem.W.Frag} {G : Hp}
theorem Owns.at_ix {H : Hp} {κ : Kd} : ∀ {n : Nat} {ds : List D} {d : D} {xs : List V} {A : List Addr}, ds[n]? = some d → Owns K G H ds κ xs A → ∃ x A1 B A2, xs[n]? = some x ∧ A = A1 ++ B ++ A2 ∧ Own K G H d κ x B ∧
    ∀ (H' : Hp) (d' : D) (B' : List Addr), (∀ b ∈ A1 ++ A2, ∀ o, H b = some o → (∀ ps, o ≠ .tbl ps) → H' b = some o) → Own K G H' d' κ x B' → Owns K G H' (ds.set n d') κ xs (A1 ++ B' ++ A2)
  | 0, d0 :: ds, d, xs, A, e, h => by
    obtain ⟨x, r, B, C, rfl, rfl, h1, h2⟩ := h
    simp only [List.getElem?_cons_zero, Option.some.injEq] at e
    subst e
    refine ⟨x, [], B, C, rfl, rfl, h1, fun H' d' B' hk ho => ⟨x, r, B', C, rfl, rfl, ho, Owns.keep (fun _ _ z => z) (fun a ha => hk a (by simpa using ha)) h2⟩⟩
  | n + 1, d0 :: ds, d, xs, A, e, h => by
    obtain ⟨x, r, B, C, rfl, rfl, h1, h2⟩ := h
    obtain ⟨y, A1, B1, A2, q1, q2, q3, q4⟩ := Owns.at_ix (n := n) (by simpa using e) h2
    refine ⟨y, B ++ A1, B1, A2, by simpa using q1, by rw [q2]; simp, q3, fun H' d' B' hk ho => ⟨x, r, B, A1 ++ B' ++ A2, rfl, by simp, Own.keep (fun _ _ z => z) (fun a ha => hk a (by simp [ha])) h1, q4 H' d' B' (fun b hb => hk b (by simp at hb ⊢; grind)) ho⟩⟩
theorem OwnF.at_ix {H : Hp} : ∀ {n : Nat} {ds : List D} {qs : List Kd} {d : D} {xs : List V} {A : List Addr}, ds[n]? = some d → OwnF K G H ds qs xs A → ∃ x A1 B A2, xs[n]? = some x ∧ A = A1 ++ B ++ A2 ∧ Own K G H d (qs.getD n .pl) x B ∧
    ∀ (H' : Hp) (d' : D) (B' : List Addr), (∀ b ∈ A1 ++ A2, ∀ o, H b = some o → (∀ ps, o ≠ .tbl ps) → H' b = some o) → Own K G H' d' (qs.getD n .pl) x B' → OwnF K G H' (ds.set n d') qs xs (A1 ++ B' ++ A2)
  | 0, d0 :: ds, qs, d, xs, A, e, h => by
    obtain ⟨x, r, B, C, rfl, rfl, h1, h2⟩ := h
    simp only [List.getElem?_cons_zero, Option.some.injEq] at e
    subst e
    have hq : qs.headD .pl = qs.getD 0 .pl := by cases qs <;> rfl
    rw [hq] at h1
    refine ⟨x, [], B, C, rfl, rfl, h1, fun H' d' B' hk ho => ⟨x, r, B', C, rfl, rfl, by rw [hq]; exact ho, OwnF.keep (fun _ _ z => z) (fun a ha => hk a (by simpa using ha)) h2⟩⟩
  | n + 1, d0 :: ds, qs, d, xs, A, e, h => by
    obtain ⟨x, r, B, C, rfl, rfl, h1, h2⟩ := h
    have hq : qs.tail.getD n .pl = qs.getD (n + 1) .pl := by cases qs <;> rfl
    obtain ⟨y, A1, B1, A2, q1, q2, q3, q4⟩ := OwnF.at_ix (n := n) (by simpa using e) h2
    rw [hq] at q3 q4
    refine ⟨y, B ++ A1, B1, A2, by simpa using q1, by rw [q2]; simp, q3, fun H' d' B' hk ho => ⟨x, r, B, A1 ++ B' ++ A2, rfl, by simp, Own.keep (fun _ _ z => z) (fun a ha => hk a (by simp [ha])) h1, q4 H' d' B' (fun b hb => hk b (by simp at hb ⊢; grind)) ho⟩⟩
end
/-- a step into a thing: an item by its place, an attribute by its place among the names -/
inductive Stp where
  | ix (n : Nat) | fd (f : Str) (j : Nat)
def getP : D → List Stp → Option D
  | d, [] => some d
  | .lst ds, .ix n :: π => (ds[n]?).bind fun d => getP d π
  | .tup ds, .ix n :: π => (ds[n]?).bind fun d => getP d π
  | .obj _ ks ds, .fd f j :: π => if ks[j]? = some f ∧ (∀ i, i < j → ks[i]? ≠ some f) then (ds[j]?).bind fun d => getP d π else none
  | _, _ :: _ => none
def putAt : D → List Stp → D → D
  | _, [], e => e
  | .lst ds, .ix n :: π, e => .lst (ds.set n (putAt ((ds[n]?).getD .non) π e))
  | .tup ds, .ix n :: π, e => .tup (ds.set n (putAt ((ds[n]?).getD .non) π e))
  | .obj c ks ds, .fd _ j :: π, e => .obj c ks (ds.set j (putAt ((ds[j]?).getD .non) π e))
  | d, _ :: _, _ => d
/-- the kind of what a path leads to -/
def kdP : Kd → List Stp → Option Kd
  | κ, [] => some κ
  | κ, .ix _ :: π => (kids κ).bind fun k => kdP k π
  | .fld qs, .fd _ j :: π => kdP (qs.getD j .pl) π
  | _, _ :: _ => none
/-- where a path leads in the heap -/
def walkV (H : Hp) : V → List Stp → Option V
  | v, [] => some v
  | .ref a, .ix n :: π => match H a with
    | some (.lst xs) => (xs[n]?).bind fun x => walkV H x π
    | some (.tup xs) => (xs[n]?).bind fun x => walkV H x π
    | _ => none
  | .ref a, .fd f _ :: π => match H a with
    | some (.ins _ _ fs) => (fs.lookup f).bind fun x => walkV H x π
    | _ => none
  | _, _ :: _ => none
theorem lookup_zip {f : Str} : ∀ {j : Nat} {ks : List Str} {xs : List V} {x : V}, ks[j]? = some f → (∀ i, i < j → ks[i]? ≠ some f) → xs[j]? = some x → (ks.zip xs).lookup f = some x
  | 0, k :: ks, y :: xs, x, h, _, e => by
    simp only [List.getElem?_cons_zero, Option.some.injEq] at h e
    subst h e
    simp [List.lookup]
  | j + 1, k :: ks, y :: xs, x, h, hn, e => by
    have hk : k ≠ f := fun z => hn 0 (by omega) (by simp [z])
    have hb : (f == k) = false := by
      cases q : f == k with
      | false => rfl
      | true => exact absurd (eq_of_beq q).symm hk
    simp only [List.zip_cons_cons, List.lookup, hb]
    exact lookup_zip (by simpa using h) (fun i hi z => hn (i + 1) (by omega) (by simpa using z)) (by simpa using e)
  | 0, [], _, _, h, _, _ => by simp at h
  | _ + 1, [], _, _, h, _, _ => by simp at h
  | 0, _ :: _, [], _, _, _, e => by simp at e
  | _ + 1, _ :: _, [], _, _, _, e => by simp at e
/-- the thing that a path leads to, and how it is put back -/
theorem Own.path {K : PySem.W.Frag} {G H : Hp} : ∀ {π : List Stp} {d e : D} {κ k : Kd} {v : V} {A : List Addr}, getP d π = some e → kdP κ π = some k → Own K G H d κ v A → ∃ u A1 B A2, walkV H v π = some u ∧ A = A1 ++ B ++ A2 ∧ Own K G H e k u B ∧
    ∀ (H' : Hp) (e' : D) (B' : List Addr), (∀ b ∈ A1 ++ A2, ∀ o, H b = some o → (∀ ps, o ≠ .tbl ps) → H' b = some o) → Own K G H' e' k u B' → Own K G H' (putAt d π e') κ v (A1 ++ B' ++ A2)
  | [], d, e, κ, k, v, A, hg, hk, h => by
    cases hg
    cases hk
    exact ⟨v, [], A, [], rfl, by simp, h, fun H' e' B' _ ho => by simpa [putAt] using ho⟩
  | .ix n :: π, .lst ds, e, κ, k, v, A, hg, hk, h => by
    simp only [getP] at hg
    simp only [kdP] at hk
    cases h1 : ds[n]? with
    | none => rw [h1] at hg; cases hg
    | some d1 =>
      cases h2 : kids κ with
      | none => rw [h2] at hk; cases hk
      | some k1 =>
        rw [h1] at hg
        rw [h2] at hk
        obtain ⟨a, xs, B, rfl, ha, rfl, ho⟩ := h.list h2
        obtain ⟨x, A1, B1, A2, q1, q2, q3, q4⟩ := Owns.at_ix h1 ho
        obtain ⟨u, C1, B2, C2, r1, r2, r3, r4⟩ := Own.path (π := π) hg hk q3
        refine ⟨u, a :: A1 ++ C1, B2, C2 ++ A2, by simp only [walkV, ha]; rw [q1]; exact r1, by rw [q2, r2]; simp, r3, fun H' e' B' hkp hoo => ?_⟩
        have := q4 H' (putAt d1 π e') (C1 ++ B' ++ C2) (fun b hb => hkp b (by simp at hb ⊢; grind)) (r4 H' e' B' (fun b hb => hkp b (by simp at hb ⊢; grind)) hoo)
        have ha' : H' a = some (.lst xs) := hkp a (by simp) _ ha fun ps z => by cases z
        simp only [putAt, h1, Option.getD_some]
        exact .inr (.inr ⟨k1, a, xs, A1 ++ (C1 ++ B' ++ C2) ++ A2, h2, rfl, ha', by simp, this⟩)
  | .ix n :: π, .tup ds, e, κ, k, v, A, hg, hk, h => by
    simp only [getP] at hg
    simp only [kdP] at hk
    cases h1 : ds[n]? with
    | none => rw [h1] at hg; cases hg
    | some d1 =>
      cases h2 : kids κ with
      | none => rw [h2] at hk; cases hk
      | some k1 =>
        rw [h1] at hg
        rw [h2] at hk
        obtain ⟨a, xs, B, rfl, ha, rfl, ho⟩ := h.tupl h2
        obtain ⟨x, A1, B1, A2, q1, q2, q3, q4⟩ := Owns.at_ix h1 ho
        obtain ⟨u, C1, B2, C2, r1, r2, r3, r4⟩ := Own.path (π := π) hg hk q3
        refine ⟨u, a :: A1 ++ C1, B2, C2 ++ A2, by simp only [walkV, ha]; rw [q1]; exact r1, by rw [q2, r2]; simp, r3, fun H' e' B' hkp hoo => ?_⟩
        have := q4 H' (putAt d1 π e') (C1 ++ B' ++ C2) (fun b hb => hkp b (by simp at hb ⊢; grind)) (r4 H' e' B' (fun b hb => hkp b (by simp at hb ⊢; grind)) hoo)
        have ha' : H' a = some (.tup xs) := hkp a (by simp) _ ha fun ps z => by cases z
        simp only [putAt, h1, Option.getD_some]
        exact .inr (.inr ⟨k1, a, xs, A1 ++ (C1 ++ B' ++ C2) ++ A2, h2, rfl, ha', by simp, this⟩)
  | .fd f j :: π, .obj c ks ds, e, κ, k, v, A, hg, hk, h => by
    cases κ with
    | fld qs =>
      simp only [kdP] at hk
      simp only [getP, Option.ite_none_right_eq_some] at hg
      obtain ⟨⟨hf, hn⟩, hg⟩ := hg
      cases h1 : ds[j]? with
      | none => rw [h1] at hg; cases hg
      | some d1 =>
        rw [h1] at hg
        obtain ⟨a, C, dx, xs, B, rfl, hC, ha, rfl, hl, ho⟩ := h.objt
        obtain ⟨x, A1, B1, A2, q1, q2, q3, q4⟩ := OwnF.at_ix h1 ho
        obtain ⟨u, C1, B2, C2, r1, r2, r3, r4⟩ := Own.path (π := π) hg hk q3
        refine ⟨u, a :: A1 ++ C1, B2, C2 ++ A2, by simp only [walkV, ha]; rw [lookup_zip hf hn q1]; exact r1, by rw [q2, r2]; simp, r3, fun H' e' B' hkp hoo => ?_⟩
        have := q4 H' (putAt d1 π e') (C1 ++ B' ++ C2) (fun b hb => hkp b (by simp at hb ⊢; grind)) (r4 H' e' B' (fun b hb => hkp b (by simp at hb ⊢; grind)) hoo)
        have ha' : H' a = some (.ins C dx (ks.zip xs)) := hkp a (by simp) _ ha fun ps z => by cases z
        simp only [putAt, h1, Option.getD_some]
        exact .inr ⟨qs, a, C, dx, xs, A1 ++ (C1 ++ B' ++ C2) ++ A2, rfl, rfl, hC, ha', by simp, by rw [List.length_set]; exact hl, this⟩
    | _ => simp [kdP] at hk
  | .ix n :: π, .obj c ks ds, e, κ, k, v, A, hg, hk, h => by simp [getP] at hg
  | .ix n :: π, .non, e, κ, k, v, A, hg, hk, h => by simp [getP] at hg
  | .ix n :: π, .bl _, e, κ, k, v, A, hg, hk, h => by simp [getP] at hg
  | .ix n :: π, .int _, e, κ, k, v, A, hg, hk, h => by simp [getP] at hg
  | .ix n :: π, .str _, e, κ, k, v, A, hg, hk, h => by simp [getP] at hg
  | .ix n :: π, .dct, e, κ, k, v, A, hg, hk, h => by simp [getP] at hg
  | .ix n :: π, .scr _, e, κ, k, v, A, hg, hk, h => by simp [getP] at hg
  | .fd f j :: π, .lst ds, e, κ, k, v, A, hg, hk, h => by simp [getP] at hg
  | .fd f j :: π, .tup ds, e, κ, k, v, A, hg, hk, h => by simp [getP] at hg
  | .fd f j :: π, .non, e, κ, k, v, A, hg, hk, h => by simp [getP] at hg
  | .fd f j :: π, .bl _, e, κ, k, v, A, hg, hk, h => by simp [getP] at hg
  | .fd f j :: π, .int _, e, κ, k, v, A, hg, hk, h => by simp [getP] at hg
  | .fd f j :: π, .str _, e, κ, k, v, A, hg, hk, h => by simp [getP] at hg
  | .fd f j :: π, .dct, e, κ, k, v, A, hg, hk, h => by simp [getP] at hg
  | .fd f j :: π, .scr _, e, κ, k, v, A, hg, hk, h => by simp [getP] at hg
end DN

set_option Elab.async false
set_option linter.all false
set_option maxRecDepth 100000
set_option maxHeartbeats 2000000
/-! Statements over plain data; lists that a def owns may grow. -/
namespace DN
open PySem PySem.Spec PyProof.Rows L2 GxR GX
/-! ### owned slots: each with whether all of its lists are owned -/
abbrev Ow := List (Nat × Kd)
def ks (O : Ow) : List Nat := O.map (·.1)
def rm (i : Nat) : Ow → Ow
  | [] => []
  | p :: r => bif Nat.beq i p.1 then rm i r else p :: rm i r
theorem mem_rm {i : Nat} {p : Nat × Kd} : ∀ {O : Ow}, p ∈ rm i O ↔ p ∈ O ∧ i ≠ p.1
  | [] => by simp [rm]
  | q :: r => by
    unfold rm
    by_cases h : i = q.1
    · rw [h, show Nat.beq q.1 q.1 = true from Nat.beq_refl _, cond_true, ← h, mem_rm (O := r), List.mem_cons]
      constructor
      · exact fun ⟨a, b⟩ => ⟨.inr a, b⟩
      · exact fun ⟨a, b⟩ => ⟨a.resolve_left fun z => b (by rw [z]; exact h), b⟩
    · have hb : Nat.beq i q.1 = false := by
        cases e : Nat.beq i q.1 with
        | false => rfl
        | true => exact absurd (Nat.eq_of_beq_eq_true e) h
      rw [hb, cond_false, List.mem_cons, List.mem_cons, mem_rm (O := r)]
      constructor
      · rintro (z | ⟨a, b⟩)
        · exact ⟨.inl z, fun y => h (by rw [y, z])⟩
        · exact ⟨.inr a, b⟩
      · rintro ⟨z | a, b⟩
        · exact .inl z
        · exact .inr ⟨a, b⟩
theorem mem_ks {i : Nat} {b : Kd} {O : Ow} (h : (i, b) ∈ O) : i ∈ ks O := List.mem_map.mpr ⟨_, h, rfl⟩
theorem of_ks {i : Nat} {O : Ow} (h : i ∈ ks O) : ∃ b, (i, b) ∈ O := by
  obtain ⟨⟨j, b⟩, h1, rfl⟩ := List.mem_map.mp h
  exact ⟨b, h1⟩
structure RepO (K : PySem.W.Frag) (H0 G H : Hp) (O : Ow) (σ : L2.St) (ρ : Env) : Prop where
  len : σ.length = ρ.length
  pl : ∀ (i : Nat) (d : D), i ∉ ks O → ρ[i]? = some (some d) → ∃ v, σ[i]? = some (some v) ∧ At K G d v
  ow : ∃ ft : Nat → List Addr, (∀ p ∈ O, ∀ d, ρ[p.1]? = some (some d) → ∃ v, σ[p.1]? = some (some v) ∧ Own K G H d p.2 v (ft p.1)) ∧ (∀ p ∈ O, Fresh H0 G (ft p.1) ∧ ∀ a ∈ ft p.1, ∃ o, H a = some o ∧ ∀ ps, o ≠ .tbl ps) ∧ ∀ p ∈ O, ∀ q ∈ O, p.1 ≠ q.1 → ∀ a ∈ ft p.1, a ∉ ft q.1
theorem wipeD_at (ρ : Env) : ∀ (vs : List Nat) (j : Nat), (wipeD ρ vs)[j]? = if j ∈ vs then (ρ[j]?).map fun _ => none else ρ[j]?
  | [], j => by simp [wipeD]
  | v :: vs, j => by
    show ((wipeD ρ vs).set v none)[j]? = _
    have hl : ∀ us : List Nat, (wipeD ρ us).length = ρ.length := fun us => by
      induction us with
      | nil => rfl
      | cons u us ih => show ((wipeD ρ us).set u none).length = _; rw [List.length_set, ih]
    by_cases h : v = j
    · subst h
      rw [if_pos List.mem_cons_self, List.getElem?_set]
      rw [if_pos rfl]
      by_cases hv : v < ρ.length
      · rw [if_pos (by rw [hl]; exact hv), List.getElem?_eq_getElem hv]; rfl
      · rw [if_neg (by rw [hl]; exact hv), List.getElem?_eq_none (Nat.le_of_not_lt hv)]; rfl
    · rw [List.getElem?_set_ne h, wipeD_at ρ vs j]
      have e : (j ∈ v :: vs) = (j ∈ vs) := by
        apply propext
        constructor
        · intro hm
          rcases List.mem_cons.mp hm with z | z
          · exact absurd z.symm h
          · exact z
        · exact List.mem_cons_of_mem _
      simp only [e]
theorem wipeD_len (ρ : Env) : ∀ us : List Nat, (wipeD ρ us).length = ρ.length
  | [] => rfl
  | u :: us => by show ((wipeD ρ us).set u none).length = _; rw [List.length_set, wipeD_len ρ us]
section
variable {K : PySem.W.Frag} {L : List Addr} {H0 G0 G H G1 H1 : Hp} {O : Ow} {σ : L2.St} {ρ : Env}
theorem RepO.gr (R : RepO K H0 G H O σ ρ) (g : Gr L G H G1 H1) : RepO K H0 G1 H1 O σ ρ := by
  obtain ⟨ft, h1, h2, h3⟩ := R.ow
  refine ⟨R.len, fun i d hi e => let ⟨v, k1, k2⟩ := R.pl i d hi e; ⟨v, k1, k2.mono g.up⟩, ft, fun p hp d e => ?_, fun p hp => ?_, h3⟩
  · obtain ⟨v, k1, k2⟩ := h1 p hp d e
    exact ⟨v, k1, Own.keep g.up (fun a ha o e1 n => g.ext.keep a o e1 n) k2⟩
  · obtain ⟨f, s⟩ := h2 p hp
    refine ⟨⟨f.nd, fun a ha => ?_, f.nw⟩, fun a ha => ?_⟩
    · obtain ⟨o, ho, _⟩ := s a ha
      cases z : G1 a with
      | none => rfl
      | some u =>
        rcases g.new a (by rw [z]; simp) with y | y
        · exact absurd (f.out a ha) y
        · rw [ho] at y; cases y
    · obtain ⟨o, ho, n⟩ := s a ha
      exact ⟨o, g.ext.keep a o ho n, n⟩
theorem RepO.plain (R : RepO K H0 G H O σ ρ) : Rep K G σ (wipeD ρ (ks O)) := ⟨by rw [wipeD_len]; exact R.len, fun i d e => by
  rw [wipeD_at] at e
  by_cases hi : i ∈ ks O
  · rw [if_pos hi] at e
    cases z : ρ[i]? with
    | none => rw [z] at e; cases e
    | some o => rw [z] at e; cases e
  · rw [if_neg hi] at e
    exact R.pl i d hi e⟩
theorem RepO.of (R : Rep K G σ ρ) : RepO K H0 G H [] σ ρ := ⟨R.1, fun i d _ e => R.2 i d e, ⟨fun _ => [], ⟨fun p h => (List.not_mem_nil h).elim, fun p h => (List.not_mem_nil h).elim, fun p h => (List.not_mem_nil h).elim⟩⟩⟩
theorem RepO.nil (R : RepO K H0 G H [] σ ρ) : Rep K G σ ρ := ⟨R.len, fun i d e => R.pl i d (by simp [ks]) e⟩
open Classical in
noncomputable def seen (G H : Hp) (A : Addr → Prop) : Hp := fun a => if A a then H a else G a
/-- owned lists shown -/
theorem RepO.frz (R : RepO K H0 G H O σ ρ) (g : Gr L G0 H0 G H) (O2 : Ow) (hsub : ∀ p ∈ O2, p ∈ O) : ∃ Gv, Gr L G0 H0 Gv H ∧ RepO K H0 Gv H O2 σ ρ ∧ ∀ a o, G a = some o → Gv a = some o := by
  obtain ⟨ft, h1, h2, h3⟩ := R.ow
  let A : Addr → Prop := fun a => ∃ p ∈ O, p.1 ∉ ks O2 ∧ a ∈ ft p.1
  have hA : ∀ a, A a → G a = none ∧ H0 a = none ∧ ∃ o, H a = some o ∧ ∀ ps, o ≠ .tbl ps := fun a ⟨p, hp, _, ha⟩ => ⟨(h2 p hp).1.out a ha, (h2 p hp).1.nw a ha, (h2 p hp).2 a ha⟩
  have up : ∀ a o, G a = some o → seen G H A a = some o := fun a o e => by
    unfold seen
    by_cases h : A a
    · rw [(hA a h).1] at e; cases e
    · rw [if_neg h]; exact e
  refine ⟨seen G H A, ⟨fun a o e => ?_, fun a o e => up a o (g.up a o e), g.ext, fun a e => ?_⟩, ⟨R.len, fun i d hi e => ?_, ft, fun p hp d e => ?_, fun p hp => ?_, fun p hp q hq => h3 p (hsub p hp) q (hsub q hq)⟩, up⟩
  · unfold seen at e
    by_cases h : A a
    · rw [if_pos h] at e
      obtain ⟨_, _, o', hx, n⟩ := hA a h
      rw [hx] at e
      cases e
      exact ⟨hx, n⟩
    · rw [if_neg h] at e
      exact g.sub a o e
  · unfold seen at e
    by_cases h : A a
    · exact .inr (hA a h).2.1
    · rw [if_neg h] at e
      exact g.new a e
  · by_cases hO : i ∈ ks O
    · obtain ⟨b, hb⟩ := of_ks hO
      obtain ⟨v, k1, k2⟩ := h1 (i, b) hb d e
      refine ⟨v, k1, Own.at up (fun a ha => ?_) k2⟩
      unfold seen
      rw [if_pos (show A a from ⟨(i, b), hb, hi, ha⟩)]
    · obtain ⟨v, k1, k2⟩ := R.pl i d hO e
      exact ⟨v, k1, k2.mono up⟩
  · obtain ⟨v, k1, k2⟩ := h1 p (hsub p hp) d e
    exact ⟨v, k1, Own.keep up (fun a _ o e1 _ => e1) k2⟩
  · obtain ⟨f, s⟩ := h2 p (hsub p hp)
    refine ⟨⟨f.nd, fun a ha => ?_, f.nw⟩, s⟩
    unfold seen
    by_cases h : A a
    · obtain ⟨q, hq, hq2, ha2⟩ := h
      have hne : p.1 ≠ q.1 := fun z => hq2 (by rw [← z]; exact List.mem_map.mpr ⟨p, hp, rfl⟩)
      exact absurd ha2 (h3 p (hsub p hp) q hq hne a ha)
    · rw [if_neg h]; exact f.out a ha
theorem RepO.view (R : RepO K H0 G H O σ ρ) (g : Gr L G0 H0 G H) : ∃ Gv, Gr L G0 H0 Gv H ∧ Rep K Gv σ ρ ∧ ∀ a o, G a = some o → Gv a = some o := by
  obtain ⟨Gv, h1, h2, h3⟩ := R.frz g [] (fun i h => by simp at h)
  exact ⟨Gv, h1, h2.nil, h3⟩
theorem getset {α : Type} {l : List α} {i j : Nat} {x y : α} (h : (l.set i x)[j]? = some y) : (i = j ∧ x = y ∧ i < l.length) ∨ (i ≠ j ∧ l[j]? = some y) := by
  by_cases hij : i = j
  · subst hij
    by_cases hl : i < l.length
    · rw [List.getElem?_set_self hl] at h
      exact .inl ⟨rfl, Option.some.inj h, hl⟩
    · rw [List.getElem?_eq_none (by simpa using Nat.le_of_not_lt hl)] at h
      cases h
  · rw [List.getElem?_set_ne hij] at h
    exact .inr ⟨hij, h⟩
theorem RepO.setP {d : D} {v : V} {i : Nat} (R : RepO K H0 G H O σ ρ) (a : At K G d v) : RepO K H0 G H (rm i O) (σ.set i (some v)) (ρ.set i (some d)) := by
  obtain ⟨ft, h1, h2, h3⟩ := R.ow
  refine ⟨by rw [List.length_set, List.length_set]; exact R.len, fun j e hj h => ?_, ft, fun p hp e h => ?_, fun p hp => h2 p (mem_rm.mp hp).1, fun p hp q hq => h3 p (mem_rm.mp hp).1 q (mem_rm.mp hq).1⟩
  · rcases getset h with ⟨rfl, e1, hl⟩ | ⟨hij, h⟩
    · cases e1
      exact ⟨v, List.getElem?_set_self (by rw [R.len]; exact hl), a⟩
    · rw [List.getElem?_set_ne hij]
      refine R.pl j e (fun z => hj ?_) h
      obtain ⟨b, hb⟩ := of_ks z
      exact mem_ks (mem_rm.mpr ⟨hb, hij⟩)
  · obtain ⟨k1, hij⟩ := mem_rm.mp hp
    rw [List.getElem?_set_ne hij] at h ⊢
    exact h1 p k1 e h
/-- the slots of O out of ρ, the others out of ρ1 -/
def mrg : List Nat → Env → Env → Env
  | [], _, ρ1 => ρ1
  | i :: O, ρ, ρ1 => (mrg O ρ ρ1).set i (ρ[i]?).join
theorem mrg_len (ρ ρ1 : Env) : ∀ O, (mrg O ρ ρ1).length = ρ1.length
  | [] => rfl
  | i :: O => by show ((mrg O ρ ρ1).set i _).length = _; rw [List.length_set, mrg_len ρ ρ1 O]
theorem mrg_out {ρ ρ1 : Env} {j : Nat} : ∀ {O}, j ∉ O → (mrg O ρ ρ1)[j]? = ρ1[j]?
  | [], _ => rfl
  | i :: O, h => by
    show ((mrg O ρ ρ1).set i _)[j]? = _
    rw [List.getElem?_set_ne fun z => h (by rw [z]; exact List.mem_cons_self)]
    exact mrg_out fun z => h (List.mem_cons_of_mem _ z)
theorem mrg_in {ρ ρ1 : Env} {j : Nat} {d : D} : ∀ {O}, j ∈ O → (mrg O ρ ρ1)[j]? = some (some d) → ρ[j]? = some (some d)
  | [], h, _ => by simp at h
  | i :: O, h, e => by
    have e : ((mrg O ρ ρ1).set i (ρ[i]?).join)[j]? = some (some d) := e
    rcases getset e with ⟨rfl, e1, _⟩ | ⟨hij, e⟩
    · cases z : ρ[i]? with
      | none => rw [z] at e1; cases e1
      | some o => rw [z] at e1; exact congrArg some e1
    · rcases List.mem_cons.mp h with z | z
      · exact absurd z.symm hij
      · exact mrg_in z e
theorem RepO.bind {vs : List Nat} {σ1 : L2.St} {ρ1 : Env} (R : RepO K H0 G H O σ ρ) (hv : ∀ i ∈ ks O, i ∉ vs) (R1 : Rep K G σ1 ρ1) (hw : wipe σ1 vs = wipe σ vs) : RepO K H0 G H O σ1 (mrg (ks O) ρ ρ1) := by
  obtain ⟨ft, h1, h2, h3⟩ := R.ow
  have same : ∀ j, j ∉ vs → σ1[j]? = σ[j]? := fun j hj => by
    have e : (wipe σ1 vs)[j]? = (wipe σ vs)[j]? := congrArg (fun l : L2.St => l[j]?) hw
    rw [wipe_at, wipe_at, if_neg hj, if_neg hj] at e
    exact e
  refine ⟨by rw [mrg_len]; exact R1.1, fun j d hj e => ?_, ft, fun p hp d e => ?_, h2, h3⟩
  · rw [mrg_out hj] at e
    exact R1.2 j d e
  · have hm : p.1 ∈ ks O := List.mem_map.mpr ⟨p, hp, rfl⟩
    obtain ⟨v, k1, k2⟩ := h1 p hp d (mrg_in hm e)
    exact ⟨v, by rw [same p.1 (hv p.1 hm)]; exact k1, k2⟩
theorem Gr.base {G' H' : Hp} (g : Gr L G0 H0 G1 H1) (g' : Gr L G1 H0 G' H') : Gr L G0 H0 G' H' := ⟨g'.sub, fun a o e => g'.up a o (g.up a o e), g'.ext, fun a e => (g'.new a e).elim (fun z => g.new a z) .inr⟩
theorem Gr.self (g : Gr L G0 H0 G1 H1) : Gr L G1 H0 G1 H1 := ⟨g.sub, fun _ _ e => e, g.ext, fun _ e => .inl e⟩
/-- what is at an owned slot -/
theorem RepO.get {i : Nat} {b : Kd} {d : D} (R : RepO K H0 G H O σ ρ) (hi : (i, b) ∈ O) (e : ρ[i]? = some (some d)) : ∃ v A, σ[i]? = some (some v) ∧ Own K G H d b v A ∧ Fresh H0 G A := by
  obtain ⟨ft, h1, h2, _⟩ := R.ow
  obtain ⟨v, k1, k2⟩ := h1 (i, b) hi d e
  exact ⟨v, _, k1, k2, (h2 (i, b) hi).1⟩
theorem ow_uniq : ∀ {O : Ow}, (ks O).Nodup → ∀ {p q : Nat × Kd}, p ∈ O → q ∈ O → p.1 = q.1 → p = q
  | r :: O, nd, p, q, hp, hq, hpq => by
    have nd' := List.nodup_cons.mp nd
    rcases List.mem_cons.mp hp with rfl | hp'
    · rcases List.mem_cons.mp hq with rfl | hq
      · rfl
      · exact absurd (show p.1 ∈ ks O from by rw [hpq]; exact List.mem_map.mpr ⟨q, hq, rfl⟩) nd'.1
    · rcases List.mem_cons.mp hq with rfl | hq
      · exact absurd (show q.1 ∈ ks O from by rw [← hpq]; exact List.mem_map.mpr ⟨p, hp', rfl⟩) nd'.1
      · exact ow_uniq nd'.2 hp' hq hpq
/-- the object at a, within an owned slot, is another one -/
theorem RepO.put {i : Nat} {b b' : Kd} {a : Addr} {d' : D} {v : V} {A' : List Addr} {O2 : Ow} {o : HO} {ft : Nat → List Addr} (R : RepO K H0 G H O σ ρ) (hO : (ks O).Nodup) (hi : (i, b) ∈ O) (ha : σ[i]? = some (some v)) (hl : i < ρ.length)
    (h1 : ∀ p ∈ O, ∀ d, ρ[p.1]? = some (some d) → ∃ v, σ[p.1]? = some (some v) ∧ Own K G H d p.2 v (ft p.1)) (h2 : ∀ p ∈ O, Fresh H0 G (ft p.1) ∧ ∀ a ∈ ft p.1, ∃ o, H a = some o ∧ ∀ ps, o ≠ .tbl ps) (h3 : ∀ p ∈ O, ∀ q ∈ O, p.1 ≠ q.1 → ∀ a ∈ ft p.1, a ∉ ft q.1)
    (hA : ∀ x ∈ A', x ∈ ft i) (nd : A'.Nodup) (hm : a ∈ ft i) (ho : ∀ ps, o ≠ .tbl ps) (own : Own K G (upd H a o) d' b' v A') (hO2 : ∀ p ∈ O2, p = (i, b') ∨ (p ∈ O ∧ p.1 ≠ i)) (hks : ∀ j, j ∈ ks O → j ∈ ks O2) : RepO K H0 G (upd H a o) O2 σ (ρ.set i (some d')) := by
  have hH : ∀ x, x ≠ a → upd H a o x = H x := fun x hx => upd_ne hx
  have far : ∀ p ∈ O, p.1 ≠ i → ∀ x ∈ ft p.1, x ≠ a := fun p hp hne x hx z => h3 p hp (i, b) hi hne x hx (by rw [z]; exact hm)
  refine ⟨by rw [List.length_set]; exact R.len, fun j d'' hj h => ?_, fun j => if j = i then A' else ft j, fun p hp d'' h => ?_, fun p hp => ?_, fun p hp q hq hpq x hx => ?_⟩
  · have hij : i ≠ j := fun z => hj (hks j (by rw [← z]; exact mem_ks hi))
    rw [List.getElem?_set_ne hij] at h
    exact R.pl j d'' (fun z => hj (hks j z)) h
  · rcases hO2 p hp with rfl | ⟨hp, hne⟩
    · rw [List.getElem?_set_self hl] at h
      cases h
      exact ⟨v, ha, by simpa using own⟩
    · rw [List.getElem?_set_ne (Ne.symm hne)] at h
      obtain ⟨u, q1, q2⟩ := h1 p hp d'' h
      refine ⟨u, q1, ?_⟩
      simp only [if_neg hne]
      exact Own.keep (fun _ _ z => z) (fun x hx o' ho' _ => by rw [hH x (far p hp hne x hx)]; exact ho') q2
  · rcases hO2 p hp with rfl | ⟨hp, hne⟩
    · simp only [if_true]
      exact ⟨⟨nd, fun x hx => (h2 _ hi).1.out x (hA x hx), fun x hx => (h2 _ hi).1.nw x (hA x hx)⟩, fun x hx => Own.sm own x hx⟩
    · simp only [if_neg hne]
      exact ⟨(h2 p hp).1, fun x hx => by rw [hH x (far p hp hne x hx)]; exact (h2 p hp).2 x hx⟩
  · rcases hO2 p hp with rfl | ⟨hp, hne⟩
    · rcases hO2 q hq with rfl | ⟨hq, hne2⟩
      · exact absurd rfl hpq
      · simp only [if_true] at hx
        simp only [if_neg hne2]
        exact h3 _ hi q hq (Ne.symm hne2) x (hA x hx)
    · rcases hO2 q hq with rfl | ⟨hq, hne2⟩
      · simp only [if_neg hne] at hx
        simp only [if_true]
        exact fun z => h3 p hp _ hi hne x hx (hA x z)
      · simp only [if_neg hne] at hx
        simp only [if_neg hne2]
        exact h3 p hp q hq hpq x hx
/-- a list within an owned slot is another one: its items stay with what they own, the new ones own nothing -/
theorem RepO.putP {i : Nat} {b k k0 : Kd} {π : List Stp} {d : D} {ds : List D} (R : RepO K H0 G H O σ ρ) (hO : (ks O).Nodup) (hi : (i, b) ∈ O) (e : ρ[i]? = some (some d)) (hg : getP d π = some (.lst ds)) (hk : kdP b π = some k0) (h0 : kids k0 = some k) :
    ∃ v a xs, σ[i]? = some (some v) ∧ walkV H v π = some (.ref a) ∧ H a = some (.lst xs) ∧ xs.length = ds.length ∧ G a = none ∧ H0 a = none ∧ (k = .pl → Ats K G ds xs) ∧ (∃ o, H a = some o) ∧
      ∀ (ds' : List D) (xs' : List V), (∀ (B : List Addr) (H' : Hp), Owns K G H ds k xs B → (∀ b ∈ B, ∀ o, H b = some o → (∀ ps, o ≠ .tbl ps) → H' b = some o) → ∃ B', B'.Sublist B ∧ Owns K G H' ds' k xs' B') → RepO K H0 G (upd H a (.lst xs')) O σ (ρ.set i (some (putAt d π (.lst ds')))) := by
  obtain ⟨ft, h1, h2, h3⟩ := R.ow
  obtain ⟨v, q1, q2⟩ := h1 (i, b) hi d e
  obtain ⟨u, A1, B, A2, r1, r2, r3, r4⟩ := Own.path hg hk q2
  obtain ⟨a, xs, C, rfl, s1, s2, s3⟩ := r3.list h0
  subst s2
  have hl : i < ρ.length := (List.getElem?_eq_some_iff.mp e).1
  have r2' : ft i = A1 ++ a :: C ++ A2 := r2
  have hm : a ∈ ft i := by rw [r2']; simp
  have nd : (A1 ++ a :: C ++ A2).Nodup := by rw [← r2']; exact (h2 _ hi).1.nd
  refine ⟨v, a, xs, q1, r1, s1, s3.length, (h2 _ hi).1.out a hm, (h2 _ hi).1.nw a hm, fun z => by subst z; exact s3.plain.2, ⟨_, s1⟩, fun ds' xs' hs => ?_⟩
  have nC : a ∉ C := fun z => by
    rw [List.append_assoc, List.nodup_append] at nd
    have n2 := nd.2.1
    rw [List.cons_append] at n2
    exact (List.nodup_cons.mp n2).1 (List.mem_append_left _ z)
  have n12 : ∀ x ∈ A1 ++ A2, x ≠ a := fun x hx z => by
    subst z
    rw [List.append_assoc, List.nodup_append] at nd
    obtain ⟨_, n2, n3⟩ := nd
    rcases List.mem_append.mp hx with hx | hx
    · exact n3 x hx x (by simp) rfl
    · rw [List.cons_append] at n2
      exact (List.nodup_cons.mp n2).1 (List.mem_append_right _ hx)
  obtain ⟨C', c1, c2⟩ := hs C (upd H a (.lst xs')) s3 fun b hb o ho _ => by rw [upd_ne fun z => nC (by rw [← z]; exact hb)]; exact ho
  have own := r4 (upd H a (.lst xs')) (.lst ds') (a :: C') (fun b hb o ho _ => by rw [upd_ne (n12 b hb)]; exact ho) (by
    cases k0 with
    | all => exact .inr (.inr ⟨k, a, xs', C', h0, rfl, upd_same, rfl, c2⟩)
    | own k' => exact .inr (.inr ⟨k, a, xs', C', h0, rfl, upd_same, rfl, c2⟩)
    | _ => cases h0)
  have sub : (A1 ++ a :: C' ++ A2).Sublist (A1 ++ a :: C ++ A2) := ((List.Sublist.refl A1).append (c1.cons_cons a)).append (List.Sublist.refl A2)
  refine R.put hO hi q1 hl h1 h2 h3 (A' := A1 ++ a :: C' ++ A2) (fun x hx => by rw [r2']; exact sub.subset hx) (nd.sublist sub) hm (fun ps z => by cases z) own (fun p hp => ?_) (fun j hj => hj)
  by_cases hpi : p.1 = i
  · exact .inl (ow_uniq hO hp hi hpi)
  · exact .inr ⟨hp, hpi⟩
theorem Gr.put {a : Addr} {o' : HO} (g : Gr L G0 H0 G H) (h4 : G a = none) (h5 : H0 a = none) : Gr L G0 H0 G (upd H a o') :=
  ⟨fun b o e => ⟨by rw [upd_ne fun z => by rw [z, h4] at e; cases e]; exact (g.sub b o e).1, (g.sub b o e).2⟩, g.up, g.ext.mut h5, g.new⟩
end

/-! ### statements -/
/-- how a statement ends -/
inductive Out where
  | nx (ρ : Env) | rt (d : D) | bk (ρ : Env) | ct (ρ : Env)
  /-- an own error of that name -/
  | ex (n : Str)
abbrev SM := Env → Option Out
/-- what is wanted of an own error, by its name -/
abbrev WN := Str → L2.St → Hp → Prop
def W0 : WN := fun _ _ _ => False
/-- the names' values are ρ, the lists of O owned -/
def StO (K : PySem.W.Frag) (L : List Addr) (G0 H0 : Hp) (O : Ow) (σ : L2.St) (H : Hp) (ρ : Env) : Prop := ∃ G, Gr L G0 H0 G H ∧ RepO K H0 G H O σ ρ
theorem StO.frz {K : PySem.W.Frag} {L : List Addr} {G0 H0 : Hp} {O O2 : Ow} {σ : L2.St} {H : Hp} {ρ : Env} (h : StO K L G0 H0 O σ H ρ) (hs : ∀ i ∈ O2, i ∈ O) : StO K L G0 H0 O2 σ H ρ := by
  obtain ⟨G, g, R⟩ := h
  obtain ⟨Gv, h1, h2, _⟩ := R.frz g O2 hs
  exact ⟨Gv, h1, h2⟩
theorem StO.base {K : PySem.W.Frag} {L : List Addr} {G0 H0 G1 H1 : Hp} {O : Ow} {σ : L2.St} {H : Hp} {ρ : Env} (g : Gr L G0 H0 G1 H1) (h : StO K L G1 H0 O σ H ρ) : StO K L G0 H0 O σ H ρ := let ⟨G, g', R⟩ := h; ⟨G, g.base g', R⟩
def post (K : PySem.W.Frag) (L : List Addr) (nw : Bool) (G0 H0 : Hp) (W : WN) (Ol O' : Ow) (Dn : Ends) : Out → Prop
  | .nx ρ => ∀ σ' H', StO K L G0 H0 O' σ' H' ρ → Dn.nx σ' H'
  | .rt d => if nw = true then ∀ v G' H' A, Gr L G0 H0 G' H' → Own K G' H' d .all v A → Fresh H0 G' A → Dn.rt v H' else ∀ v G' H', Gr L G0 H0 G' H' → At K G' d v → Dn.rt v H'
  | .bk ρ => ∀ σ' H', StO K L G0 H0 Ol σ' H' ρ → Dn.bk σ' H'
  | .ct ρ => ∀ σ' H', StO K L G0 H0 Ol σ' H' ρ → Dn.ct σ' H'
  | .ex n => ∀ σ' G' H', Gr L G0 H0 G' H' → W n σ' H'
def tS (K : PySem.W.Frag) (L : List Addr) (nw : Bool) (W : WN) (Ol O O' : Ow) (m : SM) : TS := fun Dn σ H => ∃ G0 H0 ρ o, StO K L G0 H0 O σ H ρ ∧ Tabs L H0 ∧ m ρ = some o ∧ post K L nw G0 H0 W Ol O' Dn o
def PSO (X : Cx) (L : List Addr) (nw : Bool) (W : WN) (Ol O O' : Ow) (st : Stmt) (m : SM) : Prop := PS X st (tS X.K L nw W Ol O O' m)
def PSsO (X : Cx) (L : List Addr) (nw : Bool) (W : WN) (Ol O O' : Ow) (sts : List Stmt) (m : SM) : Prop := PSs X sts (tS X.K L nw W Ol O O' m)
def ev (vw : Bool) (O : List Nat) (m : DM) : DM := fun ρ => if vw = true then (m ρ).bind fun d => if Scal d = true then some d else none else m (wipeD ρ O)
def sNx : SM := fun ρ => some (.nx ρ)
def sSeq (a b : SM) : SM := fun ρ => (a ρ).bind fun | .nx ρ' => b ρ' | o => some o
def sSet (i : Nat) (m : DM) : SM := fun ρ => (m ρ).bind fun d => some (.nx (ρ.set i (some d)))
def sNew (i : Nat) (m : DM) : SM := fun ρ => (m ρ).bind fun d => if Flat d = true then some (.nx (ρ.set i (some d))) else none
def sLst (i : Nat) (O : List Nat) (m : Env → Option (List D)) : SM := fun ρ => (m (wipeD ρ O)).bind fun ds => some (.nx (ρ.set i (some (.lst ds))))
def sAsg (O : List Nat) (bd : D → Env → Option Env) (m : DM) : SM := fun ρ => (m (wipeD ρ O)).bind fun d => (bd d (wipeD ρ O)).bind fun ρ' => some (.nx (mrg O ρ ρ'))
def sRet (m : DM) : SM := fun ρ => (m ρ).bind fun d => some (.rt d)
def sRetF (m : DM) : SM := fun ρ => (m ρ).bind fun d => if Flat d = true then some (.rt d) else none
def sLstN (i : Nat) (m : DM) : SM := fun ρ => (m ρ).bind fun d => if Flat d = true then some (.nx (ρ.set i (some (.lst [d])))) else none
def sAppS (i : Nat) (m : DM) : SM := fun ρ => (m ρ).bind fun d => if Scal d = true then ((ρ[i]?).join).bind fun (d2 : D) => match d2 with | .lst ds => if ds.length < 1000000 then some (.nx (ρ.set i (some (.lst (ds ++ [d]))))) else none | _ => none else none
def sAppO (i j : Nat) : SM := fun ρ => ((ρ[j]?).join).bind fun d => ((ρ[i]?).join).bind fun (d2 : D) => match d2 with | .lst ds => if ds.length < 1000000 then some (.nx ((ρ.set j none).set i (some (.lst (ds ++ [d]))))) else none | _ => none
def sRetN : SM := fun _ => some (.rt .non)
def sIf (c : Env → Option Bool) (a b : SM) : SM := fun ρ => (c ρ).bind fun x => if x = true then a ρ else b ρ
def sDrop (m : DM) : SM := fun ρ => (m ρ).bind fun _ => some (.nx ρ)
def sBk : SM := fun ρ => some (.bk ρ)
def sCt : SM := fun ρ => some (.ct ρ)
def sEx (n : Str) : SM := fun _ => some (.ex n)
def sApp (i : Nat) (m : DM) : SM := fun ρ => (m ρ).bind fun d => ((ρ[i]?).join).bind fun (d2 : D) => match d2 with | .lst ds => if ds.length < 1000000 then some (.nx (ρ.set i (some (.lst (ds ++ [d]))))) else none | _ => none
def forGo (O : List Nat) (bd : D → Env → Option Env) (b : SM) : List D → Env → Option Out
  | [], ρ => some (.nx ρ)
  | d :: ds, ρ => (bd d (wipeD ρ O)).bind fun ρ1 => (b (mrg O ρ ρ1)).bind fun
    | .nx ρ2 => forGo O bd b ds ρ2
    | .ct ρ2 => forGo O bd b ds ρ2
    | .bk ρ2 => some (.nx ρ2)
    | o => some o
def sFor (O : List Nat) (mi : Env → Option (List D)) (bd : D → Env → Option Env) (b : SM) : SM := fun ρ => (mi (wipeD ρ O)).bind fun ds => forGo O bd b ds ρ
section
variable {X : Cx} {L : List Addr} {nw : Bool} {W : WN} {Ol O O' O1 O2 : Ow} {st : Stmt} {rest : List Stmt} {a b : SM} {pos : Pos} {e : Expr} {m : DM}
theorem sso_nil : PSsO X L nw W Ol O O [] sNx := PSs.imp pss_nil fun Dn σ H ⟨G0, H0, ρ, o, hs, ht, hm, q⟩ => by cases hm; exact q σ H hs
theorem sso_cons (h1 : PSO X L nw W Ol O O1 st a) (h2 : PSsO X L nw W Ol O1 O' rest b) : PSsO X L nw W Ol O O' (st :: rest) (sSeq a b) := PSs.imp (pss_cons h1 h2) fun Dn σ H ⟨G0, H0, ρ, o, hs, ht, hm, q⟩ => by
  unfold sSeq at hm
  cases k1 : a ρ with
  | none => rw [k1] at hm; cases hm
  | some o1 =>
    rw [k1] at hm
    refine ⟨G0, H0, ρ, o1, hs, ht, k1, ?_⟩
    cases o1 with
    | nx ρ' => exact fun σ' H' hs' => ⟨G0, H0, ρ', o, hs', ht, hm, q⟩
    | _ => cases hm; exact q
theorem sso_one (h1 : PSO X L nw W Ol O O' st a) : PSsO X L nw W Ol O O' [st] a := pss_one h1
/-- owned lists shown ahead -/
theorem sso_frz (h : PSsO X L nw W Ol O2 O' rest a) (hs : ∀ i ∈ O2, i ∈ O := by decide) : PSsO X L nw W Ol O O' rest a := PSs.imp h fun Dn σ H ⟨G0, H0, ρ, o, hh, ht, hm, q⟩ => ⟨G0, H0, ρ, o, hh.frz hs, ht, hm, q⟩
/-- owned lists shown behind -/
theorem sso_end (h : PSsO X L nw W Ol O O2 rest a) (hs : ∀ i ∈ O', i ∈ O2 := by decide) : PSsO X L nw W Ol O O' rest a := PSs.imp h fun Dn σ H ⟨G0, H0, ρ, o, hh, ht, hm, q⟩ => ⟨G0, H0, ρ, o, hh, ht, hm, by
  cases o with
  | nx ρ' => exact fun σ' H' h => q σ' H' (h.frz hs)
  | _ => exact q⟩
theorem so_pass : PSO X L nw W Ol O O (.Pass pos) sNx := PS.imp ps_pass fun Dn σ H ⟨G0, H0, ρ, o, hs, ht, hm, q⟩ => by cases hm; exact q σ H hs
theorem so_break (hs : ∀ i ∈ Ol, i ∈ O := by decide) : PSO X L nw W Ol O O' (.Break pos) sBk := PS.imp ps_break fun Dn σ H ⟨G0, H0, ρ, o, hh, ht, hm, q⟩ => by cases hm; exact q σ H (hh.frz hs)
theorem so_continue (hs : ∀ i ∈ Ol, i ∈ O := by decide) : PSO X L nw W Ol O O' (.Continue pos) sCt := PS.imp ps_continue fun Dn σ H ⟨G0, H0, ρ, o, hh, ht, hm, q⟩ => by cases hm; exact q σ H (hh.frz hs)
theorem so_doc {x : Str} {j : Nat} {pos' : Pos} : PSO X L nw W Ol O O (.Expr (.Constant (.str x) j pos) pos') sNx := PS.imp ps_doc fun Dn σ H ⟨G0, H0, ρ, o, hs, ht, hm, q⟩ => by cases hm; exact q σ H hs
def PDN (X : Cx) (L : List Addr) (e : Expr) (m : DM) : Prop := PE X e (tPN X.K L m)
theorem pdn_weak (h : PDN X L e m) : PD X L e m := PE.imp h fun σ H Q ⟨G, ρ, d, hs, hR, ht, hm, q⟩ => ⟨G, ρ, d, hs, hR, ht, hm, fun v G' H' g a _ => q v G' H' g a⟩
/-- the worth of e where lists are owned: e sees none of them, or all and tells no list -/
theorem evP {K : PySem.W.Frag} {G0 H0 G H : Hp} {σ : L2.St} {ρ : Env} {vw : Bool} {d : D} {Q : VK} (g : Gr L G0 H0 G H) (R : RepO K H0 G H O σ ρ) (ht : Tabs L H0) (hm : ev vw (ks O) m ρ = some d) (q : ∀ v G1 H1, Gr L G H G1 H1 → At K G1 d v → Q v H1) : tP K L m σ H Q := by
  unfold ev at hm
  cases vw with
  | false => exact ⟨G, wipeD ρ (ks O), d, g.sub, R.plain, ht.ext g.ext, hm, q⟩
  | true =>
    simp only [if_true] at hm
    cases k1 : m ρ with
    | none => rw [k1] at hm; cases hm
    | some d' =>
      simp only [k1, Option.bind_some, Option.ite_none_right_eq_some, Option.some.injEq] at hm
      obtain ⟨hsc, rfl⟩ := hm
      obtain ⟨Gv, gv, Rv, _⟩ := R.view g
      exact ⟨Gv, ρ, d', gv.sub, Rv, ht.ext g.ext, k1, fun v G1 H1 g1 a1 => q v G H1 (.of g.sub g1.ext) (scal_move hsc a1)⟩
theorem viewP {K : PySem.W.Frag} {G0 H0 G H : Hp} {σ : L2.St} {ρ : Env} {d : D} {Q : VK} (g : Gr L G0 H0 G H) (R : RepO K H0 G H O σ ρ) (ht : Tabs L H0) (hm : m ρ = some d) (q : ∀ v G1 H1, Gr L G0 H0 G1 H1 → Gr L G H G H1 → At K G1 d v → Q v H1) : tP K L m σ H Q := by
  obtain ⟨Gv, gv, Rv, _⟩ := R.view g
  exact ⟨Gv, ρ, d, gv.sub, Rv, ht.ext g.ext, hm, fun v G1 H1 g1 a1 => q v G1 H1 (gv.trans g1) (.of g.sub g1.ext) a1⟩
theorem viewT {K : PySem.W.Frag} {G0 H0 G H : Hp} {σ : L2.St} {ρ : Env} {c : Env → Option Bool} {k : Bool} {Q : Bool → Hp → Prop} (g : Gr L G0 H0 G H) (R : RepO K H0 G H O σ ρ) (ht : Tabs L H0) (hm : c ρ = some k) (q : ∀ H1, Gr L G H G H1 → Q k H1) : tPT K L c σ H Q := by
  obtain ⟨Gv, gv, Rv, _⟩ := R.view g
  exact ⟨Gv, ρ, k, gv.sub, Rv, ht.ext g.ext, hm, fun G1 H1 g1 => q H1 (.of g.sub g1.ext)⟩
theorem viewA {K : PySem.W.Frag} {G0 H0 G H : Hp} {σ : L2.St} {ρ : Env} {ml : Env → Option (List D)} {ds : List D} {Q : List V → Hp → Prop} (g : Gr L G0 H0 G H) (R : RepO K H0 G H O σ ρ) (ht : Tabs L H0) (hm : ml ρ = some ds) (q : ∀ vs G1 H1, Gr L G0 H0 G1 H1 → Gr L G H G H1 → Ats K G1 ds vs → Q vs H1) : tPA K L ml σ H Q := by
  obtain ⟨Gv, gv, Rv, _⟩ := R.view g
  exact ⟨Gv, ρ, ds, gv.sub, Rv, ht.ext g.ext, hm, fun v G1 H1 g1 a1 => q v G1 H1 (gv.trans g1) (.of g.sub g1.ext) a1⟩
/-- a new flat list is owned -/
theorem flat_own {K : PySem.W.Frag} {G H Gs Hs G1 H1 : Hp} {d : D} {v : V} (s0 : Sub Gs Hs) (s1 : Sub G1 H1) (a1 : At K G1 d v) (n1 : New Hs d v) (hf : Flat d = true) : ∃ A, Own K Gs H1 d .all v A ∧ (∀ x ∈ A, Hs x = none) ∧ A.Nodup := by
  by_cases hl : ∃ ds, d = .lst ds
  · obtain ⟨ds, rfl⟩ := hl
    obtain ⟨p, e2, e3⟩ := n1 ds rfl
    obtain ⟨p', xs, e4, e5, t⟩ := a1
    rw [e4] at e2
    cases e2
    refine ⟨[p], .inr (.inr ⟨.all, p, xs, [], rfl, e4, (s1 _ _ e5).1, rfl, Owns.move (G := G1) (owns_scal hf t)⟩), fun x hx => ?_, List.nodup_cons.mpr ⟨List.not_mem_nil, List.nodup_nil⟩⟩
    rw [List.mem_singleton.mp hx]; exact e3
  · have hsc : Scal d = true := by
      cases d with
      | lst ds => exact absurd ⟨ds, rfl⟩ hl
      | _ => exact hf
    exact ⟨[], own_scal hsc (scal_move hsc a1), fun x hx => (List.not_mem_nil hx).elim, List.nodup_nil⟩
theorem so_retNew (he : PDN X L e m) : PSO X L true W Ol O O' (.Return (some e) pos) (sRetF m) := PS.imp (ps_ret he) fun Dn σ H ⟨G0, H0, ρ, o, ⟨G, g, R⟩, ht, hm, q⟩ => by
  unfold sRetF at hm
  cases k1 : m ρ with
  | none => rw [k1] at hm; cases hm
  | some d =>
    simp only [k1, Option.bind_some, Option.ite_none_right_eq_some, Option.some.injEq] at hm
    obtain ⟨hfl, rfl⟩ := hm
    obtain ⟨Gv, gv, Rv, _⟩ := R.view g
    refine ⟨Gv, ρ, d, gv.sub, Rv, ht.ext g.ext, k1, fun v G1 H1 g1 a1 n => ?_⟩
    obtain ⟨A, o1, o3, o4⟩ := flat_own (G := G) (H := H) g.sub g1.sub a1 n hfl
    have q' : ∀ v G' H' A, Gr L G0 H0 G' H' → Own X.K G' H' d .all v A → Fresh H0 G' A → Dn.rt v H' := q
    exact q' v G H1 A (g.trans (.of g.sub g1.ext)) o1 ⟨o4, fun x hx => g.sub.none (o3 x hx), fun x hx => g.ext.dom x (o3 x hx)⟩
/-- e is worth m, all its lists new -/
def tPW (K : PySem.W.Frag) (L : List Addr) (m : DM) : TE := fun σ H Q => ∃ G ρ d, Sub G H ∧ Rep K G σ ρ ∧ Tabs L H ∧ m ρ = some d ∧ ∀ v G1 H1 A, Gr L G H G1 H1 → Own K G1 H1 d .all v A → Fresh H G1 A → Q v H1
def PDW (X : Cx) (L : List Addr) (e : Expr) (m : DM) : Prop := PE X e (tPW X.K L m)
theorem so_retW (he : PDW X L e m) : PSO X L true W Ol O O' (.Return (some e) pos) (sRet m) := PS.imp (ps_ret he) fun Dn σ H ⟨G0, H0, ρ, o, ⟨G, g, R⟩, ht, hm, q⟩ => by
  unfold sRet at hm
  cases k1 : m ρ with
  | none => rw [k1] at hm; cases hm
  | some d =>
    rw [k1] at hm
    cases hm
    obtain ⟨Gv, gv, Rv, _⟩ := R.view g
    refine ⟨Gv, ρ, d, gv.sub, Rv, ht.ext g.ext, k1, fun v G1 H1 A g1 o1 f1 => ?_⟩
    have q' : ∀ v G' H' A, Gr L G0 H0 G' H' → Own X.K G' H' d .all v A → Fresh H0 G' A → Dn.rt v H' := q
    exact q' v G H1 A (g.trans (.of g.sub g1.ext)) o1.move ⟨f1.nd, fun x hx => g.sub.none (f1.nw x hx), fun x hx => g.ext.dom x (f1.nw x hx)⟩
theorem so_ret (he : PD X L e m) : PSO X L false W Ol O O' (.Return (some e) pos) (sRet m) := PS.imp (ps_ret he) fun Dn σ H ⟨G0, H0, ρ, o, ⟨G, g, R⟩, ht, hm, q⟩ => by
  unfold sRet at hm
  cases k1 : m ρ with
  | none => rw [k1] at hm; cases hm
  | some d => rw [k1] at hm; cases hm; exact viewP g R ht k1 fun v G1 H1 g1 _ a1 => (show ∀ v G' H', Gr L G0 H0 G' H' → At X.K G' d v → Dn.rt v H' from q) v G1 H1 g1 a1
theorem so_retN : PSO X L nw W Ol O O' (.Return none pos) sRetN := PS.imp ps_retN fun Dn σ H ⟨G0, H0, ρ, o, ⟨G, g, R⟩, ht, hm, q⟩ => by
  cases hm
  cases nw with
  | true => exact (show ∀ v G' H' A, Gr L G0 H0 G' H' → Own X.K G' H' .non .all v A → Fresh H0 G' A → Dn.rt v H' from q) .non G H [] g ⟨rfl, rfl⟩ .nil
  | false => exact (show ∀ v G' H', Gr L G0 H0 G' H' → At X.K G' .non v → Dn.rt v H' from q) .non G H g rfl
/-- return name, the name's list owned -/
theorem so_retO {i : Nat} {b : Kd} {x : Str} {pos' : Pos} (hi : (i, b) ∈ O) (hb : nw = true → b = .all) (hN : X.N[i]? = some x) (hv : Vis X.env.scope x) (hd : (x == ("__debug__" : Str)) = false := by decide) (hcd : (x == ("__classdict__" : Str)) = false := by decide) : PSO X L nw W Ol O O' (.Return (some (.Name x pos')) pos) (sRet (dVar i)) := PS.imp (ps_ret (pe_var hN hv hd hcd)) fun Dn σ H ⟨G0, H0, ρ, o, ⟨G, g, R⟩, ht, hm, q⟩ => by
  unfold sRet dVar at hm
  cases k1 : (ρ[i]?).join with
  | none => rw [k1] at hm; cases hm
  | some d =>
    rw [k1] at hm
    cases hm
    have e : ρ[i]? = some (some d) := by
      cases z : ρ[i]? with
      | none => rw [z] at k1; cases k1
      | some o => rw [z] at k1; exact congrArg some k1
    obtain ⟨v, A, h1, h2, h4⟩ := R.get hi e
    cases nw with
    | true =>
      cases hb rfl
      exact ⟨v, h1, (show ∀ v G' H' A, Gr L G0 H0 G' H' → Own X.K G' H' d .all v A → Fresh H0 G' A → Dn.rt v H' from q) v G H A g h2 h4⟩
    | false =>
      obtain ⟨Gv, gv, Rv, _⟩ := R.view g
      obtain ⟨v', h1', h2'⟩ := Rv.2 i d e
      rw [h1] at h1'
      cases h1'
      exact ⟨v, h1, (show ∀ v G' H', Gr L G0 H0 G' H' → At X.K G' d v → Dn.rt v H' from q) v Gv H gv h2'⟩
theorem so_expr (he : PD X L e m) (hs : swapsWith e none pos.line X.env = pure false := by rfl) : PSO X L nw W Ol O O (.Expr e pos) (sDrop m) := PS.imp (ps_expr he hs) fun Dn σ H ⟨G0, H0, ρ, o, ⟨G, g, R⟩, ht, hm, q⟩ => by
  unfold sDrop at hm
  cases k1 : m ρ with
  | none => rw [k1] at hm; cases hm
  | some d => rw [k1] at hm; cases hm; exact viewP g R ht k1 fun v G1 H1 _ g2 a1 => q σ H1 ⟨G, g.trans g2, R.gr g2⟩
theorem so_set {i : Nat} {x : Str} {pos' : Pos} {vw : Bool} (hN : X.N.Nodup) (hi : X.N[i]? = some x) (hx : Loc X.env.scope x) (he : PD X L e m) (hs : swapsWith e (some (.Name x pos')) pos.line X.env = pure false := by rfl) (hf : X.fn x = true ∨ X.env.scope.names.lookup x = some .local := by first | exact .inl rfl | exact .inr rfl | assumption) :
    PSO X L nw W Ol O (rm i O) (.Assign [.Name x pos'] e pos) (sSet i (ev vw (ks O) m)) := PS.imp (ps_set hN hi hx he hs hf) fun Dn σ H ⟨G0, H0, ρ, o, ⟨G, g, R⟩, ht, hm, q⟩ => by
  unfold sSet at hm
  cases k1 : ev vw (ks O) m ρ with
  | none => rw [k1] at hm; cases hm
  | some d => rw [k1] at hm; cases hm; exact evP g R ht k1 fun v G1 H1 g1 a1 => q _ H1 ⟨G1, g.trans g1, (R.gr g1).setP a1⟩
theorem newO {K : PySem.W.Frag} {G0 H0 G H H1 : Hp} {σ : L2.St} {ρ : Env} {d : D} {v : V} {i : Nat} {b : Kd} {A : List Addr} (g : Gr L G0 H0 G H) (R : RepO K H0 G H O σ ρ) (e1 : Ext L H H1) (a1 : Own K G H1 d b v A) (nd : A.Nodup) (nw : ∀ x ∈ A, H x = none) : StO K L G0 H0 ((i, b) :: rm i O) (σ.set i (some v)) H1 (ρ.set i (some d)) := by
  have g2 : Gr L G H G H1 := .of g.sub e1
  obtain ⟨ft, h1, h2, h3⟩ := R.ow
  have R1 := R.gr g2
  obtain ⟨ft', q1, q2, q3⟩ := R1.ow
  refine ⟨G, g.trans g2, ?_⟩
  have R2 : RepO K H0 G H1 O σ ρ := ⟨R1.len, R1.pl, ft, fun p hp d hd => ?_, fun p hp => ⟨(h2 p hp).1, fun a ha => ?_⟩, h3⟩
  · refine ⟨by rw [List.length_set, List.length_set]; exact R.len, fun j e hj h => ?_, fun j => if j = i then A else ft j, fun p hp e h => ?_, fun p hp => ?_, fun p hp q hq hpq x hx hx2 => ?_⟩
    · have hij : i ≠ j := fun z => hj (by rw [z]; exact mem_ks List.mem_cons_self)
      rw [List.getElem?_set_ne hij] at h ⊢
      refine R1.pl j e (fun z => hj ?_) h
      obtain ⟨c, hc⟩ := of_ks z
      exact mem_ks (List.mem_cons_of_mem _ (mem_rm.mpr ⟨hc, hij⟩))
    · rcases List.mem_cons.mp hp with rfl | hp
      · rcases getset h with ⟨_, e1, hl⟩ | ⟨hij, _⟩
        · cases e1
          refine ⟨v, List.getElem?_set_self (by rw [R.len]; exact hl), ?_⟩
          simp only [if_true]; exact a1
        · exact absurd rfl hij
      · obtain ⟨k1, hij⟩ := mem_rm.mp hp
        rw [List.getElem?_set_ne hij] at h ⊢
        simp only [if_neg (Ne.symm hij)]
        obtain ⟨u, w1, w2⟩ := h1 p k1 e h
        exact ⟨u, w1, Own.keep (fun _ _ z => z) (fun a _ o ho n => e1.keep a o ho n) w2⟩
    · rcases List.mem_cons.mp hp with rfl | hp
      · simp only [if_true]
        exact ⟨⟨nd, fun x hx => g.sub.none (nw x hx), fun x hx => g.ext.dom x (nw x hx)⟩, fun x hx => Own.sm a1 x hx⟩
      · obtain ⟨k1, hij⟩ := mem_rm.mp hp
        simp only [if_neg (Ne.symm hij)]
        refine ⟨(h2 p k1).1, fun x hx => ?_⟩
        obtain ⟨o, ho, n⟩ := (h2 p k1).2 x hx
        exact ⟨o, e1.keep x o ho n, n⟩
    · have far : ∀ x ∈ A, ∀ p ∈ O, x ∉ ft p.1 := fun x hx p hp z => by
        obtain ⟨o, ho, _⟩ := (h2 p hp).2 x z
        rw [nw x hx] at ho
        cases ho
      rcases List.mem_cons.mp hp with rfl | hp
      · rcases List.mem_cons.mp hq with rfl | hq
        · exact hpq rfl
        · obtain ⟨k1, hij⟩ := mem_rm.mp hq
          simp only [if_true, if_neg (Ne.symm hij)] at hx hx2
          exact far x hx q k1 hx2
      · obtain ⟨k1, hij⟩ := mem_rm.mp hp
        rcases List.mem_cons.mp hq with rfl | hq
        · simp only [if_true, if_neg (Ne.symm hij)] at hx hx2
          exact far x hx2 p k1 hx
        · obtain ⟨k2, hik⟩ := mem_rm.mp hq
          simp only [if_neg (Ne.symm hij), if_neg (Ne.symm hik)] at hx hx2
          exact h3 p k1 q k2 hpq x hx hx2
  · obtain ⟨u, w1, w2⟩ := h1 p hp d hd
    exact ⟨u, w1, Own.keep (fun _ _ z => z) (fun a _ o ho n => e1.keep a o ho n) w2⟩
  · obtain ⟨o, ho, n⟩ := (h2 p hp).2 a ha
    exact ⟨o, e1.keep a o ho n, n⟩
/-- name = e, e a new list that holds no lists -/
theorem so_new {i : Nat} {x : Str} {pos' : Pos} (hN : X.N.Nodup) (hi : X.N[i]? = some x) (hx : Loc X.env.scope x) (he : PDN X L e m) (hs : swapsWith e (some (.Name x pos')) pos.line X.env = pure false := by rfl) (hf : X.fn x = true ∨ X.env.scope.names.lookup x = some .local := by first | exact .inl rfl | exact .inr rfl | assumption) :
    PSO X L nw W Ol O ((i, .all) :: rm i O) (.Assign [.Name x pos'] e pos) (sNew i m) := PS.imp (ps_set hN hi hx he hs hf) fun Dn σ H ⟨G0, H0, ρ, o, ⟨G, g, R⟩, ht, hm, q⟩ => by
  unfold sNew at hm
  cases k1 : m ρ with
  | none => rw [k1] at hm; cases hm
  | some d =>
    simp only [k1, Option.bind_some, Option.ite_none_right_eq_some, Option.some.injEq] at hm
    obtain ⟨hfl, rfl⟩ := hm
    obtain ⟨Gv, gv, Rv, _⟩ := R.view g
    refine ⟨Gv, ρ, d, gv.sub, Rv, ht.ext g.ext, k1, fun v G1 H1 g1 a1 n1 => ?_⟩
    obtain ⟨A, o1, o3, o4⟩ := flat_own (G := G) (H := H) g.sub g1.sub a1 n1 hfl
    exact q _ H1 (newO g R g1.ext o1 o4 o3)
/-- name = e, all lists of e new -/
theorem so_newW {i : Nat} {x : Str} {pos' : Pos} (hN : X.N.Nodup) (hi : X.N[i]? = some x) (hx : Loc X.env.scope x) (he : PDW X L e m) (hs : swapsWith e (some (.Name x pos')) pos.line X.env = pure false := by rfl) (hf : X.fn x = true ∨ X.env.scope.names.lookup x = some .local := by first | exact .inl rfl | exact .inr rfl | assumption) :
    PSO X L nw W Ol O ((i, .all) :: rm i O) (.Assign [.Name x pos'] e pos) (sSet i m) := PS.imp (ps_set hN hi hx he hs hf) fun Dn σ H ⟨G0, H0, ρ, o, ⟨G, g, R⟩, ht, hm, q⟩ => by
  unfold sSet at hm
  cases k1 : m ρ with
  | none => rw [k1] at hm; cases hm
  | some d =>
    rw [k1] at hm
    cases hm
    obtain ⟨Gv, gv, Rv, _⟩ := R.view g
    exact ⟨Gv, ρ, d, gv.sub, Rv, ht.ext g.ext, k1, fun v G1 H1 A g1 o1 f1 => q _ H1 (newO g R g1.ext o1.move f1.nd f1.nw)⟩
/-- name = [e, ..] -/
theorem so_lst {i : Nat} {x : Str} {pos' lpos : Pos} {es : List Expr} {ml : Env → Option (List D)} (hN : X.N.Nodup) (hi : X.N[i]? = some x) (hx : Loc X.env.scope x) (he : PAD X L es ml) (hl : ∀ ρ ds, ml ρ = some ds → ds.length ≤ sizeLine) (hs : swapsWith (.List es lpos) (some (.Name x pos')) pos.line X.env = pure false := by rfl)
    (hf : X.fn x = true ∨ X.env.scope.names.lookup x = some .local := by first | exact .inl rfl | exact .inr rfl | assumption) :
    PSO X L nw W Ol O ((i, .own .pl) :: rm i O) (.Assign [.Name x pos'] (.List es lpos) pos) (sLst i (ks O) ml) := PS.imp (ps_set hN hi hx (pe_lst he) hs hf) fun Dn σ H ⟨G0, H0, ρ, o, ⟨G, g, R⟩, ht, hm, q⟩ => by
  unfold sLst at hm
  cases k1 : ml (wipeD ρ (ks O)) with
  | none => rw [k1] at hm; cases hm
  | some ds =>
    rw [k1] at hm
    cases hm
    refine ⟨G, wipeD ρ (ks O), ds, g.sub, R.plain, ht.ext g.ext, k1, fun xs G1 H1 g1 a1 => ⟨by rw [a1.length]; exact hl _ ds k1, fun p hp => q _ _ ?_⟩⟩
    exact newO (g.trans g1) (R.gr g1) (.new hp) (A := [p]) (.inr (.inr ⟨.pl, p, xs, [], rfl, rfl, upd_same, rfl, owns_plain a1⟩)) (List.nodup_cons.mpr ⟨List.not_mem_nil, List.nodup_nil⟩) fun x hx => by rw [List.mem_singleton.mp hx]; exact hp
/-- name = [e], e a new list that holds no lists -/
theorem so_lstN {i : Nat} {x : Str} {pos' lpos : Pos} (hN : X.N.Nodup) (hi : X.N[i]? = some x) (hx : Loc X.env.scope x) (he : PDN X L e m) (h1 : starEach [e] X.env = (false, eval e X.env) :: starEach [] X.env := by rfl) (hs : swapsWith (.List [e] lpos) (some (.Name x pos')) pos.line X.env = pure false := by rfl)
    (hf : X.fn x = true ∨ X.env.scope.names.lookup x = some .local := by first | exact .inl rfl | exact .inr rfl | assumption) :
    PSO X L nw W Ol O ((i, .all) :: rm i O) (.Assign [.Name x pos'] (.List [e] lpos) pos) (sLstN i m) := PS.imp (ps_set hN hi hx (pe_lst (pa_cons he pa_nil h1)) hs hf) fun Dn σ H ⟨G0, H0, ρ, o, ⟨G, g, R⟩, ht, hm, q⟩ => by
  unfold sLstN at hm
  cases k1 : m ρ with
  | none => rw [k1] at hm; cases hm
  | some d =>
    simp only [k1, Option.bind_some, Option.ite_none_right_eq_some, Option.some.injEq] at hm
    obtain ⟨hfl, rfl⟩ := hm
    obtain ⟨Gv, gv, Rv, _⟩ := R.view g
    refine ⟨Gv, ρ, d, gv.sub, Rv, ht.ext g.ext, k1, fun v G1 H1 g1 a1 n1 => ⟨(by show 1 ≤ sizeLine; decide), fun p hp => q _ _ ?_⟩⟩
    obtain ⟨A, o1, o3, o4⟩ := flat_own (G := G) (H := H) g.sub g1.sub a1 n1 hfl
    have nA : p ∉ A := fun z => by
      obtain ⟨o, ho, _⟩ := Own.sm o1 p z
      rw [hp] at ho
      cases ho
    refine newO g R (g1.ext.trans (.new hp)) (A := p :: A) (.inr (.inr ⟨.all, p, [v], A, rfl, rfl, upd_same, rfl, .one (Own.keep (fun _ _ z => z) (fun a ha o ho _ => ?_) o1)⟩)) (List.nodup_cons.mpr ⟨nA, o4⟩) fun x hx => ?_
    · rw [upd_ne fun z => nA (by rw [← z]; exact ha)]; exact ho
    · rcases List.mem_cons.mp hx with rfl | hx
      · exact g1.ext.dom x hp
      · exact o3 x hx
theorem so_asg {tg : Expr} {g : TG} {bd : D → Env → Option Env} {vs : List Nat} (hgd : GdOk X.K vs g bd) (he : PD X L e m) (hg : PG X tg g) (hv : ∀ i ∈ ks O, i ∉ vs := by decide) (hs : swapsWithSole [tg] e pos.line X.env = pure false := by rfl) (hw : swappedStores [tg] e X.env = pure none := by rfl)
    (h1 : (assignEach [tg] X.env).map (·.2) = [assign tg X.env] := by rfl) : PSO X L nw W Ol O O (.Assign [tg] e pos) (sAsg (ks O) bd m) := PS.imp (ps_asg he hg hs hw h1) fun Dn σ H ⟨G0, H0, ρ, o, ⟨G, g, R⟩, ht, hm, q⟩ => by
  unfold sAsg at hm
  cases k1 : m (wipeD ρ (ks O)) with
  | none => rw [k1] at hm; cases hm
  | some d =>
    rw [k1] at hm
    cases k2 : bd d (wipeD ρ (ks O)) with
    | none => simp [k2] at hm
    | some ρ' =>
      simp only [k2, Option.bind_some, Option.some.injEq] at hm
      subst hm
      exact ⟨G, wipeD ρ (ks O), d, g.sub, R.plain, ht.ext g.ext, k1, fun v G1 H1 g1 a => hgd G1 H1 σ (wipeD ρ (ks O)) ρ' d v _ g1.sub (R.plain.mono g1.up) a k2 fun σ1 r1 _ hw1 => q σ1 H1 ⟨G1, g.trans g1, (R.gr g1).bind hv r1 hw1⟩⟩
/-- name = [..], a statement of its own -/
theorem so_setLc {i : Nat} {y : Str} {py : Pos} {elt tg iter : Expr} {ifs : List Expr} {scope : Scope} {own : List (Str × Nat)} {lpos spos : Pos} {mi : Env → Option (List D)} {bd : D → Env → Option Env} {tt : Env → Option Bool} {me : DM} {g : TG} (hc : X.calm = true) (hN : X.N.Nodup) (hy : X.N[i]? = some y) (hyl : X.env.scope.names.lookup y = some .local)
    (hsw : swapsWith (.ListComp elt [⟨tg, iter, ifs, 0⟩] scope lpos) (some (.Name y py)) spos.line X.env = pure true) (hi : PID X L tg iter mi) (ok : BlkOk X.N X.env.scope scope own) (hgd : GdOk X.K (own.map (·.2)) g bd)
    (hg : ∀ (s : Shared) (H : Hp) (C : Addr) (cl : List (Str × Addr)) (fp : List Addr), PG (X.blk s H scope (compEnvC scope cl C X.env) fp) tg g) (ht : ∀ (s : Shared) (H : Hp) (C : Addr) (cl : List (Str × Addr)) (fp : List Addr), PTs (X.blk s H scope (compEnvC scope cl C X.env) fp) ifs (tPT X.K L tt))
    (he : ∀ (s : Shared) (H : Hp) (C : Addr) (cl : List (Str × Addr)) (fp : List Addr), PD (X.blk s H scope (compEnvC scope cl C X.env) fp) L elt me) (hs : ∀ x, foldedSetIterable iter X.env x = pure x := by intro _; rfl) :
    PSO X L nw W Ol O (rm i O) (.Assign [.Name y py] (.ListComp elt [⟨tg, iter, ifs, 0⟩] scope lpos) spos) (sSet i (ev false (ks O) (dLc (own.map (·.2)) mi bd tt me))) := PS.imp (ps_setLc (te := tP X.K L me) hc hN hy hyl hsw hi ok hg ht he hs) fun Dn σ H ⟨G0, H0, ρ, o, ⟨G, g, R⟩, ht, hm, q⟩ => by
  unfold sSet at hm
  cases k1 : ev false (ks O) (dLc (own.map (·.2)) mi bd tt me) ρ with
  | none => rw [k1] at hm; cases hm
  | some d => rw [k1] at hm; cases hm; exact lc_imp hgd σ H _ (evP g R ht k1 fun v G1 H1 g1 a1 => q _ H1 ⟨G1, g.trans g1, (R.gr g1).setP a1⟩)
theorem so_newLc {i : Nat} {y : Str} {py : Pos} {elt tg iter : Expr} {ifs : List Expr} {scope : Scope} {own : List (Str × Nat)} {lpos spos : Pos} {mi : Env → Option (List D)} {bd : D → Env → Option Env} {tt : Env → Option Bool} {me : DM} {g : TG} (hc : X.calm = true) (hN : X.N.Nodup) (hy : X.N[i]? = some y) (hyl : X.env.scope.names.lookup y = some .local)
    (hsw : swapsWith (.ListComp elt [⟨tg, iter, ifs, 0⟩] scope lpos) (some (.Name y py)) spos.line X.env = pure true) (hi : PID X L tg iter mi) (ok : BlkOk X.N X.env.scope scope own) (hgd : GdOk X.K (own.map (·.2)) g bd)
    (hg : ∀ (s : Shared) (H : Hp) (C : Addr) (cl : List (Str × Addr)) (fp : List Addr), PG (X.blk s H scope (compEnvC scope cl C X.env) fp) tg g) (ht : ∀ (s : Shared) (H : Hp) (C : Addr) (cl : List (Str × Addr)) (fp : List Addr), PTs (X.blk s H scope (compEnvC scope cl C X.env) fp) ifs (tPT X.K L tt))
    (he : ∀ (s : Shared) (H : Hp) (C : Addr) (cl : List (Str × Addr)) (fp : List Addr), PD (X.blk s H scope (compEnvC scope cl C X.env) fp) L elt me) (hs : ∀ x, foldedSetIterable iter X.env x = pure x := by intro _; rfl) :
    PSO X L nw W Ol O ((i, .all) :: rm i O) (.Assign [.Name y py] (.ListComp elt [⟨tg, iter, ifs, 0⟩] scope lpos) spos) (sNew i (dLc (own.map (·.2)) mi bd tt me)) := PS.imp (ps_setLc (te := tP X.K L me) hc hN hy hyl hsw hi ok hg ht he hs) fun Dn σ H ⟨G0, H0, ρ, o, ⟨G, g, R⟩, ht, hm, q⟩ => by
  unfold sNew at hm
  cases k1 : dLc (own.map (·.2)) mi bd tt me ρ with
  | none => rw [k1] at hm; cases hm
  | some d =>
    simp only [k1, Option.bind_some, Option.ite_none_right_eq_some, Option.some.injEq] at hm
    obtain ⟨hfl, rfl⟩ := hm
    obtain ⟨Gv, gv, Rv, _⟩ := R.view g
    refine lc_impN hgd σ H _ ⟨Gv, ρ, d, gv.sub, Rv, ht.ext g.ext, k1, fun v G1 H1 g1 a1 n1 => ?_⟩
    obtain ⟨A, o1, o3, o4⟩ := flat_own (G := G) (H := H) g.sub g1.sub a1 n1 hfl
    exact q _ H1 (newO g R g1.ext o1 o4 o3)
theorem so_if {c : Expr} {tc : Env → Option Bool} {x y : List Stmt} (hc : PTD X L c tc) (ha : PSsO X L nw W Ol O O' x a) (hb : PSsO X L nw W Ol O O' y b) : PSO X L nw W Ol O O' (.If c x y pos) (sIf tc a b) := PS.imp (ps_if hc ha hb) fun Dn σ H ⟨G0, H0, ρ, o, ⟨G, g, R⟩, ht, hm, q⟩ => by
  unfold sIf at hm
  cases k1 : tc ρ with
  | none => rw [k1] at hm; cases hm
  | some k =>
    rw [k1] at hm
    refine viewT g R ht k1 fun H1 g1 => ?_
    cases k with
    | true => exact ⟨G0, H0, ρ, o, ⟨G, g.trans g1, R.gr g1⟩, ht, hm, q⟩
    | false => exact ⟨G0, H0, ρ, o, ⟨G, g.trans g1, R.gr g1⟩, ht, hm, q⟩
theorem so_for {tg iter : Expr} {body : List Stmt} {mi : Env → Option (List D)} {bd : D → Env → Option Env} {vs : List Nat} {g : TG} (hgd : GdOk X.K vs g bd) (hp : PassesOwn (model X.prog X.w) X.A X.env X.xe) (hc : X.calm = true) (hi : PID X L tg iter mi) (hg : PG X tg g) (hb : PSsO X L nw W O O O body b) (hv : ∀ i ∈ ks O, i ∉ vs := by decide)
    (hs : ∀ x, foldedSetIterable iter X.env x = pure x := by intro _; rfl) : PSO X L nw W Ol O O (.For tg iter body [] pos) (sFor (ks O) mi bd b) := PS.imp (ps_for hp hc hi hg hb hs) fun Dn σ H ⟨G0, H0, ρ, o, ⟨G, g0, R⟩, ht, hm, q⟩ => by
  unfold sFor at hm
  cases h1 : mi (wipeD ρ (ks O)) with
  | none => rw [h1] at hm; cases hm
  | some ds =>
    rw [h1] at hm
    refine ⟨G, wipeD ρ (ks O), ds, g0.sub, R.plain, ht.ext g0.ext, h1, fun J G1 H1 g1 wk => ?_⟩
    have g01 := g0.trans g1
    refine ⟨fun i mm σ' H' => mm = ds.length - i ∧ i ≤ ds.length ∧ ∃ ρi, StO X.K L G1 H0 O σ' H' ρi ∧ forGo (ks O) bd b (ds.drop i) ρi = some o, ⟨ds.length, by simp, Nat.zero_le _, ρ, ⟨G1, g01.self, R.gr g1⟩, by rw [List.drop_zero]; exact hm⟩, ?_⟩
    rintro i mm σ' H' ⟨rfl, hi, ρi, ⟨Gi, gi, Ri⟩, hgo⟩
    have s1 : Sub G1 H' := fun a o e => gi.sub a o (gi.up a o e)
    obtain ⟨w1, w2⟩ := wk H' s1
    by_cases hlt : i < ds.length
    · refine .inr ?_
      obtain ⟨go, yl⟩ := w1 i ds[i] (List.getElem?_eq_getElem hlt)
      refine ⟨go, fun σ5 H5 => ∃ ρi, StO X.K L G1 H0 O σ5 H5 ρi ∧ forGo (ks O) bd b (ds.drop (i + 1)) ρi = some o, fun σ5 H5 h5 => ⟨_, by omega, rfl, hlt, h5⟩, fun x H3 hy => ?_⟩
      obtain ⟨G3, g3, a3⟩ := yl x H3 hy Gi gi.sub gi.up
      rw [List.drop_eq_getElem_cons hlt] at hgo
      unfold forGo at hgo
      cases k1 : bd ds[i] (wipeD ρi (ks O)) with
      | none => rw [k1] at hgo; cases hgo
      | some ρ1 =>
        cases k2 : b (mrg (ks O) ρi ρ1) with
        | none => simp [k1, k2] at hgo
        | some o1 =>
          simp only [k1, k2, Option.bind_some] at hgo
          refine hgd G3 H3 σ' (wipeD ρi (ks O)) ρ1 ds[i] x _ g3.sub (Ri.plain.mono g3.up) a3 k1 fun σ1 hR1 hl1 hw1 => ⟨G1, H0, mrg (ks O) ρi ρ1, o1, ⟨G3, gi.trans g3, (Ri.gr g3).bind hv hR1 hw1⟩, ht, k2, ?_⟩
          cases o1 with
          | nx ρ2 => exact fun σ4 H4 h4 => ⟨ρ2, h4, hgo⟩
          | ct ρ2 => exact fun σ4 H4 h4 => ⟨ρ2, h4, hgo⟩
          | bk ρ2 =>
            cases hgo
            exact fun σ4 H4 h4 => q σ4 H4 (h4.base g01)
          | rt d =>
            cases hgo
            cases nw with
            | true => exact fun v G4 H4 A g4 a4 f => (show ∀ v G' H' A, Gr L G0 H0 G' H' → Own X.K G' H' d .all v A → Fresh H0 G' A → Dn.rt v H' from q) v G4 H4 A (g01.base g4) a4 f
            | false => exact fun v G4 H4 g4 a4 => (show ∀ v G' H', Gr L G0 H0 G' H' → At X.K G' d v → Dn.rt v H' from q) v G4 H4 (g01.base g4) a4
          | ex n =>
            cases hgo
            exact fun σ4 G4 H4 g4 => q σ4 G4 H4 (g01.base g4)
    · have hi' : i = ds.length := by omega
      subst hi'
      rw [List.drop_of_length_le (Nat.le_refl _)] at hgo
      cases hgo
      exact .inl ⟨w2 _ (Nat.le_refl _), q σ' H' ((show StO X.K L G1 H0 O σ' H' ρi from ⟨Gi, gi, Ri⟩).base g01)⟩
end
end DN

set_option Elab.async false
set_option linter.all false
set_option maxRecDepth 100000
set_option maxHeartbeats 2000000
/-! Raising calls and defs over plain data. -/
namespace DN
open PySem PySem.Spec PyProof.Rows L2 GxR GX
/-- what is wanted of an own error, by its class -/
def WofN (cls : Str → Addr) (W : WX) : WN := fun n σ H => W (.ref (cls n)) none σ H
/-- what a def gives that may raise -/
inductive Res where
  | ok (d : D) | er (n : Str)
def spR (K : PySem.W.Frag) (L : List Addr) (nwc : Bool) (cls : Str → Addr) (n : Nat) (g : List D → Option Res) : Sp := fun vs H Q E => ∃ G ds r, Sub G H ∧ Tabs L H ∧ ds.length = n ∧ Ats K G ds vs ∧ g ds = some r ∧
  match r with
  | .ok d => if nwc = true then ∀ v G' H' A, Gr L G H G' H' → Own K G' H' d .all v A → Fresh H G' A → Q v H' else ∀ v G' H', Gr L G H G' H' → At K G' d v → Q v H'
  | .er n => ∀ G' H', Gr L G H G' H' → E (.ref (cls n)) none H'
/-- a def's promise over data; nw: a list that it tells is new -/
def spPN (K : PySem.W.Frag) (L : List Addr) (nw : Bool) (n : Nat) (g : List D → Option D) : Sp := fun vs H Q _ => ∃ G ds d, Sub G H ∧ Tabs L H ∧ ds.length = n ∧ Ats K G ds vs ∧ g ds = some d ∧ if nw = true then ∀ v G' H' A, Gr L G H G' H' → Own K G' H' d .all v A → Fresh H G' A → Q v H' else ∀ v G' H', Gr L G H G' H' → At K G' d v → Q v H'
/-- what is owned may be seen -/
theorem Gr.show {L : List Addr} {K : PySem.W.Frag} {G H G' H' : Hp} {d : D} {v : V} {A : List Addr} (g : Gr L G H G' H') (o : Own K G' H' d .all v A) (f : Fresh H G' A) : ∃ G2, Gr L G H G2 H' ∧ At K G2 d v := by
  have up : ∀ a o, G' a = some o → seen G' H' (· ∈ A) a = some o := fun a o e => by
    unfold seen
    by_cases h : a ∈ A
    · rw [f.out a h] at e; cases e
    · rw [if_neg h]; exact e
  refine ⟨seen G' H' (· ∈ A), ⟨fun a u e => ?_, fun a u e => up a u (g.up a u e), g.ext, fun a e => ?_⟩, Own.at up (fun a ha => ?_) o⟩
  · unfold seen at e
    by_cases h : a ∈ A
    · rw [if_pos h] at e
      obtain ⟨u', hu, n⟩ := Own.sm o a h
      rw [hu] at e
      cases e
      exact ⟨hu, n⟩
    · rw [if_neg h] at e
      exact g.sub a u e
  · unfold seen at e
    by_cases h : a ∈ A
    · exact .inr (f.nw a h)
    · rw [if_neg h] at e
      exact g.new a e
  · unfold seen
    rw [if_pos ha]
theorem FnOk.weak {P : Program} {w : World} {K : PySem.W.Frag} {mg : Str → Option Value} {base : Heap} {k n : Nat} {f : Addr} {fd : FuncData} {ps : List Str} {L : List Addr} {nw : Bool} {g : List D → Option D} (F : FnOk P w K mg base CX0 k f fd ps (spPN K L nw n g)) : FnOk P w K mg base CX0 k f fd ps (spP K L n g) :=
  F.imp fun vs H Q E ⟨G, ds, d, hs, ht, hn, ha, hg, q⟩ => ⟨G, ds, d, hs, ht, hn, ha, hg, by
    cases nw with
    | true => exact fun v G' H' A g o f => let ⟨G2, g2, a2⟩ := g.show o f; q v G2 H' g2 a2
    | false => exact fun v G' H' g a => q v G' H' g a⟩
/-- an own error of a call -/
def xEx (a : Env → Option (List D)) (g : List D → Option Res) : SM := fun ρ => (a ρ).bind fun ds => (g ds).bind fun | .ok _ => some (.nx ρ) | .er n => some (.ex n)
def xSet (i : Nat) (vw : Bool) (O : List Nat) (a : Env → Option (List D)) (g : List D → Option Res) : SM := fun ρ => (if vw = true then a ρ else a (wipeD ρ O)).bind fun ds => (g ds).bind fun | .ok d => if vw = true ∧ Scal d = false then none else some (.nx (ρ.set i (some d))) | .er n => some (.ex n)
def xNew (i : Nat) (a : Env → Option (List D)) (g : List D → Option Res) : SM := fun ρ => (a ρ).bind fun ds => (g ds).bind fun | .ok d => some (.nx (ρ.set i (some d))) | .er n => some (.ex n)
def xRet (a : Env → Option (List D)) (g : List D → Option Res) : SM := fun ρ => (a ρ).bind fun ds => (g ds).bind fun | .ok d => some (.rt d) | .er n => some (.ex n)
section
variable {X : Cx} {L : List Addr} {nw : Bool} {Ol O O' : Ow} {pos : Pos} {e : Expr}
theorem so_raise {cls : Str → Addr} {Wx : WX} {x ms : Str} {j : Nat} {p p2 ppos : Pos} {bmB : List Value} {B newId initId : String} (F : PySem.ExcBaseFacts B newId initId bmB) (hc : X.calm = true) (tk : Takes X Wx) (q : PySem.W.excIn X.K (cls x) bmB newId = true) (gC : X.mg x = some (.ref (cls x))) (kC : PySem.W.keepIn X.K (.ref (cls x)) = true) (r : Raises X (.ref (cls x))) (hg : Gl X x)
    (hdb : (x == ("__debug__" : Str)) = false := by decide) : PSO X L nw (WofN cls Wx) Ol O O' (.Raise (some (.Call (.Name x p) [.Constant (.str ms) j p2] [] ppos)) none pos) (sEx x) :=
  PS.imp (ps_raise hc tk (pmk_own F q gC kC r hg hdb)) fun Dn σ H ⟨G0, H0, ρ, o, ⟨G, g, R⟩, ht, hm, q⟩ => by cases hm; exact q σ G H g
variable {nwc : Bool} {cls : Str → Addr} {Wx : WX} {k n : Nat} {f : Addr} {fd : FuncData} {ps : List Str} {g : List D → Option Res} {x : Str} {p ppos : Pos} {es : List Expr} {ml : _root_.DN.Env → Option (List D)}
theorem callO {σ : L2.St} {G H : Hp} {Q : VK} {ds : List D} {r : Res} {G0 H0 : Hp} {ρ : _root_.DN.Env} (g0 : Gr L G0 H0 G H) (R : RepO X.K H0 G H O σ ρ) (ht : Tabs L H0) (hn : ds.length = n) (vw : Bool) (h1 : (if vw = true then ml ρ else ml (wipeD ρ (ks O))) = some ds) (h2 : g ds = some r)
    (q : match r with
      | .ok d => if nwc = true then ∀ v H1 A, Ext L H H1 → Own X.K G H1 d .all v A → A.Nodup → (∀ x ∈ A, H x = none) → Q v H1 else ∀ v G1 H1, Gr L G0 H0 G1 H1 → Gr L G H (if vw = true then G else G1) H1 → At X.K G1 d v → Q v H1
      | .er nn => ∀ G1 H1, Gr L G0 H0 G1 H1 → WofN cls Wx nn σ H1) : tCallS (spR X.K L nwc cls n g) (WE Wx) (tPA X.K L ml) σ H Q := by
  cases vw with
  | true =>
    simp only [if_true] at h1
    obtain ⟨Gv, gv, Rv, _⟩ := R.view g0
    refine ⟨Gv, ρ, ds, gv.sub, Rv, ht.ext g0.ext, h1, fun xs G1 H1 g1 a1 => ⟨G1, ds, r, g1.sub, (ht.ext g0.ext).ext g1.ext, hn, a1, h2, ?_⟩⟩
    cases r with
    | ok d =>
      cases nwc with
      | true => exact fun v G2 H2 A g2 o2 f => (show ∀ v H1 A, Ext L H H1 → Own X.K G H1 d .all v A → A.Nodup → (∀ x ∈ A, H x = none) → Q v H1 from q) v H2 A (g1.trans g2).ext o2.move f.nd fun x hx => g1.ext.dom x (f.nw x hx)
      | false => exact fun v G2 H2 g2 a2 => (show ∀ v G1 H1, Gr L G0 H0 G1 H1 → Gr L G H G H1 → At X.K G1 d v → Q v H1 from q) v G2 H2 (gv.trans (g1.trans g2)) (.of g0.sub (g1.trans g2).ext) a2
    | er nn => exact fun G2 H2 g2 => q G2 H2 (gv.trans (g1.trans g2))
  | false =>
    simp only [Bool.false_eq_true, if_false] at h1
    refine ⟨G, wipeD ρ (ks O), ds, g0.sub, R.plain, ht.ext g0.ext, h1, fun xs G1 H1 g1 a1 => ⟨G1, ds, r, g1.sub, (ht.ext g0.ext).ext g1.ext, hn, a1, h2, ?_⟩⟩
    cases r with
    | ok d =>
      cases nwc with
      | true => exact fun v G2 H2 A g2 o2 f => (show ∀ v H1 A, Ext L H H1 → Own X.K G H1 d .all v A → A.Nodup → (∀ x ∈ A, H x = none) → Q v H1 from q) v H2 A (g1.trans g2).ext o2.move f.nd fun x hx => g1.ext.dom x (f.nw x hx)
      | false => exact fun v G2 H2 g2 a2 => (show ∀ v G1 H1, Gr L G0 H0 G1 H1 → Gr L G H G1 H1 → At X.K G1 d v → Q v H1 from q) v G2 H2 (g0.trans (g1.trans g2)) (g1.trans g2) a2
    | er nn => exact fun G2 H2 g2 => q G2 H2 (g0.trans (g1.trans g2))
theorem so_exprX (F : FnOk X.prog X.w X.K X.mg X.base (L2.CX X.prog X.w) k f fd ps (spR X.K L nwc cls n g)) (hr : Room k X.A) (tk : Takes X Wx) (hg : Gl X x) (hm : X.mg x = some (.ref f)) (hk : PySem.W.keepIn X.K (.ref f) = true) (hb : Binds X.K fd ps []) (ha : PAD X L (e :: es) ml) (hn : ∀ ρ ds, ml ρ = some ds → ds.length = n)
    (hs : swapsWith (.Call (.Name x p) (e :: es) [] ppos) none pos.line X.env = pure false := by rfl) (hdb : (x == ("__debug__" : Str)) = false := by decide) (he : starEach (e :: es) X.env = (false, eval e X.env) :: starEach es X.env := by rfl) (hpl : (backTo ppos (starEach es X.env)).any (·.1) = false := by rfl) :
    PSO X L nw (WofN cls Wx) Ol O O (.Expr (.Call (.Name x p) (e :: es) [] ppos) pos) (xEx ml g) :=
  PS.imp (ps_expr (pe_callS F hr hg hm hk hb (fun σ => passAt tk σ) ha hdb he hpl) hs) fun Dn σ H ⟨G0, H0, ρ, o, ⟨G, g0, R⟩, ht, hmm, q⟩ => by
    unfold xEx at hmm
    cases k1 : ml ρ with
    | none => rw [k1] at hmm; cases hmm
    | some ds =>
      cases k2 : g ds with
      | none => simp [k1, k2] at hmm
      | some r =>
        simp only [k1, k2, Option.bind_some] at hmm
        refine callO g0 R ht (hn _ _ k1) true (by simpa using k1) k2 ?_
        cases r with
        | ok d =>
          cases hmm
          cases nwc with
          | true => exact fun v H1 A e _ _ _ => q σ H1 ⟨G, g0.trans (.of g0.sub e), R.gr (.of g0.sub e)⟩
          | false => exact fun v G1 H1 _ g2 _ => q σ H1 ⟨G, g0.trans g2, R.gr g2⟩
        | er nn => cases hmm; exact fun G1 H1 g1 => q σ G1 H1 g1
theorem so_setX {i : Nat} {y : Str} {py : Pos} {vw : Bool} (F : FnOk X.prog X.w X.K X.mg X.base (L2.CX X.prog X.w) k f fd ps (spR X.K L false cls n g)) (hr : Room k X.A) (tk : Takes X Wx) (hg : Gl X x) (hm : X.mg x = some (.ref f)) (hk : PySem.W.keepIn X.K (.ref f) = true) (hb : Binds X.K fd ps []) (ha : PAD X L (e :: es) ml) (hn : ∀ ρ ds, ml ρ = some ds → ds.length = n)
    (hN : X.N.Nodup) (hi : X.N[i]? = some y) (hx : Loc X.env.scope y) (hs : swapsWith (.Call (.Name x p) (e :: es) [] ppos) (some (.Name y py)) pos.line X.env = pure false := by rfl) (hf : X.fn y = true ∨ X.env.scope.names.lookup y = some .local := by first | exact .inl rfl | exact .inr rfl | assumption)
    (hdb : (x == ("__debug__" : Str)) = false := by decide) (he : starEach (e :: es) X.env = (false, eval e X.env) :: starEach es X.env := by rfl) (hpl : (backTo ppos (starEach es X.env)).any (·.1) = false := by rfl) :
    PSO X L nw (WofN cls Wx) Ol O (rm i O) (.Assign [.Name y py] (.Call (.Name x p) (e :: es) [] ppos) pos) (xSet i vw (ks O) ml g) :=
  PS.imp (ps_set hN hi hx (pe_callS F hr hg hm hk hb (fun σ => passAt tk σ) ha hdb he hpl) hs hf) fun Dn σ H ⟨G0, H0, ρ, o, ⟨G, g0, R⟩, ht, hmm, q⟩ => by
    unfold xSet at hmm
    cases k1 : (if vw = true then ml ρ else ml (wipeD ρ (ks O))) with
    | none => rw [k1] at hmm; cases hmm
    | some ds =>
      cases k2 : g ds with
      | none => simp [k1, k2] at hmm
      | some r =>
        simp only [k1, k2, Option.bind_some] at hmm
        refine callO (nwc := false) g0 R ht (by cases vw <;> exact hn _ _ (by simpa using k1)) vw k1 k2 ?_
        cases r with
        | ok d =>
          simp only at hmm
          split at hmm
          · cases hmm
          · rename_i hc
            cases hmm
            show ∀ v G1 H1, Gr L G0 H0 G1 H1 → Gr L G H (if vw = true then G else G1) H1 → At X.K G1 d v → _
            intro v G1 H1 g1 g2 a1
            cases vw with
            | false => exact q _ H1 ⟨G1, g1, (R.gr (by simpa using g2)).setP a1⟩
            | true =>
              have hsc : Scal d = true := by
                cases z : Scal d with
                | true => rfl
                | false => exact absurd ⟨rfl, z⟩ hc
              have g2' : Gr L G H G H1 := by simpa using g2
              exact q _ H1 ⟨G, g0.trans g2', (R.gr g2').setP (scal_move hsc a1)⟩
        | er nn => cases hmm; exact fun G1 H1 g1 => q σ G1 H1 g1
theorem so_newX {i : Nat} {y : Str} {py : Pos} (F : FnOk X.prog X.w X.K X.mg X.base (L2.CX X.prog X.w) k f fd ps (spR X.K L true cls n g)) (hr : Room k X.A) (tk : Takes X Wx) (hg : Gl X x) (hm : X.mg x = some (.ref f)) (hk : PySem.W.keepIn X.K (.ref f) = true) (hb : Binds X.K fd ps []) (ha : PAD X L (e :: es) ml) (hn : ∀ ρ ds, ml ρ = some ds → ds.length = n)
    (hN : X.N.Nodup) (hi : X.N[i]? = some y) (hx : Loc X.env.scope y) (hs : swapsWith (.Call (.Name x p) (e :: es) [] ppos) (some (.Name y py)) pos.line X.env = pure false := by rfl) (hf : X.fn y = true ∨ X.env.scope.names.lookup y = some .local := by first | exact .inl rfl | exact .inr rfl | assumption)
    (hdb : (x == ("__debug__" : Str)) = false := by decide) (he : starEach (e :: es) X.env = (false, eval e X.env) :: starEach es X.env := by rfl) (hpl : (backTo ppos (starEach es X.env)).any (·.1) = false := by rfl) :
    PSO X L nw (WofN cls Wx) Ol O ((i, .all) :: rm i O) (.Assign [.Name y py] (.Call (.Name x p) (e :: es) [] ppos) pos) (xNew i ml g) :=
  PS.imp (ps_set hN hi hx (pe_callS F hr hg hm hk hb (fun σ => passAt tk σ) ha hdb he hpl) hs hf) fun Dn σ H ⟨G0, H0, ρ, o, ⟨G, g0, R⟩, ht, hmm, q⟩ => by
    unfold xNew at hmm
    cases k1 : ml ρ with
    | none => rw [k1] at hmm; cases hmm
    | some ds =>
      cases k2 : g ds with
      | none => simp [k1, k2] at hmm
      | some r =>
        simp only [k1, k2, Option.bind_some] at hmm
        refine callO (nwc := true) g0 R ht (hn _ _ k1) true (by simpa using k1) k2 ?_
        cases r with
        | ok d =>
          cases hmm
          exact fun v H1 A e o1 nd f => q _ H1 (newO g0 R e o1 nd f)
        | er nn => cases hmm; exact fun G1 H1 g1 => q σ G1 H1 g1
theorem so_retX (hnw : nw = true → nwc = true) (F : FnOk X.prog X.w X.K X.mg X.base (L2.CX X.prog X.w) k f fd ps (spR X.K L nwc cls n g)) (hr : Room k X.A) (tk : Takes X Wx) (hg : Gl X x) (hm : X.mg x = some (.ref f)) (hk : PySem.W.keepIn X.K (.ref f) = true) (hb : Binds X.K fd ps []) (ha : PAD X L (e :: es) ml) (hn : ∀ ρ ds, ml ρ = some ds → ds.length = n)
    (hdb : (x == ("__debug__" : Str)) = false := by decide) (he : starEach (e :: es) X.env = (false, eval e X.env) :: starEach es X.env := by rfl) (hpl : (backTo ppos (starEach es X.env)).any (·.1) = false := by rfl) :
    PSO X L nw (WofN cls Wx) Ol O O' (.Return (some (.Call (.Name x p) (e :: es) [] ppos)) pos) (xRet ml g) :=
  PS.imp (ps_ret (pe_callS F hr hg hm hk hb (fun σ => passAt tk σ) ha hdb he hpl)) fun Dn σ H ⟨G0, H0, ρ, o, ⟨G, g0, R⟩, ht, hmm, q⟩ => by
    unfold xRet at hmm
    cases k1 : ml ρ with
    | none => rw [k1] at hmm; cases hmm
    | some ds =>
      cases k2 : g ds with
      | none => simp [k1, k2] at hmm
      | some r =>
        simp only [k1, k2, Option.bind_some] at hmm
        refine callO g0 R ht (hn _ _ k1) true (by simpa using k1) k2 ?_
        cases r with
        | ok d =>
          cases hmm
          cases nw with
          | true =>
            cases hnw rfl
            exact fun v H1 A e o1 nd f => (show ∀ v G' H' A, Gr L G0 H0 G' H' → Own X.K G' H' d .all v A → Fresh H0 G' A → Dn.rt v H' from q) v G H1 A (g0.trans (.of g0.sub e)) o1 ⟨nd, fun x hx => g0.sub.none (f x hx), fun x hx => g0.ext.dom x (f x hx)⟩
          | false =>
            cases nwc with
            | true =>
              refine fun v H1 A e o1 nd f => ?_
              have g2 : Gr L G H G H1 := .of g0.sub e
              obtain ⟨G2, g3, a3⟩ := g2.show o1 ⟨nd, fun x hx => g0.sub.none (f x hx), f⟩
              exact (show ∀ v G' H', Gr L G0 H0 G' H' → At X.K G' d v → Dn.rt v H' from q) v G2 H1 (g0.trans g3) a3
            | false => exact fun v G1 H1 g1 _ a1 => (show ∀ v G' H', Gr L G0 H0 G' H' → At X.K G' d v → Dn.rt v H' from q) v G1 H1 g1 a1
        | er nn => cases hmm; exact fun G1 H1 g1 => q σ G1 H1 g1
end
/-! ### defs -/
/-- a def of the text as it stands behind the top, its code object at c -/
structure FunC (K : PySem.W.Frag) (x qual : Str) (st : Stmt) (f : Addr) (fd : FuncData) (c : Addr) : Prop where
  ex : ∃ (oc : Value) (od : Option Addr) (kV doc pm : Value) (an : Option Addr) (ct : Value) (osl : Array (Option Value)),
    fd = PySem.W.fnOf x qual (defArgs st) (defBody st) (defScope st) .none kV doc pm an (.ref c) ct ∧ K.lookup f = some ⟨oc, od, .func fd, osl⟩ ∧ PySem.W.codeIn K (.ref c) qual = true
  kp : PySem.W.keepIn K (.ref f) = true
theorem FunC.F {K : PySem.W.Frag} {x qual : Str} {st : Stmt} {f c : Addr} {fd : FuncData} (F : FunC K x qual st f fd c) : Fun K x qual st f fd := by
  obtain ⟨oc, od, kV, doc, pm, an, ct, osl, h1, h2, h3⟩ := F.ex
  exact ⟨⟨oc, od, kV, doc, pm, an, _, ct, osl, h1, h2, h3⟩, F.kp⟩
theorem funC_mk {K : PySem.W.Frag} {x qual : Str} {st : Stmt} {f c : Addr} {oc : Value} {od an : Option Addr} {osl : Array (Option Value)} {kV doc pm ct : Value} (l : K.lookup f = some ⟨oc, od, .func (PySem.W.fnOf x qual (defArgs st) (defBody st) (defScope st) .none kV doc pm an (.ref c) ct), osl⟩)
    (h : PySem.W.codeIn K (.ref c) qual = true) (k : PySem.W.keepIn K (.ref f) = true) : FunC K x qual st f (PySem.W.fnOf x qual (defArgs st) (defBody st) (defScope st) .none kV doc pm an (.ref c) ct) c := ⟨⟨oc, od, kV, doc, pm, an, ct, osl, rfl, l, h⟩, k⟩
def startD (N : Nat) (ds : List D) : Env := ds.map some ++ List.replicate (N - ds.length) none
theorem rep_start {K : PySem.W.Frag} {G : Hp} {ds : List D} {vs : List V} (N : List Str) (h : Ats K G ds vs) : Rep K G (L2.start N vs) (startD N.length ds) := by
  have hl := h.length
  refine ⟨by unfold L2.start startD; simp [hl], fun i d hi => ?_⟩
  unfold startD at hi
  unfold L2.start
  by_cases hlt : i < ds.length
  · rw [List.getElem?_append_left (by simpa using hlt), List.getElem?_map] at hi
    cases q : ds[i]? with
    | none => rw [q] at hi; cases hi
    | some d' =>
      rw [q] at hi
      cases hi
      obtain ⟨v, h1, h2⟩ := h.get q
      exact ⟨v, by rw [List.getElem?_append_left (by simp [hl]; exact hlt), List.getElem?_map, h1]; rfl, h2⟩
  · rw [List.getElem?_append_right (by simpa using Nat.le_of_not_lt hlt), List.getElem?_replicate] at hi
    split at hi <;> cases hi
def outD : Out → Option D
  | .nx _ => some .non
  | .rt d => some d
  | _ => none
def outR : Out → Option Res
  | .nx _ => some (.ok .non)
  | .rt d => some (.ok d)
  | .ex n => some (.er n)
  | _ => none
def fnD (N : Nat) (m : SM) : List D → Option D := fun ds => (m (startD N ds)).bind outD
def fnR (N : Nat) (m : SM) : List D → Option Res := fun ds => (m (startD N ds)).bind outR
section
variable {P : Program} {w : World} {K : PySem.W.Frag} {mg : Str → Option Value} {base : Heap} {x qual : Str} {st : Stmt} {f c : Addr} {fd : FuncData} {N ps : List Str} {k : Nat} {L : List Addr} {nw : Bool} {m : SM} {O' : Ow}
theorem FunC.okD (F : FunC K x qual st f fd c) (S : FnScope N ps (defScope st))
    (hbody : ∀ (A : Around) (outer : List _root_.PySem.Env) (s : Shared) (H : Hp) (E : XK), Room k (A.deeper (envOfC qual (defScope st) s.heap.objs.size f (.ref c))) →
      PSsO (cxOf CX0 P w K mg base N qual (defScope st) f (.ref c) A outer s H E).nox L nw W0 [] [] O' (defBody st) m) : FnOk P w K mg base CX0 (k + 1) f fd ps (spPN K L nw ps.length (fnD N.length m)) := by
  obtain ⟨oc, od, kV, doc, pm, an, ct, osl, rfl, lk, hcd⟩ := F.ex
  refine fn_of lk hcd S (fun vs H Q E ⟨G, ds, d, _, _, hn, ha, _, _⟩ => by rw [ha.length, hn]) fun A outer s H vs Q E hr hsp => ⟨_, PSs.nox (hbody A outer s H E hr), ?_⟩
  obtain ⟨G, ds, d, hs, ht, hn, ha, hg, q⟩ := hsp
  unfold fnD at hg
  cases k1 : m (startD N.length ds) with
  | none => rw [k1] at hg; cases hg
  | some o =>
    rw [k1] at hg
    refine ⟨G, H, startD N.length ds, o, ⟨G, .refl hs, .of (rep_start N ha)⟩, ht, k1, ?_⟩
    cases o with
    | nx ρ =>
      cases hg
      cases nw with
      | true => exact fun σ' H' ⟨G', g, _⟩ => (show ∀ v G' H' A, Gr L G H G' H' → Own K G' H' .non .all v A → Fresh H G' A → Q v H' from q) .non G' H' [] g ⟨rfl, rfl⟩ .nil
      | false => exact fun σ' H' ⟨G', g, _⟩ => (show ∀ v G' H', Gr L G H G' H' → At K G' .non v → Q v H' from q) .non G' H' g rfl
    | rt d' => cases hg; exact q
    | bk ρ => cases hg
    | ct ρ => cases hg
    | ex n => cases hg
theorem FunC.okR {cls : Str → Addr} (F : FunC K x qual st f fd c) (S : FnScope N ps (defScope st))
    (hbody : ∀ (A : Around) (outer : List _root_.PySem.Env) (s : Shared) (H : Hp) (E : XK), Room k (A.deeper (envOfC qual (defScope st) s.heap.objs.size f (.ref c))) →
      PSsO (cxOf (L2.CX P w) P w K mg base N qual (defScope st) f (.ref c) A outer s H E) L nw (WofN cls fun cv d _ H' => E cv d H') [] [] O' (defBody st) m) : FnOk P w K mg base (L2.CX P w) (k + 1) f fd ps (spR K L nw cls ps.length (fnR N.length m)) := by
  obtain ⟨oc, od, kV, doc, pm, an, ct, osl, rfl, lk, hcd⟩ := F.ex
  refine fn_of lk hcd S (fun vs H Q E ⟨G, ds, d, _, _, hn, ha, _, _⟩ => by rw [ha.length, hn]) fun A outer s H vs Q E hr hsp => ⟨_, hbody A outer s H E hr, ?_⟩
  obtain ⟨G, ds, r, hs, ht, hn, ha, hg, q⟩ := hsp
  unfold fnR at hg
  cases k1 : m (startD N.length ds) with
  | none => rw [k1] at hg; cases hg
  | some o =>
    rw [k1] at hg
    refine ⟨G, H, startD N.length ds, o, ⟨G, .refl hs, .of (rep_start N ha)⟩, ht, k1, ?_⟩
    cases o with
    | nx ρ =>
      cases hg
      cases nw with
      | true => exact fun σ' H' ⟨G', g, _⟩ => (show ∀ v G' H' A, Gr L G H G' H' → Own K G' H' .non .all v A → Fresh H G' A → Q v H' from q) .non G' H' [] g ⟨rfl, rfl⟩ .nil
      | false => exact fun σ' H' ⟨G', g, _⟩ => (show ∀ v G' H', Gr L G H G' H' → At K G' .non v → Q v H' from q) .non G' H' g rfl
    | rt d' => cases hg; exact q
    | bk ρ => cases hg
    | ct ρ => cases hg
    | ex n => cases hg; exact fun σ' G' H' g => q G' H' g
end

/-! ### new lists -/
section
variable {X : Cx} {L : List Addr} {e : Expr} {pos : Pos} {m : DM}
theorem pdw_call {k n : Nat} {f : Addr} {fd : FuncData} {ps : List Str} {g : List D → Option D} {x : Str} {p : Pos} {es : List Expr} {m : _root_.DN.Env → Option (List D)} (F : FnOk X.prog X.w X.K X.mg X.base CX0 k f fd ps (spPN X.K L true n g)) (hr : Room k X.A) (hg : Gl X x) (hm : X.mg x = some (.ref f)) (hk : PySem.W.keepIn X.K (.ref f) = true) (hb : Binds X.K fd ps [])
    (ha : PAD X L (e :: es) m) (hn : ∀ ρ ds, m ρ = some ds → ds.length = n) (hdb : (x == ("__debug__" : Str)) = false := by decide) (he : starEach (e :: es) X.env = (false, eval e X.env) :: starEach es X.env := by rfl) (hpl : (backTo pos (starEach es X.env)).any (·.1) = false := by rfl) :
    PDW X L (.Call (.Name x p) (e :: es) [] pos) (dFn g m) :=
  PE.imp (pe_call (dvs := []) (E := E0) F hr hg hm hk hb .nil pass0 ha hdb he hpl) fun σ H Q ⟨G, ρ, d, hs, hR, ht, hmm, q⟩ => by
    unfold dFn at hmm
    cases h1 : m ρ with
    | none => rw [h1] at hmm; cases hmm
    | some ds =>
      rw [h1] at hmm
      refine ⟨G, ρ, ds, hs, hR, ht, h1, fun xs G1 H1 g1 a1 => ?_⟩
      show spPN X.K L true n g (xs ++ []) H1 Q E0
      rw [List.append_nil]
      exact ⟨G1, ds, d, g1.sub, ht.ext g1.ext, hn ρ ds h1, a1, hmm, fun v G3 H3 A g3 o3 f3 => q v G3 H3 A (g1.trans g3) o3 ⟨f3.nd, f3.out, fun x hx => g1.ext.dom x (f3.nw x hx)⟩⟩
theorem pdn_lc {tg iter elt : Expr} {ifs : List Expr} {scope : Scope} {own : List (Str × Nat)} {mi : _root_.DN.Env → Option (List D)} {bd : D → _root_.DN.Env → Option _root_.DN.Env} {tt : _root_.DN.Env → Option Bool} {me : DM} {g : TG} (hc : X.calm = true) (hN : X.N.Nodup) (hi : PID X L tg iter mi) (ok : BlkOk X.N X.env.scope scope own) (hgd : GdOk X.K (own.map (·.2)) g bd)
    (hg : ∀ (s : Shared) (H : Hp) (C : Addr) (cl : List (Str × Addr)) (fp : List Addr), PG (X.blk s H scope (compEnvC scope cl C X.env) fp) tg g) (ht : ∀ (s : Shared) (H : Hp) (C : Addr) (cl : List (Str × Addr)) (fp : List Addr), PTs (X.blk s H scope (compEnvC scope cl C X.env) fp) ifs (tPT X.K L tt))
    (he : ∀ (s : Shared) (H : Hp) (C : Addr) (cl : List (Str × Addr)) (fp : List Addr), PD (X.blk s H scope (compEnvC scope cl C X.env) fp) L elt me) (hs : ∀ x, foldedSetIterable iter X.env x = pure x := by intro _; rfl) :
    PDN X L (.ListComp elt [⟨tg, iter, ifs, 0⟩] scope pos) (dLc (own.map (·.2)) mi bd tt me) := PE.imp (pe_lc (te := tP X.K L me) hc hN hi ok hg ht he hs) (lc_impN hgd)
theorem pdn_non {j : Nat} : PDN X L (.Constant .none j pos) (dC .non) := PE.imp pe_non fun σ H Q ⟨G, ρ, d, hs, hr, ht, hm, q⟩ => by cases hm; exact q _ G H (.refl hs) rfl fun ds e => nomatch e
theorem pdn_lst {es : List Expr} {m : _root_.DN.Env → Option (List D)} (ha : PAD X L es m) (hl : ∀ ρ ds, m ρ = some ds → ds.length ≤ sizeLine) : PDN X L (.List es pos) (dFn (fun ds => some (.lst ds)) m) :=
  PE.imp (pe_lst ha) fun σ H Q ⟨G, ρ, d, hs, hR, ht, hm, q⟩ => by
    unfold dFn at hm
    cases h1 : m ρ with
    | none => rw [h1] at hm; cases hm
    | some ds =>
      rw [h1] at hm
      cases hm
      exact ⟨G, ρ, ds, hs, hR, ht, h1, fun xs G1 H1 g1 a1 => ⟨by rw [a1.length]; exact hl ρ ds h1, fun p hp => q _ (upd G1 p (.lst xs)) _ (g1.trans (.lay g1.sub hp fun ps z => by cases z)) ⟨p, xs, rfl, upd_same, a1.mono fun a o e => by
        rw [upd_ne (ne_of_none (g1.sub a o e).1 hp)]; exact e⟩ fun _ _ => ⟨p, rfl, g1.ext.dom p hp⟩⟩⟩
end
end DN
namespace DN
open PySem PySem.Spec PyProof.Rows L2
def okOf (g : List D → Option Res) : List D → Option D := fun ds => (g ds).bind fun | .ok d => some d | .er _ => none
/-- a def that may raise, where it does not -/
theorem FnOk.calm {P : Program} {w : World} {K : PySem.W.Frag} {mg : Str → Option Value} {base : Heap} {k n : Nat} {f : Addr} {fd : FuncData} {ps : List Str} {L : List Addr} {nw : Bool} {cls : Str → Addr} {g : List D → Option Res} (F : FnOk P w K mg base (L2.CX P w) k f fd ps (spR K L nw cls n g)) :
    FnOk P w K mg base CX0 k f fd ps (spPN K L nw n (okOf g)) := by
  have conv : ∀ vs H Q E, spPN K L nw n (okOf g) vs H Q E → spR K L nw cls n g vs H Q fun _ _ _ => False := fun vs H Q E ⟨G, ds, d, hs, ht, hn, ha, hg, q⟩ => by
    unfold okOf at hg
    cases k1 : g ds with
    | none => rw [k1] at hg; cases hg
    | some r =>
      rw [k1] at hg
      cases r with
      | er n => cases hg
      | ok d' =>
        obtain rfl : d' = d := Option.some.inj hg
        exact ⟨G, ds, .ok d', hs, ht, hn, ha, k1, q⟩
  refine ⟨fun vs H Q E h => F.len vs H Q _ (conv vs H Q E h), fun A outer s H ar us vs Q E hr e0 hb r h => codeAny_mono (F.run A outer s H ar us vs Q _ hr e0 hb r (conv vs H Q E h)) fun r s' z => ?_⟩
  cases r with
  | error e => exact let ⟨_, _, _, _, _, _, _, _, _, _, _, _, x⟩ := z; x.elim
  | ok fl => cases fl <;> exact z
end DN

set_option Elab.async false
set_option linter.all false
set_option maxRecDepth 100000
set_option maxHeartbeats 2000000
/-! More of owned lists: lists of new lists, an owned list put into another, while. -/
namespace DN
open PySem PySem.Spec PyProof.Rows L2 GxR GX
section
variable {K : PySem.W.Frag} {L : List Addr} {vs : List Nat} {mi : Env → Option (List D)} {bd : D → Env → Option Env} {tt : Env → Option Bool} {me : DM} {g : TG}
theorem lcW_imp (hg : GdOk K vs g bd) : ∀ σ H Q, tPW K L (dLc vs mi bd tt me) σ H Q → tLc (tI K L mi) g (tPT K L tt) (tPW K L me) vs σ H Q := fun σ H Q ⟨G, ρ, d, hs, hR, ht, hm, q⟩ => by
  unfold dLc at hm
  cases h1 : mi ρ with
  | none => rw [h1] at hm; cases hm
  | some ds =>
    cases h2 : lcGo bd tt me (wipeD ρ vs) ds with
    | none => simp [h1, h2] at hm
    | some es =>
      simp only [h1, h2, Option.bind_some, Option.ite_none_right_eq_some, Option.some.injEq] at hm
      obtain ⟨hlen, rfl⟩ := hm
      refine ⟨G, ρ, ds, hs, hR, ht, h1, fun J G1 H1 g1 wk Dd hD => ?_⟩
      refine ⟨fun i m H' => m = ds.length - i ∧ i ≤ ds.length ∧ ∃ Gi acc accD A rest, Ext L H1 H' ∧ Gr L G H Gi H' ∧ Gi Dd = none ∧ (∀ a o, G1 a = some o → Gi a = some o) ∧ H' Dd = some (.lst acc) ∧ Owns K Gi H' accD .all acc A ∧ A.Nodup ∧ (∀ a ∈ A, H1 a = none ∧ Gi a = none ∧ a ≠ Dd) ∧ accD.length ≤ i ∧ lcGo bd tt me (wipeD ρ vs) (ds.drop i) = some rest ∧ accD ++ rest = es,
        ⟨ds.length, by simp, Nat.zero_le _, G1, [], [], [], es, .new hD, g1.trans (.of g1.sub (.new hD)), g1.sub.none hD, fun _ _ e => e, upd_same, ⟨rfl, rfl⟩, List.nodup_nil, fun a h => (List.not_mem_nil h).elim, Nat.zero_le _, by rw [List.drop_zero]; exact h2, List.nil_append _⟩, ?_⟩
      rintro i m H' ⟨rfl, hi, Gi, acc, accD, A, rest, e1, gi, nD, up, hDl, ta, nd, fr, hla, hgo, hes⟩
      have s1 : Sub G1 H' := fun a o e => gi.sub a o (up a o e)
      by_cases hlt : i < ds.length
      · refine .inr ?_
        obtain ⟨w1, _⟩ := wk H' s1
        obtain ⟨go, yl⟩ := w1 i ds[i] (List.getElem?_eq_getElem hlt)
        refine ⟨go, fun H5 => ∃ Gi acc accD A rest, Ext L H1 H5 ∧ Gr L G H Gi H5 ∧ Gi Dd = none ∧ (∀ a o, G1 a = some o → Gi a = some o) ∧ H5 Dd = some (.lst acc) ∧ Owns K Gi H5 accD .all acc A ∧ A.Nodup ∧ (∀ a ∈ A, H1 a = none ∧ Gi a = none ∧ a ≠ Dd) ∧ accD.length ≤ i + 1 ∧ lcGo bd tt me (wipeD ρ vs) (ds.drop (i + 1)) = some rest ∧ accD ++ rest = es,
          fun H5 h5 => ⟨_, by omega, rfl, hlt, h5⟩, fun x H3 hy => ?_⟩
        obtain ⟨G3, g3, a3⟩ := yl x H3 hy Gi gi.sub up
        have hR3 : Rep K G3 (wipe σ vs) (wipeD ρ vs) := (hR.wipe vs).mono fun a o e => g3.up a o (gi.up a o e)
        rw [List.drop_eq_getElem_cons hlt] at hgo
        unfold lcGo at hgo
        cases k1 : bd ds[i] (wipeD ρ vs) with
        | none => rw [k1] at hgo; cases hgo
        | some ρ1 =>
          cases k2 : tt ρ1 with
          | none => simp [k1, k2] at hgo
          | some b =>
            -- what comes behind H' leaves the list and what it holds
            have outD : ∀ G4 H4, Gr L Gi H' G4 H4 → G4 Dd = none ∧ H4 Dd = some (.lst acc) ∧ Owns K G4 H4 accD .all acc A ∧ ∀ a ∈ A, H1 a = none ∧ G4 a = none ∧ a ≠ Dd := fun G4 H4 g4 => by
              have out : ∀ a, Gi a = none → H' a ≠ none → G4 a = none := fun a h h' => by
                cases z : G4 a with
                | none => rfl
                | some o =>
                  rcases g4.new a (by rw [z]; simp) with y | y
                  · exact absurd h y
                  · exact absurd y h'
              refine ⟨out Dd nD (by rw [hDl]; simp), g4.ext.keep _ _ hDl (fun ps z => by cases z), Owns.keep g4.up (fun a _ o ho n => g4.ext.keep a o ho n) ta, fun a ha => ⟨(fr a ha).1, out a (fr a ha).2.1 ?_, (fr a ha).2.2⟩⟩
              obtain ⟨o, ho, _⟩ := Owns.sm ta a ha
              rw [ho]; simp
            refine hg G3 H3 (wipe σ vs) (wipeD ρ vs) ρ1 ds[i] x _ g3.sub hR3 a3 k1 fun σ1 hR1 hl1 hw1 => ⟨by rw [hw1, wipe_wipe], G3, ρ1, b, g3.sub, hR1, (ht.ext g1.ext).ext (e1.trans g3.ext), k2, fun G4 H4 g4 => ?_⟩
            have g34 := g3.trans g4
            cases b with
            | false =>
              simp only [k1, k2, Option.bind_some, Bool.false_eq_true, if_false] at hgo ⊢
              obtain ⟨s3, s6, s7, s8⟩ := outD G4 H4 g34
              exact ⟨G4, acc, accD, A, rest, e1.trans g34.ext, gi.trans g34, s3, fun a o e => g34.up a o (up a o e), s6, s7, nd, s8, by omega, hgo, hes⟩
            | true =>
              simp only [k1, k2, Option.bind_some, if_true] at hgo ⊢
              cases k3 : me ρ1 with
              | none => rw [k3] at hgo; cases hgo
              | some y =>
                cases k4 : lcGo bd tt me (wipeD ρ vs) (ds.drop (i + 1)) with
                | none => simp [k3, k4] at hgo
                | some ys =>
                  simp only [k3, k4, Option.bind_some, Option.some.injEq] at hgo
                  subst hgo
                  refine ⟨G4, ρ1, y, g4.sub, hR1.mono g4.up, (ht.ext g1.ext).ext (e1.trans g34.ext), k3, fun v G5 H5 A5 g5 o5 f5 => ?_⟩
                  have g4' : Gr L G4 H4 G4 H5 := .of g4.sub g5.ext
                  have g345 := g34.trans g4'
                  obtain ⟨s3, s6, s7, s8⟩ := outD G4 H5 g345
                  have n5 : ∀ a ∈ A5, H4 a = none := f5.nw
                  have nD5 : Dd ∉ A5 := fun z => by
                    have := (outD G4 H4 g34).2.1
                    rw [n5 Dd z] at this
                    cases this
                  have dis : ∀ a ∈ A, a ∉ A5 := fun a ha z => by
                    obtain ⟨o, ho, _⟩ := Owns.sm (outD G4 H4 g34).2.2.1 a ha
                    rw [n5 a z] at ho
                    cases ho
                  have hne : ∀ a, a ≠ Dd → upd H5 Dd (.lst (acc ++ [v])) a = H5 a := fun a h => upd_ne h
                  refine ⟨acc, s6, ?_, G4, acc ++ [v], accD ++ [y], A ++ A5, ys, (e1.trans g345.ext).mut hD, ?_, s3, fun a o e => g34.up a o (up a o e), upd_same, ?_, ?_, fun a ha => ?_, by rw [List.length_append, List.length_singleton]; omega, rfl, by rw [List.append_assoc]; exact hes⟩
                  · rw [ta.length]
                    exact Nat.lt_of_le_of_lt hla (Nat.lt_trans hlt (Nat.lt_of_lt_of_le hlen (by decide)))
                  · exact (gi.trans g345).put s3 (g1.ext.dom _ hD)
                  · refine (Owns.keep (fun _ _ z => z) (fun a ha o ho _ => ?_) s7).app (.one (Own.keep (fun _ _ z => z) (fun a ha o ho _ => ?_) (Own.move o5)))
                    · rw [hne a (s8 a ha).2.2]; exact ho
                    · rw [hne a fun z => nD5 (by rw [← z]; exact ha)]; exact ho
                  · exact List.nodup_append.mpr ⟨nd, f5.nd, fun a ha b hb z => dis a ha (by rw [z]; exact hb)⟩
                  · rcases List.mem_append.mp ha with ha | ha
                    · exact s8 a ha
                    · exact ⟨(e1.trans g34.ext).dom a (n5 a ha), g4.sub.none (n5 a ha), fun z => nD5 (by rw [← z]; exact ha)⟩
      · have hi' : i = ds.length := by omega
        subst hi'
        obtain ⟨_, w2⟩ := wk H' s1
        refine .inl ⟨w2 _ (Nat.le_refl _), ?_⟩
        rw [List.drop_of_length_le (Nat.le_refl _)] at hgo
        cases hgo
        rw [List.append_nil] at hes
        subst hes
        refine q (.ref Dd) Gi H' (Dd :: A) gi (.inr (.inr ⟨.all, Dd, acc, A, rfl, rfl, hDl, rfl, ta⟩)) ⟨List.nodup_cons.mpr ⟨fun z => (fr Dd z).2.2 rfl, nd⟩, fun a ha => ?_, fun a ha => ?_⟩
        · rcases List.mem_cons.mp ha with rfl | ha
          · exact nD
          · exact (fr a ha).2.1
        · rcases List.mem_cons.mp ha with rfl | ha
          · exact g1.ext.dom _ hD
          · exact g1.ext.dom _ (fr a ha).1
end
section
variable {X : Cx} {L : List Addr} {nw : Bool} {W : WN} {Ol O O' : Ow} {pos : Pos} {e : Expr} {m : DM}
theorem pdw_lc {tg iter elt : Expr} {ifs : List Expr} {scope : Scope} {own : List (Str × Nat)} {mi : _root_.DN.Env → Option (List D)} {bd : D → _root_.DN.Env → Option _root_.DN.Env} {tt : _root_.DN.Env → Option Bool} {me : DM} {g : TG} (hc : X.calm = true) (hN : X.N.Nodup) (hi : PID X L tg iter mi) (ok : BlkOk X.N X.env.scope scope own) (hgd : GdOk X.K (own.map (·.2)) g bd)
    (hg : ∀ (s : Shared) (H : Hp) (C : Addr) (cl : List (Str × Addr)) (fp : List Addr), PG (X.blk s H scope (compEnvC scope cl C X.env) fp) tg g) (ht : ∀ (s : Shared) (H : Hp) (C : Addr) (cl : List (Str × Addr)) (fp : List Addr), PTs (X.blk s H scope (compEnvC scope cl C X.env) fp) ifs (tPT X.K L tt))
    (he : ∀ (s : Shared) (H : Hp) (C : Addr) (cl : List (Str × Addr)) (fp : List Addr), PDW (X.blk s H scope (compEnvC scope cl C X.env) fp) L elt me) (hs : ∀ x, foldedSetIterable iter X.env x = pure x := by intro _; rfl) :
    PDW X L (.ListComp elt [⟨tg, iter, ifs, 0⟩] scope pos) (dLc (own.map (·.2)) mi bd tt me) := PE.imp (pe_lc (te := tPW X.K L me) hc hN hi ok hg ht he hs) (lcW_imp hgd)
theorem so_newWLc {i : Nat} {y : Str} {py : Pos} {elt tg iter : Expr} {ifs : List Expr} {scope : Scope} {own : List (Str × Nat)} {lpos spos : Pos} {mi : _root_.DN.Env → Option (List D)} {bd : D → _root_.DN.Env → Option _root_.DN.Env} {tt : _root_.DN.Env → Option Bool} {me : DM} {g : TG} (hc : X.calm = true) (hN : X.N.Nodup) (hy : X.N[i]? = some y) (hyl : X.env.scope.names.lookup y = some .local)
    (hsw : swapsWith (.ListComp elt [⟨tg, iter, ifs, 0⟩] scope lpos) (some (.Name y py)) spos.line X.env = pure true) (hi : PID X L tg iter mi) (ok : BlkOk X.N X.env.scope scope own) (hgd : GdOk X.K (own.map (·.2)) g bd)
    (hg : ∀ (s : Shared) (H : Hp) (C : Addr) (cl : List (Str × Addr)) (fp : List Addr), PG (X.blk s H scope (compEnvC scope cl C X.env) fp) tg g) (ht : ∀ (s : Shared) (H : Hp) (C : Addr) (cl : List (Str × Addr)) (fp : List Addr), PTs (X.blk s H scope (compEnvC scope cl C X.env) fp) ifs (tPT X.K L tt))
    (he : ∀ (s : Shared) (H : Hp) (C : Addr) (cl : List (Str × Addr)) (fp : List Addr), PDW (X.blk s H scope (compEnvC scope cl C X.env) fp) L elt me) (hs : ∀ x, foldedSetIterable iter X.env x = pure x := by intro _; rfl) :
    PSO X L nw W Ol O ((i, .all) :: rm i O) (.Assign [.Name y py] (.ListComp elt [⟨tg, iter, ifs, 0⟩] scope lpos) spos) (sSet i (dLc (own.map (·.2)) mi bd tt me)) := PS.imp (ps_setLc (te := tPW X.K L me) hc hN hy hyl hsw hi ok hg ht he hs) fun Dn σ H ⟨G0, H0, ρ, o, ⟨G, g, R⟩, ht, hm, q⟩ => by
  unfold sSet at hm
  cases k1 : dLc (own.map (·.2)) mi bd tt me ρ with
  | none => rw [k1] at hm; cases hm
  | some d =>
    rw [k1] at hm
    cases hm
    obtain ⟨Gv, gv, Rv, _⟩ := R.view g
    exact lcW_imp hgd σ H _ ⟨Gv, ρ, d, gv.sub, Rv, ht.ext g.ext, k1, fun v G1 H1 A g1 o1 f1 => q _ H1 (newO g R g1.ext o1.move f1.nd f1.nw)⟩
/-- list(e) is new -/
theorem pdn_listC {x : Expr} {p : Pos} {ma : DM} (hg : Gl X "list") (hm : X.mg "list" = none) (ha : PD X L x ma) (he : starEach [x] X.env = (false, eval x X.env) :: starEach [] X.env := by rfl) : PDN X L (.Call (.Name "list" p) [x] [] pos) (dFn gList (dCons ma dNil)) :=
  PE.imp (pe_callTy call_list_of hg hm (by decide +kernel) (pa_cons ha pa_nil he) (he := he)) fun σ H Q ⟨G, ρ, d, hs, hR, ht, hmm, q⟩ => by
    unfold dFn dCons dNil at hmm
    cases h1 : ma ρ with
    | none => rw [h1] at hmm; cases hmm
    | some d1 =>
      rw [h1] at hmm
      refine ⟨G, ρ, d1, hs, hR, ht, h1, fun x G1 H1 g1 a1 => ?_⟩
      have hq : ∀ ds, d = .lst ds → ∀ ys, Ats X.K G1 ds ys → ∀ l, H1 l = none → Q (.ref l) (upd H1 l (.lst ys)) := fun ds hd ys t l hl => by
        subst hd
        exact q _ (upd G1 l (.lst ys)) _ (g1.trans (.lay g1.sub hl fun ps e => by cases e)) ⟨l, ys, rfl, upd_same, t.mono fun a o e => by rw [upd_ne (ne_of_none (g1.sub a o e).1 hl)]; exact e⟩ fun _ _ => ⟨l, rfl, g1.ext.dom l hl⟩
      have hmm : hList d1 = some d := hmm
      cases d1 <;> simp only [hList, reduceCtorEq, Option.some.injEq] at hmm
      · obtain ⟨p, ys, rfl, h2, t2⟩ := a1
        exact ⟨p, ys, rfl, .inl (SqL.of (g1.sub _ _ h2).1), hq _ hmm.symm ys t2⟩
      · obtain ⟨p, ys, rfl, h2, t2⟩ := a1
        exact ⟨p, ys, rfl, .inr (SqT.of (g1.sub _ _ h2).1), hq _ hmm.symm ys t2⟩
      · obtain ⟨p, rfl, h2⟩ := a1
        exact ⟨p, _, rfl, .inl (scr_read g1.sub h2), hq _ hmm.symm _ (ats_ints _)⟩
/-! while -/
def whGo (c : _root_.DN.Env → Option Bool) (b : SM) : Nat → _root_.DN.Env → Option Out
  | 0, _ => none
  | n + 1, ρ => (c ρ).bind fun k => if k = true then (b ρ).bind fun
    | .nx ρ' => whGo c b n ρ'
    | .ct ρ' => whGo c b n ρ'
    | .bk ρ' => some (.nx ρ')
    | o => some o
    else some (.nx ρ)
theorem so_while {c : Expr} {body : List Stmt} {tc : _root_.DN.Env → Option Bool} {b : SM} {n : Nat} (hp : PassesOwn (model X.prog X.w) X.A X.env X.xe) (hc : PTD X L c tc) (hb : PSsO X L nw W O O O body b) : PSO X L nw W Ol O O (.While c body [] pos) (whGo tc b n) := PS.imp (ps_while hp hc hb) fun Dn σ H ⟨G0, H0, ρ, o, hS, ht, hm, q⟩ => by
  refine ⟨fun k σ' H' => ∃ ρ', StO X.K L G0 H0 O σ' H' ρ' ∧ whGo tc b k ρ' = some o, ⟨n, ρ, hS, hm⟩, fun k σ' H' ⟨ρ', ⟨G, g, R⟩, hk⟩ => ?_⟩
  cases k with
  | zero => cases hk
  | succ k =>
    unfold whGo at hk
    cases k1 : tc ρ' with
    | none => rw [k1] at hk; cases hk
    | some t =>
      rw [k1] at hk
      refine viewT g R ht k1 fun H1 g1 => ?_
      cases t with
      | false => cases hk; exact q σ' H1 ⟨G, g.trans g1, R.gr g1⟩
      | true =>
        simp only [Option.bind_some, if_true] at hk ⊢
        cases k2 : b ρ' with
        | none => rw [k2] at hk; cases hk
        | some o1 =>
          rw [k2] at hk
          refine ⟨fun σ5 H5 => ∃ ρ5, StO X.K L G0 H0 O σ5 H5 ρ5 ∧ whGo tc b k ρ5 = some o, fun σ5 H5 h5 => ⟨k, Nat.lt_succ_self _, h5⟩, G0, H0, ρ', o1, ⟨G, g.trans g1, R.gr g1⟩, ht, k2, ?_⟩
          cases o1 with
          | nx ρ2 => exact fun σ4 H4 h4 => ⟨ρ2, h4, hk⟩
          | ct ρ2 => exact fun σ4 H4 h4 => ⟨ρ2, h4, hk⟩
          | bk ρ2 => cases hk; exact q
          | rt d => cases hk; exact q
          | ex nn => cases hk; exact q
end
end DN

set_option Elab.async false
set_option linter.all false
set_option maxRecDepth 100000
set_option maxHeartbeats 2000000
/-! An owned list put into another; all lists of an owned list grown by one. -/
namespace DN
open PySem PySem.Spec PyProof.Rows L2 GxR GX
section
variable {K : PySem.W.Frag} {L : List Addr} {H0 G0 G H G1 H1 : Hp} {O : Ow} {σ : L2.St} {ρ : Env}
/-- an owned value put behind an owned list -/
theorem RepO.mv {i j : Nat} {b c : Kd} {a : Addr} {ds : List D} {xs : List V} {d : D} {y : V} (R : RepO K H0 G H O σ ρ) (hO : (ks O).Nodup) (hi : (i, b) ∈ O) (hj : (j, c) ∈ O) (hij : i ≠ j) (hbc : kids b = some c) (e : ρ[i]? = some (some (.lst ds))) (ej : ρ[j]? = some (some d)) (ha : σ[i]? = some (some (.ref a))) (hx : H a = some (.lst xs)) (hy : σ[j]? = some (some y)) :
    RepO K H0 G (upd H a (.lst (xs ++ [y]))) (rm j O) σ ((ρ.set j none).set i (some (.lst (ds ++ [d])))) := by
  obtain ⟨ft, h1, h2, h3⟩ := R.ow
  obtain ⟨v, k1, k2⟩ := h1 (i, b) hi _ e
  rw [ha] at k1
  cases k1
  obtain ⟨a', xs', B, e1, e2, e3, e4⟩ := k2.list hbc
  cases e1
  rw [hx] at e2
  cases e2
  obtain ⟨u, l1, l2⟩ := h1 (j, c) hj _ ej
  rw [hy] at l1
  cases l1
  have hl : i < ρ.length := (List.getElem?_eq_some_iff.mp e).1
  have e3' : ft i = a :: B := e3
  have fi := (h2 (i, b) hi).1
  have fj := (h2 (j, c) hj).1
  have nB : a ∉ B := fun z => by
    have := fi.nd
    rw [e3'] at this
    exact (List.nodup_cons.mp this).1 z
  have nJ : a ∉ ft j := h3 (i, b) hi (j, c) hj hij a (by rw [e3']; exact List.mem_cons_self)
  have hH : ∀ x, x ≠ a → upd H a (.lst (xs ++ [y])) x = H x := fun x hx => upd_ne hx
  refine ⟨by rw [List.length_set, List.length_set]; exact R.len, fun k d' hk h => ?_, fun k => if k = i then ft i ++ ft j else ft k, fun p hp d' h => ?_, fun p hp => ?_, fun p hp q hq hpq x hx1 hx2 => ?_⟩
  · have hki : i ≠ k := fun z => hk (by rw [← z]; exact mem_ks (mem_rm.mpr ⟨hi, Ne.symm hij⟩))
    rw [List.getElem?_set_ne hki] at h
    rcases getset h with ⟨_, z, _⟩ | ⟨hjk, h⟩
    · cases z
    · refine R.pl k d' (fun z => hk ?_) h
      obtain ⟨w, hw⟩ := of_ks z
      exact mem_ks (mem_rm.mpr ⟨hw, hjk⟩)
  · obtain ⟨p1, p2⟩ := mem_rm.mp hp
    rcases getset h with ⟨hpi, q1, _⟩ | ⟨hki, h⟩
    · cases q1
      have := ow_uniq hO p1 hi hpi.symm
      subst this
      refine ⟨.ref a, ha, ?_⟩
      · simp only [if_true]
        refine .inr (.inr ⟨c, a, xs ++ [y], B ++ ft j, hbc, rfl, upd_same, by rw [e3', List.cons_append], ?_⟩)
        refine (Owns.keep (fun _ _ z => z) (fun x hxB o ho _ => by rw [hH x fun z => nB (by rw [← z]; exact hxB)]; exact ho) e4).app (.one (Own.keep (fun _ _ z => z) (fun x hxJ o ho _ => by rw [hH x fun z => nJ (by rw [← z]; exact hxJ)]; exact ho) l2))
    · rcases getset h with ⟨_, z, _⟩ | ⟨_, h⟩
      · cases z
      · obtain ⟨w, q1, q2⟩ := h1 p p1 d' h
        have nA : a ∉ ft p.1 := fun z => h3 (i, b) hi p p1 hki a (by rw [e3']; exact List.mem_cons_self) z
        simp only [if_neg (Ne.symm hki)]
        exact ⟨w, q1, Own.keep (fun _ _ z => z) (fun x hxA o ho _ => by rw [hH x fun z => nA (by rw [← z]; exact hxA)]; exact ho) q2⟩
  · obtain ⟨p1, p2⟩ := mem_rm.mp hp
    have some_ : ∀ x, (∃ o, H x = some o ∧ ∀ ps, o ≠ .tbl ps) → ∃ o, upd H a (.lst (xs ++ [y])) x = some o ∧ ∀ ps, o ≠ .tbl ps := fun x hx => by
      by_cases hxa : x = a
      · subst hxa; exact ⟨_, upd_same, fun ps z => by cases z⟩
      · rw [hH x hxa]; exact hx
    by_cases hpi : p.1 = i
    · simp only [if_pos hpi]
      refine ⟨⟨List.nodup_append.mpr ⟨fi.nd, fj.nd, fun x hx1 x2 hx2 z => h3 (i, b) hi (j, c) hj hij x hx1 (by rw [z]; exact hx2)⟩, fun x hx => ?_, fun x hx => ?_⟩, fun x hx => some_ x ?_⟩
      · exact (List.mem_append.mp hx).elim (fi.out x) (fj.out x)
      · exact (List.mem_append.mp hx).elim (fi.nw x) (fj.nw x)
      · exact (List.mem_append.mp hx).elim ((h2 (i, b) hi).2 x) ((h2 (j, c) hj).2 x)
    · simp only [if_neg hpi]
      exact ⟨(h2 p p1).1, fun x hx => some_ x ((h2 p p1).2 x hx)⟩
  · obtain ⟨p1, p2⟩ := mem_rm.mp hp
    obtain ⟨q1, q2⟩ := mem_rm.mp hq
    by_cases hpi : p.1 = i
    · have hqi : q.1 ≠ i := fun z => hpq (by rw [hpi, z])
      simp only [if_pos hpi, if_neg hqi] at hx1 hx2
      rcases List.mem_append.mp hx1 with z | z
      · exact h3 (i, b) hi q q1 (Ne.symm hqi) x z hx2
      · exact h3 (j, c) hj q q1 q2 x z hx2
    · by_cases hqi : q.1 = i
      · simp only [if_neg hpi, if_pos hqi] at hx1 hx2
        rcases List.mem_append.mp hx2 with z | z
        · exact h3 p p1 (i, b) hi hpi x hx1 z
        · exact h3 p p1 (j, c) hj (Ne.symm p2) x hx1 z
      · simp only [if_neg hpi, if_neg hqi] at hx1 hx2
        exact h3 p p1 q q1 hpq x hx1 hx2
end
section
variable {X : Cx} {L : List Addr} {nw : Bool} {W : WN} {Ol O : Ow} {pos : Pos}
/-- name.append(other), both owned -/
theorem so_appO {i j : Nat} {b c : Kd} {x y : Str} {p' p2 apos cpos : Pos} (hO : (ks O).Nodup) (hi : (i, b) ∈ O) (hj : (j, c) ∈ O) (hij : i ≠ j) (hbc : kids b = some c) (hx : PE X (.Name x p') (tVar i)) (hy : PE X (.Name y p2) (tVar j)) (hbase : attributeBase (.Name x p') "append" X.env (eval (.Name x p') X.env) = eval (.Name x p') X.env := by rfl)
    (hfew : ((backTo cpos (starEach ([.Name y p2] : List Expr) X.env)).all (fun x => !x.1) && (backToKw cpos (keywordEach [] X.env)).all (fun x => x.1.isSome) && decide (([.Name y p2] : List Expr).length + ([] : List Keyword).length + (if ([] : List Keyword).isEmpty then 0 else 1) < 30)) = true := by rfl)
    (hline : (apos.endLine == cpos.line) = true := by rfl) (hs : starEach ([.Name y p2] : List Expr) X.env = (false, eval (.Name y p2) X.env) :: starEach [] X.env := by rfl) (hsw : swapsWith (.Call (.Attribute (.Name x p') "append" apos) [.Name y p2] [] cpos) none pos.line X.env = pure false := by rfl) :
    PSO X L nw W Ol O (rm j O) (.Expr (.Call (.Attribute (.Name x p') "append" apos) [.Name y p2] [] cpos) pos) (sAppO i j) :=
  PS.imp (ps_expr (pe_bm PySem.F.plainAttrs_list PySem.F.slot_list_append PySem.F.type_list_append mt_append hx (pa_cons hy pa_nil hs) hbase hfew hline hs rfl) hsw) fun Dn σ H ⟨G0, H0, ρ, o, ⟨G, g, R⟩, ht, hm, q⟩ => by
    unfold sAppO at hm
    have ent : ∀ {k : Nat} {d : D}, (ρ[k]?).join = some d → ρ[k]? = some (some d) := fun {k d} h => by
      cases z : ρ[k]? with
      | none => rw [z] at h; cases h
      | some o => rw [z] at h; exact congrArg some h
    cases k1 : (ρ[j]?).join with
    | none => rw [k1] at hm; cases hm
    | some d =>
      cases k2 : (ρ[i]?).join with
      | none => simp [k1, k2] at hm
      | some dl =>
        simp only [k1, k2, Option.bind_some] at hm
        cases dl <;> simp only [reduceCtorEq, Option.ite_none_right_eq_some, Option.some.injEq] at hm
        rename_i ds
        obtain ⟨hl, rfl⟩ := hm
        obtain ⟨v, A, h1, h2, h4⟩ := R.get hi (ent k2)
        obtain ⟨a, xs, B, rfl, h6, h7, h8⟩ := h2.list hbc
        obtain ⟨u, A2, l1, l2, l4⟩ := R.get hj (ent k1)
        refine ⟨.ref a, h1, .inl ⟨rfl, xs, .inl (.inl h6)⟩, u, l1, a, xs, u, rfl, rfl, h6, ?_, q σ _ ⟨G, g.put (h4.out a (by rw [h7]; exact List.mem_cons_self)) (h4.nw a (by rw [h7]; exact List.mem_cons_self)), R.mv hO hi hj hij hbc (ent k2) (ent k1) h1 h6 l1⟩⟩
        rw [h8.length]
        exact Nat.lt_of_lt_of_le hl (by decide)
end
end DN

set_option Elab.async false
set_option linter.all false
set_option maxRecDepth 100000
set_option maxHeartbeats 2000000
/-! More expressions over plain data. -/
namespace DN
open PySem PySem.Spec PyProof.Rows L2 GxR GX
section
variable {K : PySem.W.Frag} {L : List Addr}
/-! sum, min, max, all, any of lists -/
def intsD : List D → Option (List Int)
  | [] => some []
  | .int i :: ds => (intsD ds).map (i :: ·)
  | _ => none
def blsD : List D → Option (List Bool)
  | [] => some []
  | .bl i :: ds => (blsD ds).map (i :: ·)
  | _ => none
theorem ints_at {G : Hp} : ∀ {ds : List D} {ns : List Int} {xs : List V}, intsD ds = some ns → Ats K G ds xs → xs = ns.map V.int
  | [], ns, xs, h, a => by cases h; exact a
  | d :: ds, ns, xs, h, ⟨x, r, e, ha, t⟩ => by
    cases d <;> simp only [intsD, reduceCtorEq] at h
    cases h1 : intsD ds with
    | none => rw [h1] at h; cases h
    | some ms =>
      rw [h1] at h
      cases h
      rw [e, ints_at h1 t, show x = _ from ha]
      rfl
theorem bls_at {G : Hp} : ∀ {ds : List D} {ns : List Bool} {xs : List V}, blsD ds = some ns → Ats K G ds xs → xs = ns.map V.bl
  | [], ns, xs, h, a => by cases h; exact a
  | d :: ds, ns, xs, h, ⟨x, r, e, ha, t⟩ => by
    cases d <;> simp only [blsD, reduceCtorEq] at h
    cases h1 : blsD ds with
    | none => rw [h1] at h; cases h
    | some ms =>
      rw [h1] at h
      cases h
      rw [e, bls_at h1 t, show x = _ from ha]
      rfl
def gOfI (f : List Int → Option D) : D → Option D
  | .lst ds => (intsD ds).bind f
  | _ => none
def gOfB (f : List Bool → Option D) : D → Option D
  | .lst ds => (blsD ds).bind f
  | _ => none
def minI : Int → List Int → Int
  | m, [] => m
  | m, x :: xs => minI (if x < m then x else m) xs
def maxI : Int → List Int → Int
  | m, [] => m
  | m, x :: xs => maxI (if m < x then x else m) xs
theorem minI_le : ∀ (xs : List Int) (m : Int), minI m xs ≤ m ∧ ∀ x ∈ xs, minI m xs ≤ x
  | [], m => ⟨Int.le_refl _, fun x h => (List.not_mem_nil h).elim⟩
  | y :: xs, m => by
    obtain ⟨h1, h2⟩ := minI_le xs (if y < m then y else m)
    refine ⟨?_, fun x hx => ?_⟩
    · show minI (if y < m then y else m) xs ≤ m
      split at h1 <;> split <;> omega
    · show minI (if y < m then y else m) xs ≤ x
      rcases List.mem_cons.mp hx with rfl | hx
      · split at h1 <;> split <;> omega
      · exact h2 x hx
theorem maxI_ge : ∀ (xs : List Int) (m : Int), m ≤ maxI m xs ∧ ∀ x ∈ xs, x ≤ maxI m xs
  | [], m => ⟨Int.le_refl _, fun x h => (List.not_mem_nil h).elim⟩
  | y :: xs, m => by
    obtain ⟨h1, h2⟩ := maxI_ge xs (if m < y then y else m)
    refine ⟨?_, fun x hx => ?_⟩
    · show m ≤ maxI (if m < y then y else m) xs
      split at h1 <;> split <;> omega
    · show x ≤ maxI (if m < y then y else m) xs
      rcases List.mem_cons.mp hx with rfl | hx
      · split at h1 <;> split <;> omega
      · exact h2 x hx
theorem minI_mem : ∀ (xs : List Int) (m : Int), minI m xs = m ∨ minI m xs ∈ xs
  | [], m => .inl rfl
  | y :: xs, m => by
    show minI (if y < m then y else m) xs = m ∨ minI (if y < m then y else m) xs ∈ y :: xs
    by_cases h : y < m
    · rw [if_pos h]
      rcases minI_mem xs y with e | e
      · exact .inr (by rw [e]; exact List.mem_cons_self)
      · exact .inr (List.mem_cons_of_mem _ e)
    · rw [if_neg h]
      rcases minI_mem xs m with e | e
      · exact .inl e
      · exact .inr (List.mem_cons_of_mem _ e)
theorem maxI_mem : ∀ (xs : List Int) (m : Int), maxI m xs = m ∨ maxI m xs ∈ xs
  | [], m => .inl rfl
  | y :: xs, m => by
    show maxI (if m < y then y else m) xs = m ∨ maxI (if m < y then y else m) xs ∈ y :: xs
    by_cases h : m < y
    · rw [if_pos h]
      rcases maxI_mem xs y with e | e
      · exact .inr (by rw [e]; exact List.mem_cons_self)
      · exact .inr (List.mem_cons_of_mem _ e)
    · rw [if_neg h]
      rcases maxI_mem xs m with e | e
      · exact .inl e
      · exact .inr (List.mem_cons_of_mem _ e)
def hSumL : D → Option D := gOfI fun ns => some (.int ns.sum)
def hMinL : D → Option D := gOfI fun | [] => none | n :: ns => some (.int (minI n ns))
def hMaxL : D → Option D := gOfI fun | [] => none | n :: ns => some (.int (maxI n ns))
def hAllL : D → Option D := gOfB fun bs => some (.bl (bs.all id))
def hAnyL : D → Option D := gOfB fun bs => some (.bl (bs.any id))
theorem gOfI_of {f : List Int → Option D} {G : Hp} {ds : List D} {d : D} {xs : List V} (a : Ats K G ds xs) (h : g1 (gOfI f) ds = some d) : ∃ p ns, xs = [.ref p] ∧ G p = some (.lst (ns.map V.int)) ∧ f ns = some d := by
  obtain ⟨e, x, rfl, rfl, ax, hh⟩ := g1_of a h
  cases e with
  | lst es =>
    simp only [gOfI] at hh
    cases h1 : intsD es with
    | none => rw [h1] at hh; cases hh
    | some ns =>
      rw [h1] at hh
      obtain ⟨p, ys, rfl, h2, t⟩ := ax
      rw [ints_at h1 t] at h2
      exact ⟨p, ns, rfl, h2, hh⟩
  | _ => simp [gOfI] at hh
theorem gOfB_of {f : List Bool → Option D} {G : Hp} {ds : List D} {d : D} {xs : List V} (a : Ats K G ds xs) (h : g1 (gOfB f) ds = some d) : ∃ p ns, xs = [.ref p] ∧ G p = some (.lst (ns.map V.bl)) ∧ f ns = some d := by
  obtain ⟨e, x, rfl, rfl, ax, hh⟩ := g1_of a h
  cases e with
  | lst es =>
    simp only [gOfB] at hh
    cases h1 : blsD es with
    | none => rw [h1] at hh; cases hh
    | some ns =>
      rw [h1] at hh
      obtain ⟨p, ys, rfl, h2, t⟩ := ax
      rw [bls_at h1 t] at h2
      exact ⟨p, ns, rfl, h2, hh⟩
  | _ => simp [gOfB] at hh
def gSumL : List D → Option D := g1 hSumL
def gMinL : List D → Option D := g1 hMinL
def gMaxL : List D → Option D := g1 hMaxL
def gAllL : List D → Option D := g1 hAllL
def gAnyL : List D → Option D := g1 hAnyL
theorem dSumL : CallD K L (rSum K) gSumL := fun G H xs ds d Q hs ht a hg q => by
  obtain ⟨p, ns, rfl, h1, h2⟩ := gOfI_of a hg
  cases h2
  exact ⟨p, ns, rfl, SqL.of (hs _ _ h1).1, q _ G H (.refl hs) rfl⟩
theorem dMinL : CallD K L (rMin K) gMinL := fun G H xs ds d Q hs ht a hg q => by
  obtain ⟨p, ns, rfl, h1, h2⟩ := gOfI_of a hg
  cases ns with
  | nil => cases h2
  | cons n ns =>
    cases h2
    refine ⟨p, n :: ns, rfl, SqL.of (hs _ _ h1).1, by simp, fun m hm hall => ?_⟩
    have e : m = minI n ns := by
      have h3 := minI_le ns n
      have h4 : minI n ns ∈ n :: ns := (minI_mem ns n).elim (fun z => by rw [z]; exact List.mem_cons_self) (List.mem_cons_of_mem _)
      have h5 := hall _ h4
      have h6 : minI n ns ≤ m := (List.mem_cons.mp hm).elim (fun z => by rw [z]; exact h3.1) (h3.2 m)
      omega
    rw [e]
    exact q _ G H (.refl hs) rfl
theorem dMaxL : CallD K L (rMax K) gMaxL := fun G H xs ds d Q hs ht a hg q => by
  obtain ⟨p, ns, rfl, h1, h2⟩ := gOfI_of a hg
  cases ns with
  | nil => cases h2
  | cons n ns =>
    cases h2
    refine ⟨p, n :: ns, rfl, SqL.of (hs _ _ h1).1, by simp, fun m hm hall => ?_⟩
    have e : m = maxI n ns := by
      have h3 := maxI_ge ns n
      have h4 : maxI n ns ∈ n :: ns := (maxI_mem ns n).elim (fun z => by rw [z]; exact List.mem_cons_self) (List.mem_cons_of_mem _)
      have h5 := hall _ h4
      have h6 : m ≤ maxI n ns := (List.mem_cons.mp hm).elim (fun z => by rw [z]; exact h3.1) (h3.2 m)
      omega
    rw [e]
    exact q _ G H (.refl hs) rfl
theorem dAllL : CallD K L (rAll K) gAllL := fun G H xs ds d Q hs ht a hg q => by
  obtain ⟨p, ns, rfl, h1, h2⟩ := gOfB_of a hg
  cases h2
  exact ⟨p, ns, rfl, SqL.of (hs _ _ h1).1, q _ G H (.refl hs) rfl⟩
theorem dAnyL : CallD K L (rAny K) gAnyL := fun G H xs ds d Q hs ht a hg q => by
  obtain ⟨p, ns, rfl, h1, h2⟩ := gOfB_of a hg
  cases h2
  exact ⟨p, ns, rfl, SqL.of (hs _ _ h1).1, q _ G H (.refl hs) rfl⟩
/-! gcd, str, int of a text -/
def hGcd : D → D → Option D
  | .int a, .int b => some (.int ((Nat.gcd a.natAbs b.natAbs : Nat) : Int))
  | _, _ => none
def gGcd : List D → Option D := gg2 hGcd
theorem dGcd : CallD K L rGcd gGcd := fun G H xs ds d Q hs ht a hg q => by
  obtain ⟨e, f, x, y, rfl, rfl, ax, ay, h⟩ := gg2_of a hg
  cases e <;> cases f <;> simp only [hGcd, reduceCtorEq, Option.some.injEq] at h
  subst h
  exact ⟨_, _, by rw [show x = _ from ax, show y = _ from ay], q _ G H (.refl hs) rfl⟩
def hStr : D → Option D
  | .int i => if i.natAbs.log2 < 1920 then some (.str (toString i)) else none
  | _ => none
def gStr : List D → Option D := g1 hStr
theorem dStrC : CallD K L (fun xs H Q => ∃ i, xs = [.int i] ∧ i.natAbs.log2 < 1920 ∧ Q (.str (toString i)) H) gStr := fun G H xs ds d Q hs ht a hg q => by
  obtain ⟨e, x, rfl, rfl, ax, h⟩ := g1_of a hg
  cases e <;> simp only [hStr, reduceCtorEq, Option.ite_none_right_eq_some, Option.some.injEq] at h
  obtain ⟨hl, rfl⟩ := h
  exact ⟨_, by rw [show x = _ from ax], hl, q _ G H (.refl hs) rfl⟩
def hIntT : D → Option D
  | .str z => if z.length ≤ 640 then (PySem.intText? z).map .int else none
  | _ => none
def gIntT : List D → Option D := g1 hIntT
theorem dIntT : CallD K L (fun xs H Q => ∃ a n, xs = [.str a] ∧ PySem.intText? a = some n ∧ a.length ≤ 640 ∧ Q (.int n) H) gIntT := fun G H xs ds d Q hs ht a hg q => by
  obtain ⟨e, x, rfl, rfl, ax, h⟩ := g1_of a hg
  cases e <;> simp only [hIntT, reduceCtorEq, Option.ite_none_right_eq_some, Option.some.injEq] at h
  obtain ⟨hl, h⟩ := h
  rename_i z
  cases h1 : PySem.intText? z with
  | none => rw [h1] at h; cases h
  | some n =>
    rw [h1] at h
    cases h
    exact ⟨z, n, by rw [show x = _ from ax], h1, hl, q _ G H (.refl hs) rfl⟩
/-! x in xs, of flat things; of a sign in a text -/
def toFV : D → Option V
  | .non => some .non
  | .bl b => some (.bl b)
  | .int i => some (.int i)
  | .str s => some (.str s)
  | _ => none
def toFVs : List D → Option (List V)
  | [] => some []
  | d :: ds => (toFV d).bind fun v => (toFVs ds).map (v :: ·)
theorem fv_at {G : Hp} {d : D} {v x : V} (h : toFV d = some v) (a : At K G d x) : x = v ∧ flatV v = true := by
  cases d <;> simp only [toFV, reduceCtorEq, Option.some.injEq] at h <;> subst h <;> exact ⟨a, rfl⟩
theorem fvs_at {G : Hp} : ∀ {ds : List D} {vs xs : List V}, toFVs ds = some vs → Ats K G ds xs → xs = vs ∧ vs.all flatV = true
  | [], vs, xs, h, a => by cases h; exact ⟨a, rfl⟩
  | d :: ds, vs, xs, h, ⟨x, r, e, ha, t⟩ => by
    unfold toFVs at h
    cases h1 : toFV d with
    | none => rw [h1] at h; cases h
    | some v =>
      cases h2 : toFVs ds with
      | none => rw [h1, h2] at h; cases h
      | some ws =>
        rw [h1, h2] at h
        cases h
        obtain ⟨q1, q2⟩ := fv_at h1 ha
        obtain ⟨q3, q4⟩ := fvs_at h2 t
        rw [e, q1, q3]
        exact ⟨rfl, by rw [List.all_cons, q2, q4]; rfl⟩
def gIn (neg : Bool) : D → D → Option D
  | d, .lst ds => (toFV d).bind fun v => (toFVs ds).bind fun vs => some (.bl (if neg then !inV v vs else inV v vs))
  | d, .tup ds => (toFV d).bind fun v => (toFVs ds).bind fun vs => some (.bl (if neg then !inV v vs else inV v vs))
  | _, _ => none
theorem dIn {neg : Bool} : OpD K L (rIn K neg) (gIn neg) := fun G H x y d1 d2 d Q hs ht a1 a2 hg q => by
  have go : ∀ es : List D, ((toFV d1).bind fun v => (toFVs es).bind fun vs => some (.bl (if neg then !inV v vs else inV v vs))) = some d → ∀ xs, Ats K G es xs → flatV x = true ∧ xs.all flatV = true ∧ d = .bl (if neg then !inV x xs else inV x xs) := fun es hh xs t => by
    cases h1 : toFV d1 with
    | none => rw [h1] at hh; cases hh
    | some v =>
      cases h2 : toFVs es with
      | none => rw [h1, h2] at hh; cases hh
      | some vs =>
        rw [h1, h2] at hh
        cases hh
        obtain ⟨q1, q2⟩ := fv_at h1 a1
        obtain ⟨q3, q4⟩ := fvs_at h2 t
        subst q1 q3
        exact ⟨q2, q4, rfl⟩
  cases d2 with
  | lst es =>
    obtain ⟨p, xs, rfl, h1, t⟩ := a2
    obtain ⟨w1, w2, rfl⟩ := go es hg xs t
    exact ⟨p, xs, rfl, .inl (SqL.of (hs _ _ h1).1), w1, w2, q _ G H (.refl hs) rfl⟩
  | tup es =>
    obtain ⟨p, xs, rfl, h1, t⟩ := a2
    obtain ⟨w1, w2, rfl⟩ := go es hg xs t
    exact ⟨p, xs, rfl, .inr (SqT.of (hs _ _ h1).1), w1, w2, q _ G H (.refl hs) rfl⟩
  | _ => simp [gIn] at hg
def gInS (neg : Bool) : D → D → Option D
  | .str a, .str z => if a.cps.size = 1 then some (.bl (if neg then !decide (a.cps.getD 0 0 ∈ z.cps.toList) else decide (a.cps.getD 0 0 ∈ z.cps.toList))) else none
  | _, _ => none
theorem one_sign {a : Str} (h : a.cps.size = 1) : a = ⟨#[a.cps.getD 0 0]⟩ := by
  obtain ⟨cps⟩ := a
  congr 1
  apply Array.ext
  · simpa using h
  · intro i h1 h2
    have : i = 0 := by simp at h2; omega
    subst this
    simp [Array.getD, h1]
theorem dInS : OpD K L (fun x y H Q => ∃ (c : Nat) (z : Str), x = .str ⟨#[c]⟩ ∧ y = .str z ∧ Q (.bl (decide (c ∈ z.cps.toList))) H) (gInS false) := fun G H x y d1 d2 d Q hs ht a1 a2 hg q => by
  cases d1 <;> cases d2 <;> simp only [gInS, reduceCtorEq, Option.ite_none_right_eq_some, Option.some.injEq] at hg
  obtain ⟨h1, rfl⟩ := hg
  rename_i a z
  exact ⟨a.cps.getD 0 0, z, by rw [show x = _ from a1, ← one_sign h1], a2, q _ G H (.refl hs) rfl⟩
theorem dNotInS : OpD K L (fun x y H Q => ∃ (c : Nat) (z : Str), x = .str ⟨#[c]⟩ ∧ y = .str z ∧ Q (.bl (!decide (c ∈ z.cps.toList))) H) (gInS true) := fun G H x y d1 d2 d Q hs ht a1 a2 hg q => by
  cases d1 <;> cases d2 <;> simp only [gInS, reduceCtorEq, Option.ite_none_right_eq_some, Option.some.injEq] at hg
  obtain ⟨h1, rfl⟩ := hg
  rename_i a z
  exact ⟨a.cps.getD 0 0, z, by rw [show x = _ from a1, ← one_sign h1], a2, q _ G H (.refl hs) rfl⟩
/-! is True -/
def gIsB (neg : Bool) : D → D → Option D
  | .bl a, .bl b => some (.bl (if neg then !decide (a = b) else decide (a = b)))
  | _, _ => none
theorem dIsB : OpD K L (fun x y H Q => ∃ a b : Bool, x = .bl a ∧ y = .bl b ∧ Q (.bl (decide (a = b))) H) (gIsB false) := fun G H x y d1 d2 d Q hs ht a1 a2 hg q => by
  cases d1 <;> cases d2 <;> simp only [gIsB, reduceCtorEq, Option.some.injEq] at hg
  subst hg
  exact ⟨_, _, a1, a2, q _ G H (.refl hs) rfl⟩
theorem dNotB : OpD K L (fun x y H Q => ∃ a b : Bool, x = .bl a ∧ y = .bl b ∧ Q (.bl (!decide (a = b))) H) (gIsB true) := fun G H x y d1 d2 d Q hs ht a1 a2 hg q => by
  cases d1 <;> cases d2 <;> simp only [gIsB, reduceCtorEq, Option.some.injEq] at hg
  subst hg
  exact ⟨_, _, a1, a2, q _ G H (.refl hs) rfl⟩
end
section
variable {X : Cx} {L : List Addr} {e a b : Expr} {pos : Pos} {ma mb : DM}
/-! methods of texts -/
/-- a method by values, over data -/
def MthD (K : PySem.W.Frag) (L : List Addr) (T : String) (r : V → List V → Hp → VK → Prop) (g : D → List D → Option D) : Prop :=
  ∀ (G H : Hp) (x : V) (d1 : D) (ds : List D) (d : D) (Q : VK), Sub G H → Tabs L H → At K G d1 x → g d1 ds = some d → (∀ v G' H', Gr L G H G' H' → At K G' d v → Q v H') → tyV K T x H ∧ ∀ xs G1 H1 , Gr L G H G1 H1 → Ats K G1 ds xs → r x xs H1 Q
def dMth (g : D → List D → Option D) (o : DM) (as : Env → Option (List D)) : DM := fun ρ => (o ρ).bind fun x => (as ρ).bind fun ds => g x ds
theorem pd_bm {o : Expr} {es : List Expr} {m : Env → Option (List D)} {name : Str} {apos cpos : Pos} {T id : String} {r : V → List V → Hp → VK → Prop} {g : D → List D → Option D} (hr : MthD X.K L T r g) (pa : PlainAttrs T) (slot : Slot T name id) (hty : typeOf (.builtin id) = pure (.type "method_descriptor")) (hm : MtR X id r) (ho : PD X L o ma) (ha : PAD X L (e :: es) m)
    (hbase : attributeBase o name X.env (eval o X.env) = eval o X.env := by rfl)
    (hfew : ((backTo cpos (starEach (e :: es) X.env)).all (fun x => !x.1) && (backToKw cpos (keywordEach [] X.env)).all (fun x => x.1.isSome)
      && decide ((e :: es).length + ([] : List Keyword).length + (if ([] : List Keyword).isEmpty then 0 else 1) < 30)) = true := by rfl)
    (hline : (apos.endLine == cpos.line) = true := by rfl) (hs : starEach (e :: es) X.env = (false, eval e X.env) :: starEach es X.env := by rfl) (hplain : (backTo cpos (starEach es X.env)).any (·.1) = false := by rfl) :
    PD X L (.Call (.Attribute o name apos) (e :: es) [] cpos) (dMth g ma m) :=
  PE.imp (pe_bm pa slot hty hm ho ha hbase hfew hline hs hplain) fun σ H Q ⟨G, ρ, d, hss, hR, ht, hmm, q⟩ => by
    unfold dMth at hmm
    cases h1 : ma ρ with
    | none => rw [h1] at hmm; cases hmm
    | some d1 =>
      cases h2 : m ρ with
      | none => simp [h1, h2] at hmm
      | some ds =>
        simp only [h1, h2, Option.bind_some] at hmm
        refine ⟨G, ρ, d1, hss, hR, ht, h1, fun x G1 H1 g1 a1 => ?_⟩
        obtain ⟨w1, w2⟩ := hr G1 H1 x d1 ds d Q g1.sub (ht.ext g1.ext) a1 hmm fun v G' H' gg aa => q v G' H' (g1.trans gg) aa
        exact ⟨w1, G1, ρ, ds, g1.sub, hR.mono g1.up, ht.ext g1.ext, h2, fun xs G2 H2 g2 a2 => w2 xs G2 H2 g2 a2⟩
def strsD : List D → Option (List Str)
  | [] => some []
  | .str i :: ds => (strsD ds).map (i :: ·)
  | _ => none
theorem strs_at {K : PySem.W.Frag} {G : Hp} : ∀ {ds : List D} {ns : List Str} {xs : List V}, strsD ds = some ns → Ats K G ds xs → xs = ns.map V.str
  | [], ns, xs, h, a => by cases h; exact a
  | d :: ds, ns, xs, h, ⟨x, r, e, ha, t⟩ => by
    cases d <;> simp only [strsD, reduceCtorEq] at h
    cases h1 : strsD ds with
    | none => rw [h1] at h; cases h
    | some ms =>
      rw [h1] at h
      cases h
      rw [e, strs_at h1 t, show x = _ from ha]
      rfl
def gSplit : D → List D → Option D
  | .str a, [.str b] => if (b.length == 0) = false ∧ a.length ≤ 1000000 then some (.lst ((PySem.Txt.split a b).map .str)) else none
  | _, _ => none
theorem ats_strs {K : PySem.W.Frag} {G : Hp} : ∀ (ns : List Str), Ats K G (ns.map D.str) (ns.map V.str)
  | [] => rfl
  | n :: ns => ⟨.str n, _, rfl, rfl, ats_strs ns⟩
theorem Ats.one1 {K : PySem.W.Frag} {G : Hp} {d : D} {xs : List V} (a : Ats K G [d] xs) : ∃ x, xs = [x] ∧ At K G d x := by
  obtain ⟨x, r, rfl, h1, h2⟩ := a
  obtain rfl : r = [] := h2
  exact ⟨x, rfl, h1⟩
def gJoin : D → List D → Option D
  | .str a, [.lst ds] => (strsD ds).bind fun ys => if (ys.map (·.length)).sum + ys.length * a.length ≤ 1000000 then some (.str (PySem.Txt.join a ys)) else none
  | _, _ => none
def gRmPre : D → List D → Option D
  | .str a, [.str b] => if a.length ≤ 1000000 then some (.str (PySem.Txt.removeprefix a b)) else none
  | _, _ => none
section
variable {K : PySem.W.Frag}
theorem mSplit : MthD K L "str" (fun x xs H Q => ∃ a b, x = .str a ∧ xs = [.str b] ∧ (b.length == 0) = false ∧ a.length + 2 ≤ sizeLine ∧ rNewStrs (PySem.Txt.split a b) H Q) gSplit := fun G H x d1 ds d Q hs ht a1 hg q => by
  obtain ⟨a, b, rfl, rfl, hb, hl, rfl⟩ : ∃ a b, d1 = .str a ∧ ds = [.str b] ∧ (b.length == 0) = false ∧ a.length ≤ 1000000 ∧ d = .lst ((PySem.Txt.split a b).map .str) := by
    unfold gSplit at hg
    split at hg
    · simp only [Option.ite_none_right_eq_some, Option.some.injEq] at hg
      exact ⟨_, _, rfl, rfl, hg.1.1, hg.1.2, hg.2.symm⟩
    · cases hg
  cases (show x = .str a from a1)
  refine ⟨by first | rfl | trivial | exact ⟨_, rfl⟩, fun xs G1 H1 g1 a2 => ?_⟩
  obtain ⟨y, rfl, hy⟩ := a2.one1
  cases (show y = .str b from hy)
  exact ⟨a, b, rfl, rfl, hb, Nat.le_trans (Nat.add_le_add_right hl 2) (by decide), fun p hp => newL g1.sub (ats_strs _) hp fun v G' H' gg aa => q v G' H' (g1.trans gg) aa⟩
theorem mJoin : MthD K L "str" (fun x xs H Q => ∃ a p, ∃ ys : List Str, x = .str a ∧ xs = [.ref p] ∧ (SqL K H p (ys.map V.str) ∨ SqT K H p (ys.map V.str)) ∧ (ys.map (·.length)).sum + ys.length * a.length ≤ 16777216 ∧ Q (.str (PySem.Txt.join a ys)) H) gJoin := fun G H x d1 ds d Q hs ht a1 hg q => by
  obtain ⟨a, es, ys, rfl, rfl, hys, hl, rfl⟩ : ∃ a es ys, d1 = .str a ∧ ds = [.lst es] ∧ strsD es = some ys ∧ (ys.map (·.length)).sum + ys.length * a.length ≤ 1000000 ∧ d = .str (PySem.Txt.join a ys) := by
    unfold gJoin at hg
    split at hg
    · rename_i a es
      cases h1 : strsD es with
      | none => rw [h1] at hg; cases hg
      | some ys =>
        rw [h1] at hg
        simp only [Option.bind_some, Option.ite_none_right_eq_some, Option.some.injEq] at hg
        exact ⟨_, _, _, rfl, rfl, h1, hg.1, hg.2.symm⟩
    · cases hg
  cases (show x = .str a from a1)
  refine ⟨by first | rfl | trivial | exact ⟨_, rfl⟩, fun xs G1 H1 g1 a2 => ?_⟩
  obtain ⟨y, rfl, hy⟩ := a2.one1
  obtain ⟨p, zs, rfl, h2, t⟩ := hy
  rw [strs_at hys t] at h2
  exact ⟨a, p, ys, rfl, rfl, .inl (SqL.of (g1.sub _ _ h2).1), Nat.le_trans hl (by decide), q _ G1 H1 g1 rfl⟩
theorem mRmPre : MthD K L "str" (fun x xs H Q => ∃ a b, x = .str a ∧ xs = [.str b] ∧ a.length ≤ sizeLine ∧ Q (.str (PySem.Txt.removeprefix a b)) H) gRmPre := fun G H x d1 ds d Q hs ht a1 hg q => by
  obtain ⟨a, b, rfl, rfl, hl, rfl⟩ : ∃ a b, d1 = .str a ∧ ds = [.str b] ∧ a.length ≤ 1000000 ∧ d = .str (PySem.Txt.removeprefix a b) := by
    unfold gRmPre at hg
    split at hg
    · simp only [Option.ite_none_right_eq_some, Option.some.injEq] at hg
      exact ⟨_, _, rfl, rfl, hg.1, hg.2.symm⟩
    · cases hg
  cases (show x = .str a from a1)
  refine ⟨by first | rfl | trivial | exact ⟨_, rfl⟩, fun xs G1 H1 g1 a2 => ?_⟩
  obtain ⟨y, rfl, hy⟩ := a2.one1
  cases (show y = .str b from hy)
  exact ⟨a, b, rfl, rfl, line_of hl, q _ G1 H1 g1 rfl⟩
end
/-! a list from its end -/
def gRev : D → Option D
  | .lst ds => some (.lst ds.reverse)
  | _ => none
theorem ats_rev {K : PySem.W.Frag} {G : Hp} : ∀ {ds : List D} {xs : List V}, Ats K G ds xs → Ats K G ds.reverse xs.reverse
  | [], xs, h => by rw [show xs = [] from h]; rfl
  | d :: ds, _, ⟨x, r, rfl, a, t⟩ => by
    rw [List.reverse_cons, List.reverse_cons]
    exact (ats_rev t).append (Ats.one a)
theorem pd_rev {k : Nat} {p1 p2 p3 : Pos} (he : PD X L e ma) : PD X L (.Subscript e (.Slice none none (some (.UnaryOp .USub (.Constant (.int 1) k p1) p2)) p3) pos) (dUn gRev ma) :=
  PE.imp (pe_revL he) fun σ H Q ⟨G, ρ, d, hs, hR, ht, hm, q⟩ => by
    unfold dUn at hm
    cases h1 : ma ρ with
    | none => rw [h1] at hm; cases hm
    | some d1 =>
      rw [h1] at hm
      refine ⟨G, ρ, d1, hs, hR, ht, h1, fun x G1 H1 g1 a1 => ?_⟩
      cases d1 <;> simp only [Option.bind_some, gRev, reduceCtorEq, Option.some.injEq] at hm
      subst hm
      obtain ⟨p, xs, rfl, h2, t⟩ := a1
      exact ⟨p, xs, rfl, SqL.of (g1.sub _ _ h2).1, fun z hz => newL g1.sub (ats_rev t) hz fun v G' H' gg aa => q v G' H' (g1.trans gg) aa⟩
/-! truth of what is no truth value -/
def truD : D → Option Bool
  | .bl b => some b
  | .non => some false
  | .int i => some (i != 0)
  | .lst ds => some (!ds.isEmpty)
  | .tup ds => some (!ds.isEmpty)
  | _ => none
def dTr (a : DM) : Env → Option Bool := fun ρ => (a ρ).bind truD
theorem isEmpty_ats {K : PySem.W.Frag} {G : Hp} : ∀ {ds : List D} {xs : List V}, Ats K G ds xs → xs.isEmpty = ds.isEmpty
  | [], xs, h => by rw [show xs = [] from h]; rfl
  | d :: ds, _, ⟨x, r, rfl, a, t⟩ => rfl
theorem ptd_tr (h : PD X L e ma) (he : ∀ whole, isTrue e X.env whole = (do let v ← whole; standAt e.pos; holding [v] (truthy v)) := by intro _; rfl) : PTD X L e (dTr ma) :=
  PT.imp (pt_truth h he) fun σ H Q ⟨G, ρ, k, hs, hR, ht, hm, q⟩ => by
    unfold dTr at hm
    cases h1 : ma ρ with
    | none => rw [h1] at hm; cases hm
    | some d1 =>
      rw [h1] at hm
      refine ⟨G, ρ, d1, hs, hR, ht, h1, fun x G1 H1 g1 a1 => ⟨k, ?_, q G1 H1 g1⟩⟩
      cases d1 <;> simp only [Option.bind_some, truD, reduceCtorEq, Option.some.injEq] at hm
      · cases (show x = _ from a1); exact hm.symm
      · cases (show x = _ from a1); exact hm.symm
      · cases (show x = _ from a1); exact hm.symm
      · obtain ⟨p, xs, rfl, h2, t⟩ := a1
        exact .inl ⟨xs, SqL.of (g1.sub _ _ h2).1, by rw [isEmpty_ats t]; exact hm.symm⟩
      · obtain ⟨p, xs, rfl, h2, t⟩ := a1
        exact .inr (.inl ⟨xs, SqT.of (g1.sub _ _ h2).1, by rw [isEmpty_ats t]; exact hm.symm⟩)
/-! a module's text -/
theorem pd_globS {x i : Str} (hg : Gl X x) (hm : ∃ t, X.mg x = some (.str i t)) (hd : (x == ("__debug__" : Str)) = false := by decide) : PD X L (.Name x pos) (dC (.str i)) := by
  obtain ⟨t, hm⟩ := hm
  exact PE.imp (pe_glob hg hm (v := .str i) ⟨t, rfl⟩ hd) fun σ H Q ⟨G, ρ, d, hs, hr, ht, hm, q⟩ => by cases hm; exact q _ G H (.refl hs) rfl
theorem pd_callF {x : Str} {id : String} {p : Pos} {es : List Expr} {r : List V → Hp → VK → Prop} {g : List D → Option D} {m : Env → Option (List D)} (hr : CallD X.K L r g) (hc : CallR X (.builtin id) r) (hg : Gl X x) (hm : X.mg x = some (.builtin id)) (ha : PAD X L (e :: es) m) (hdb : (x == ("__debug__" : Str)) = false := by decide)
    (he : starEach (e :: es) X.env = (false, eval e X.env) :: starEach es X.env := by rfl) (hpl : (backTo pos (starEach es X.env)).any (·.1) = false := by rfl) : PD X L (.Call (.Name x p) (e :: es) [] pos) (dFn g m) :=
  PE.imp (pe_callBfun hc hg hm ha hdb he hpl) (tA_imp hr)
end
end DN

set_option Elab.async false
set_option linter.all false
set_option maxRecDepth 100000
set_option maxHeartbeats 2000000
/-! Statements that change what is owned. -/
namespace DN
open PySem PySem.Spec PyProof.Rows L2 GxR GX
theorem ent_of {ρ : Env} {k : Nat} {d : D} (h : (ρ[k]?).join = some d) : ρ[k]? = some (some d) := by
  cases z : ρ[k]? with
  | none => rw [z] at h; cases h
  | some o => rw [z] at h; exact congrArg some h
section
variable {K : PySem.W.Frag} {L : List Addr} {H0 G0 G H : Hp} {O : Ow} {σ : L2.St} {ρ : Env}
/-- what is put behind a list: a thing of the kind, that owns nothing -/
theorem grow_one {k : Kd} {d : D} {y : V} {ds : List D} {xs : List V} (h : ∀ H', Own K G H' d k y []) : ∀ (B : List Addr) (H' : Hp), Owns K G H ds k xs B → (∀ b ∈ B, ∀ o, H b = some o → (∀ ps, o ≠ .tbl ps) → H' b = some o) → ∃ B', B'.Sublist B ∧ Owns K G H' (ds ++ [d]) k (xs ++ [y]) B' := fun B H' ho hk => by
  refine ⟨B, List.Sublist.refl B, ?_⟩
  have := (Owns.keep (fun _ _ z => z) hk ho).app (.one (h H'))
  rw [List.append_nil] at this
  exact this
end
section
variable {X : Cx} {L : List Addr} {nw : Bool} {W : WN} {Ol O : Ow} {pos : Pos} {e : Expr} {m : DM}
/-- name.append(e), its items not owned -/
theorem so_app {i : Nat} {κ : Kd} {x : Str} {p' apos cpos : Pos} {vw : Bool} (hO : (ks O).Nodup) (hi : (i, κ) ∈ O) (hk : kids κ = some .pl) (hx : PE X (.Name x p') (tVar i)) (he : PD X L e m) (hbase : attributeBase (.Name x p') "append" X.env (eval (.Name x p') X.env) = eval (.Name x p') X.env := by rfl)
    (hfew : ((backTo cpos (starEach (e :: []) X.env)).all (fun x => !x.1) && (backToKw cpos (keywordEach [] X.env)).all (fun x => x.1.isSome) && decide ((e :: []).length + ([] : List Keyword).length + (if ([] : List Keyword).isEmpty then 0 else 1) < 30)) = true := by rfl)
    (hline : (apos.endLine == cpos.line) = true := by rfl) (hs : starEach (e :: []) X.env = (false, eval e X.env) :: starEach [] X.env := by rfl) (hsw : swapsWith (.Call (.Attribute (.Name x p') "append" apos) [e] [] cpos) none pos.line X.env = pure false := by rfl) :
    PSO X L nw W Ol O O (.Expr (.Call (.Attribute (.Name x p') "append" apos) [e] [] cpos) pos) (sApp i (ev vw (ks O) m)) :=
  PS.imp (ps_expr (pe_bm PySem.F.plainAttrs_list PySem.F.slot_list_append PySem.F.type_list_append mt_append hx (pa_cons he pa_nil hs) hbase hfew hline hs rfl) hsw) fun Dn σ H ⟨G0, H0, ρ, o, ⟨G, g, R⟩, ht, hm, q⟩ => by
    unfold sApp at hm
    cases k1 : ev vw (ks O) m ρ with
    | none => rw [k1] at hm; cases hm
    | some d =>
      cases k2 : (ρ[i]?).join with
      | none => simp [k1, k2] at hm
      | some dl =>
        simp only [k1, k2, Option.bind_some] at hm
        cases dl <;> simp only [reduceCtorEq, Option.ite_none_right_eq_some, Option.some.injEq] at hm
        rename_i ds
        obtain ⟨hl, rfl⟩ := hm
        have er := ent_of k2
        obtain ⟨v, A, h1, h2, h4⟩ := R.get hi er
        obtain ⟨a, xs, B, rfl, h6, h7, h8⟩ := h2.list hk
        refine ⟨.ref a, h1, .inl ⟨rfl, xs, .inl (.inl h6)⟩, evP g R ht k1 fun y G1 H1 g1 a1 => ?_⟩
        obtain ⟨v', a', xs', q1, q2, q3, q4, q5, q6, _, _, q8⟩ := (R.gr g1).putP (π := []) hO hi er rfl rfl hk
        rw [h1] at q1
        cases q1
        cases q2
        refine ⟨a, xs', y, rfl, rfl, q3, ?_, q σ _ ⟨G1, (g.trans g1).put q5 q6, q8 _ _ (grow_one fun H' => own_plain a1)⟩⟩
        rw [q4]
        exact Nat.lt_of_lt_of_le hl (by decide)
/-- name.append(e), e no list -/
theorem so_appS {i : Nat} {κ k : Kd} {x : Str} {p' apos cpos : Pos} {vw : Bool} (hO : (ks O).Nodup) (hi : (i, κ) ∈ O) (hk : kids κ = some k) (hx : PE X (.Name x p') (tVar i)) (he : PD X L e m) (hbase : attributeBase (.Name x p') "append" X.env (eval (.Name x p') X.env) = eval (.Name x p') X.env := by rfl)
    (hfew : ((backTo cpos (starEach (e :: []) X.env)).all (fun x => !x.1) && (backToKw cpos (keywordEach [] X.env)).all (fun x => x.1.isSome) && decide ((e :: []).length + ([] : List Keyword).length + (if ([] : List Keyword).isEmpty then 0 else 1) < 30)) = true := by rfl)
    (hline : (apos.endLine == cpos.line) = true := by rfl) (hs : starEach (e :: []) X.env = (false, eval e X.env) :: starEach [] X.env := by rfl) (hsw : swapsWith (.Call (.Attribute (.Name x p') "append" apos) [e] [] cpos) none pos.line X.env = pure false := by rfl) :
    PSO X L nw W Ol O O (.Expr (.Call (.Attribute (.Name x p') "append" apos) [e] [] cpos) pos) (sAppS i (ev vw (ks O) m)) :=
  PS.imp (ps_expr (pe_bm PySem.F.plainAttrs_list PySem.F.slot_list_append PySem.F.type_list_append mt_append hx (pa_cons he pa_nil hs) hbase hfew hline hs rfl) hsw) fun Dn σ H ⟨G0, H0, ρ, o, ⟨G, g, R⟩, ht, hm, q⟩ => by
    unfold sAppS at hm
    cases k1 : ev vw (ks O) m ρ with
    | none => rw [k1] at hm; cases hm
    | some d =>
      cases k2 : (ρ[i]?).join with
      | none => simp [k1, k2] at hm
      | some dl =>
        simp only [k1, k2, Option.bind_some, Option.ite_none_right_eq_some] at hm
        obtain ⟨hsc, hm⟩ := hm
        cases dl <;> simp only [reduceCtorEq, Option.ite_none_right_eq_some, Option.some.injEq] at hm
        rename_i ds
        obtain ⟨hl, rfl⟩ := hm
        have er := ent_of k2
        obtain ⟨v, A, h1, h2, h4⟩ := R.get hi er
        obtain ⟨a, xs, B, rfl, h6, h7, h8⟩ := h2.list hk
        refine ⟨.ref a, h1, .inl ⟨rfl, xs, .inl (.inl h6)⟩, evP g R ht k1 fun y G1 H1 g1 a1 => ?_⟩
        obtain ⟨v', a', xs', q1, q2, q3, q4, q5, q6, _, _, q8⟩ := (R.gr g1).putP (π := []) hO hi er rfl rfl hk
        rw [h1] at q1
        cases q1
        cases q2
        refine ⟨a, xs', y, rfl, rfl, q3, ?_, q σ _ ⟨G1, (g.trans g1).put q5 q6, q8 _ _ (grow_one fun H' => own_scal hsc a1)⟩⟩
        rw [q4]
        exact Nat.lt_of_lt_of_le hl (by decide)
/-- a statement list of which nothing is said -/
theorem sso_none {sts : List Stmt} {O' : Ow} : PSsO X L nw W Ol O O' sts (fun _ => none) := ⟨fun pins s σ H Dn I ⟨G0, H0, ρ, o, _, _, hm, _⟩ => nomatch hm⟩
/-- name.extend(e), its items not owned, or no lists -/
def sExt (i : Nat) (sc : Bool) (m : DM) : SM := fun ρ => (m ρ).bind fun d => ((ρ[i]?).join).bind fun (d2 : D) => match d2, d with | .lst ds, .lst es => if ds.length + es.length < 1000000 ∧ (sc = true → es.all Scal = true) then some (.nx (ρ.set i (some (.lst (ds ++ es))))) else none | _, _ => none
theorem so_ext {i : Nat} {κ k : Kd} {sc : Bool} {x : Str} {p' apos cpos : Pos} {vw : Bool} (hO : (ks O).Nodup) (hi : (i, κ) ∈ O) (hk : kids κ = some k) (hsc : sc = true ∨ k = .pl) (hx : PE X (.Name x p') (tVar i)) (he : PD X L e m) (hbase : attributeBase (.Name x p') "extend" X.env (eval (.Name x p') X.env) = eval (.Name x p') X.env := by rfl)
    (hfew : ((backTo cpos (starEach (e :: []) X.env)).all (fun x => !x.1) && (backToKw cpos (keywordEach [] X.env)).all (fun x => x.1.isSome) && decide ((e :: []).length + ([] : List Keyword).length + (if ([] : List Keyword).isEmpty then 0 else 1) < 30)) = true := by rfl)
    (hline : (apos.endLine == cpos.line) = true := by rfl) (hs : starEach (e :: []) X.env = (false, eval e X.env) :: starEach [] X.env := by rfl) (hsw : swapsWith (.Call (.Attribute (.Name x p') "extend" apos) [e] [] cpos) none pos.line X.env = pure false := by rfl) :
    PSO X L nw W Ol O O (.Expr (.Call (.Attribute (.Name x p') "extend" apos) [e] [] cpos) pos) (sExt i sc (ev false (ks O) m)) :=
  PS.imp (ps_expr (pe_bm PySem.F.plainAttrs_list PySem.F.slot_list_extend PySem.F.type_list_extend mt_extend hx (pa_cons he pa_nil hs) hbase hfew hline hs rfl) hsw) fun Dn σ H ⟨G0, H0, ρ, o, ⟨G, g, R⟩, ht, hm, q⟩ => by
    unfold sExt at hm
    cases k1 : ev false (ks O) m ρ with
    | none => rw [k1] at hm; cases hm
    | some d =>
      cases k2 : (ρ[i]?).join with
      | none => simp [k1, k2] at hm
      | some dl =>
        simp only [k1, k2, Option.bind_some] at hm
        cases dl <;> cases d <;> simp only [reduceCtorEq, Option.ite_none_right_eq_some, Option.some.injEq] at hm
        rename_i ds es
        obtain ⟨⟨hl, hall⟩, rfl⟩ := hm
        have er := ent_of k2
        obtain ⟨v, A, h1, h2, h4⟩ := R.get hi er
        obtain ⟨a, xs, B, rfl, h6, h7, h8⟩ := h2.list hk
        refine ⟨.ref a, h1, .inl ⟨rfl, xs, .inl (.inl h6)⟩, evP g R ht k1 fun y G1 H1 g1 a1 => ?_⟩
        obtain ⟨v', a', xs', q1, q2, q3, q4, q5, q6, _, _, q8⟩ := (R.gr g1).putP (π := []) hO hi er rfl rfl hk
        rw [h1] at q1
        cases q1
        cases q2
        obtain ⟨b, zs, rfl, h9, t⟩ := a1
        refine ⟨a, b, xs', zs, rfl, rfl, q3, (g1.sub _ _ h9).1, ?_, q σ _ ⟨G1, (g.trans g1).put q5 q6, q8 _ _ fun B H' ho hkp => ⟨B, List.Sublist.refl B, ?_⟩⟩⟩
        · rw [q4, t.length]
          exact Nat.le_of_lt (Nat.lt_of_lt_of_le hl (by decide))
        · have own : Owns X.K G1 H' es k zs [] := by
            rcases hsc with z | z
            · exact owns_scal (hall z) t
            · rw [z]; exact owns_plain t
          have := (Owns.keep (fun _ _ z => z) hkp ho).app own
          rw [List.append_nil] at this
          exact this
/-! f'text{e}' -/
def hFmt : D → Option Str
  | .str z => if z.length ≤ 1000000 then some z else none
  | .int i => if i.natAbs.log2 < 1920 then some (toString i) else none
  | _ => none
def dFs2 (c : Str) (m : DM) : DM := fun ρ => (m ρ).bind fun d => (hFmt d).bind fun z => if c.length + z.length ≤ 1000000 then some (.str (c ++ z)) else none
theorem empty_cat (c : Str) : Str.empty ++ c = c := by
  show (⟨#[] ++ c.cps⟩ : Str) = c
  simp
theorem pd_fs2 {c : Str} {j : Nat} {p1 p2 : Pos} (he : PD X L e m) : PD X L (.JoinedStr [.Constant (.str c) j p1, .FormattedValue e (-1) none p2] pos) (dFs2 c m) :=
  PE.imp (pe_joined (.cons pe_str (.cons (pe_fmt he) .nil))) fun σ H Q ⟨G, ρ, d, hs, hR, ht, hm, q⟩ => by
    unfold dFs2 at hm
    cases h1 : m ρ with
    | none => rw [h1] at hm; cases hm
    | some d1 =>
      cases h2 : hFmt d1 with
      | none => simp [h1, h2] at hm
      | some z =>
        simp only [h1, h2, Option.bind_some, Option.ite_none_right_eq_some, Option.some.injEq] at hm
        obtain ⟨hl, rfl⟩ := hm
        have hz : z.length ≤ sizeLine := line_of (by omega)
        refine ⟨c, rfl, ?_, G, ρ, d1, hs, hR, ht, h1, fun x G1 H1 g1 a1 => ?_⟩
        · rw [empty_cat]; exact line_of (by omega)
        · have last : ∃ y : Str, V.str z = V.str y ∧ ((Str.empty ++ c) ++ y).length ≤ sizeLine ∧ Q (.str ((Str.empty ++ c) ++ y)) H1 := by
            refine ⟨z, rfl, ?_, ?_⟩
            · rw [empty_cat, strLen_append]; exact line_of hl
            · rw [empty_cat]; exact q _ G1 H1 g1 rfl
          cases d1 <;> simp only [hFmt, reduceCtorEq, Option.ite_none_right_eq_some, Option.some.injEq] at h2
          · obtain ⟨hl2, rfl⟩ := h2
            exact .inr ⟨_, a1, hl2, last⟩
          · obtain ⟨hl2, rfl⟩ := h2
            exact .inl ⟨_, a1, line_of hl2, last⟩
end
/-- a def of which nothing is said -/
theorem stuck_pn {P : Program} {w : World} {K : PySem.W.Frag} {mg : Str → Option Value} {base : Heap} {CX : CXT} {L : List Addr} {k n : Nat} {f : Addr} {fd : FuncData} {ps : List Str} {nw : Bool} : FnOk P w K mg base CX k f fd ps (spPN K L nw n fun _ => none) :=
  ⟨fun vs H Q E ⟨G, ds, d, _, _, _, _, hg, _⟩ => (nomatch hg), fun A outer s H ar us vs Q E hr e0 hb r ⟨G, ds, d, _, _, _, _, hg, _⟩ => (nomatch hg)⟩
theorem stuck_r {P : Program} {w : World} {K : PySem.W.Frag} {mg : Str → Option Value} {base : Heap} {CX : CXT} {L : List Addr} {k n : Nat} {f : Addr} {fd : FuncData} {ps : List Str} {nw : Bool} {cls : Str → Addr} : FnOk P w K mg base CX k f fd ps (spR K L nw cls n fun _ => none) :=
  ⟨fun vs H Q E ⟨G, ds, d, _, _, _, _, hg, _⟩ => (nomatch hg), fun A outer s H ar us vs Q E hr e0 hb r ⟨G, ds, d, _, _, _, _, hg, _⟩ => (nomatch hg)⟩
end DN

set_option Elab.async false
set_option linter.all false
set_option maxRecDepth 100000
set_option maxHeartbeats 2000000
/-! A def that is handed the exception which is handled. -/
namespace DN
open PySem PySem.Spec PyProof.Rows L2 L2H
/-- what a def promises that is called while p is handled -/
structure FnP (P : Program) (w : World) (K : PySem.W.Frag) (mg : Str → Option Value) (base : Heap) (k : Nat) (f : Addr) (fd : FuncData) (ps : List Str) (sp : Addr × Obj → Sp) : Prop where
  len : ∀ p vs H Q E, sp p vs H Q E → vs.length = ps.length
  run : ∀ (p : Addr × Obj) (A : Around) (out : List _root_.PySem.Env) (s : Shared) (H : Hp) (ar : Args) (us : List Value) (vs : List V) (Q : VK) (E : XK), RoomH k A → PinOk out H s p → Env0 P w K mg base A out s H → BindsTo s fd ar (ps.zip us) → Vals vs us → sp p vs H Q E → codeAny (model P w) A (.call (.ref f) ar) (CR CX0 out P w H s Q E) s
section
variable {P : Program} {w : World} {K : PySem.W.Frag} {mg : Str → Option Value} {base : Heap} {k : Nat} {x qual : Str} {st : Stmt} {f c : Addr} {fd : FuncData} {N ps : List Str} {sp : Addr × Obj → Sp}
theorem FunC.okP (F : FunC K x qual st f fd c) (S : FnScope N ps (defScope st)) (len : ∀ p vs H Q E, sp p vs H Q E → vs.length = ps.length)
    (hb : ∀ (p : Addr × Obj) (A : Around) (out : List _root_.PySem.Env) (s : Shared) (H : Hp) (vs : List V) (Q : VK) (E : XK), RoomH k (A.deeper (envOfC qual (defScope st) s.heap.objs.size f (.ref c))) → sp p vs H Q E →
      ∃ t, PSs (cxH CX0 P w K mg base N qual (defScope st) f (.ref c) A out s H E p) (defBody st) t ∧ t { nx := fun _ H' => Q .non H', rt := Q } (L2.start N vs) H) : FnP P w K mg base (k + 1) f fd ps sp := by
  obtain ⟨oc, od, kV, doc, pm, an, ct, osl, rfl, lk, hcd⟩ := F.ex
  refine ⟨len, fun p A out s H ar us vs Q E hr pin e0 bt r q => ?_⟩
  have KX := e0.mod.kin.keeps fun b o e => (e0.bs b o e).1
  have lim := e0.mod.nolimit.keeps fun b o e => (e0.bs b o e).1
  have kinds : ∀ y ∈ ps.zip us, (defScope st).names.lookup y.1 = some .local ∨ ((defScope st).names.lookup y.1 = some .cell ∧ ((cellsFrom (s.heap.objs.size + 1) (defScope st).names []).lookup y.1).isSome = true) := fun y hy =>
    (S.par y.1 (List.of_mem_zip (show (y.1, y.2) ∈ _ from hy)).1).elim .inl fun z => .inr ⟨z, PySem.W.cellsFrom_some _ _ _ (.inl z)⟩
  refine codeAny_call_function hr.depth (KX _ _ lk) rfl S.co S.gen rfl (PySem.W.codeRec_of KX hcd) (bt _ _ _ _ (wpAny_newFunctionEnv_cells S.kind kinds fun env he s1 z => ?_))
  subst he
  refine ⟨lim.keeps z.toInCall.keep, codeAny_func ?_⟩
  obtain ⟨t, ht, hq⟩ := hb p A out s H vs Q E (hr.deeper _) q
  refine wpAny_mono (ht.run [] s1 (L2.start N vs) H _ (inv_startH S pin e0 (len _ _ _ _ _ q) r z) hq) (fun fl s' h => ?_) fun _ _ h => h
  cases fl with
  | ret u => exact let ⟨v, _, H', J, rv, q'⟩ := h; ⟨v, H', J.os, J.bare, J.base, J.hok, rv, q'⟩
  | next => exact let ⟨_, H', J, q'⟩ := h; ⟨.non, H', J.os, J.bare, J.base, J.hok, rfl, q'⟩
  | brk => exact let ⟨_, _, _, q'⟩ := h; q'.elim
  | cont => exact let ⟨_, _, _, q'⟩ := h; q'.elim
end
section
variable {X : Cx} {k : Nat} {f : Addr} {fd : FuncData} {ps : List Str} {sp : Addr × Obj → Sp} {x : Str} {q pos : Pos} {e : Expr} {es : List Expr} {t : TA} {p : Addr × Obj}
/-- such a call -/
theorem pe_callP (F : FnP X.prog X.w X.K X.mg X.base k f fd ps sp) (hr : RoomH k X.A) (hp : p ∈ X.pn) (hg : Gl X x) (hm : X.mg x = some (.ref f)) (hk : PySem.W.keepIn X.K (.ref f) = true) (hb : Binds X.K fd ps []) (ha : PA X (e :: es) t)
    (hdb : (x == ("__debug__" : Str)) = false := by decide) (he : starEach (e :: es) X.env = (false, eval e X.env) :: starEach es X.env := by rfl) (hpl : (backTo pos (starEach es X.env)).any (·.1) = false := by rfl) :
    PE X (.Call (.Name x q) (e :: es) [] pos) (tCallS (sp p) (fun _ => E0) t) := ⟨fun pins s σ H Q I h => by
  refine wpAny_Call_Name_kw (ld_glob I hg hm (PySem.W.callWith_K (h₀ := X.base) I.ok.mod.kin hk (thn (ha.run pos pins s σ H _ I h) fun us s1 ⟨vs, H1, I1, r, q1⟩ => ⟨I1.kIn, ?_⟩) he hpl) hdb)
  have b := hb s1 us I1.kIn (by rw [List.append_nil, ← r.length]; exact F.len _ _ _ _ _ q1)
  rw [List.append_nil] at b
  obtain ⟨p1, p2, p3, p4, p5⟩ := I1.pin p (List.mem_append_left _ hp)
  have pin : PinOk X.stack H1 s1 p := ⟨p1, p2, fun z => (List.mem_cons.mp (I1.stkSub p.1 z)).elim p3 p4, p5⟩
  refine wpAny_call (codeAny_mono (F.run p X.A X.stack s1 H1 ⟨us, []⟩ us vs Q E0 hr pin I1.env0 b r q1) fun r s' z => ?_)
  cases r with
  | error _ => exact False.elim z
  | ok fl =>
    cases fl with
    | ret u => exact I1.after z
    | _ => exact False.elim z⟩
/-- isinstance(e, c), e the exception that is pinned -/
theorem call_isP {a d : Addr} {oe : Obj} (hp : (a, oe) ∈ X.pn) (C : ExcC X.K d) (hz : Zc (.ref d) none oe) (hf : ∃ vs, oe.data = .fields vs) : CallR X (.builtin "isinstance") (rIsE X.K d a) := by
  rintro pins s σ H xs us Q I r ⟨c, cv, b, rfl, hcv, e, q⟩
  obtain ⟨u1, u2, rfl, rx, rt⟩ : ∃ u1 u2, us = [u1, u2] ∧ RelV (.ref a) u1 ∧ RelV c u2 := by
    cases r with
    | cons r1 r2 =>
      cases r2 with
      | cons r3 r4 => cases r4; exact ⟨_, _, rfl, r1, r3⟩
  obtain rfl : u1 = .ref a := rx
  have ec := hcv _ rt
  subst ec
  have hget := (I.pin (a, oe) (List.mem_append_left _ hp)).1
  obtain ⟨vs, hv⟩ := hf
  obtain ⟨oc, od, oda, osl⟩ := oe
  obtain ⟨h1, h2⟩ := hz
  dsimp only at h1 h2 hv
  subst h1 h2 hv
  exact PySem.W.kia_one (PySem.W.handS_kitx_exc C.hg C.hk C.hs C.hd C.ha C.hn C.ht C.hm) I.kIn ⟨hget, rfl, rfl, trivial⟩ e (fun z => nomatch z) fun tk => ⟨.bl b, H, I.kept (t' := tk) fun _ _ z => z, rfl, q⟩
end
theorem takes_len {X : Cx} {W : WX} (t : Takes X W) : Takes X (fun c d σ H => σ.length = X.N.length → W c d σ H) := fun u s' ⟨a, B, sI, pins, σ, H, cl, d, e, I, r⟩ =>
  t u s' ⟨a, B, sI, pins, σ, H, cl, d, e, I, r.1, r.2.1, r.2.2.1, r.2.2.2.1, r.2.2.2.2.1, r.2.2.2.2.2.1, r.2.2.2.2.2.2 I.len⟩
/-! ### try: body, except x as n: return f(n) -/
def sTry (names : List Str) (b : SM) (h : Str → Str) : SM := fun ρ => (b ρ).bind fun | .ex n => if n ∈ names then some (.rt (.str (h n))) else none | o => some o
/-- what the def promises that is handed the exception: a text by its class -/
def spW (cls : Str → Addr) (names : List Str) (h : Str → Str) (p : Addr × Obj) : Sp := fun vs H Q _ => ∃ n ∈ names, vs = [.ref p.1] ∧ Zc (.ref (cls n)) none p.2 ∧ (∃ vs, p.2.data = .fields vs) ∧ ∀ H', (∀ L, Ext L H H') → Q (.str (h n)) H'
section
variable {X : Cx} {L : List Addr} {nw : Bool} {Ol O : Ow} {cls : Str → Addr} {names : List Str} {h : Str → Str} {k i : Nat} {f : Addr} {fd : FuncData} {ps : List Str} {x n g : Str} {c : Value} {body : List Stmt} {b : SM} {np p' q cpos rpos pos pos' : Pos}
theorem so_tryWord (F : FnP X.prog X.w X.K X.mg X.base k f fd ps (spW cls names h)) (hr : Room k X.A) (hg : Gl X g) (hm : X.mg g = some (.ref f)) (hk : PySem.W.keepIn X.K (.ref f) = true) (hbd : Binds X.K fd ps [])
    (hs : X.stack = X.env :: X.outer) (hf : X.env.frame = some X.env.locals) (hN : X.N.Nodup) (hi : X.N[i]? = some n) (hln : X.env.kindOf n = some .local) (hc : Names X x c) (tk : Takes X fun _ _ _ _ => False)
    (hex : ∀ n ∈ names, PySem.W.exmOne X.K (.ref (cls n)) c = some true)
    (hb : ∀ (W : WX) (pn : List (Addr × Obj)) (xe : Value → Shared → Prop), Takes (X.tr pn xe) W → PassesOwn (model X.prog X.w) X.A X.env xe → PSsO (X.tr pn xe) L nw (WofN cls W) Ol O O body b)
    (hv : ∀ a pn, PE (X.suite a pn) (.Name n p') (tVar i)) (hgs : ∀ a pn, Gl (X.suite a pn) g)
    (hdb : (g == ("__debug__" : Str)) = false := by decide) (he : ∀ a pn, starEach [.Name n p'] (X.suite a pn).env = (false, eval (.Name n p') (X.suite a pn).env) :: starEach [] (X.suite a pn).env := by intro _ _; rfl) (hpl : ∀ a pn, (backTo cpos (starEach [] (X.suite a pn).env)).any (·.1) = false := by intro _ _; rfl) :
    PSO X L nw W0 Ol O O (.Try body [.ExceptHandler (some (.Name x np)) (some n) [.Return (some (.Call (.Name g q) [.Name n p'] [] cpos)) rpos] pos'] [] [] pos) (sTry names b h) := by
  have hsu : ∀ (a : Addr) (oe : Obj) (cl : Value) (d : Option Addr) (pn : List (Addr × Obj)), Zc cl d oe → (∃ vs, oe.data = .fields vs) → PSs (X.suite a ((a, oe) :: pn)) [.Return (some (.Call (.Name g q) [.Name n p'] [] cpos)) rpos] (fun Dn σ H => ∃ m ∈ names, cl = .ref (cls m) ∧ d = none ∧ σ[i]? = some (some (.ref a)) ∧ ∀ H', (∀ L, Ext L H H') → Dn.rt (.str (h m)) H') := fun a oe cl d pn hz hfl =>
    PSs.imp (pss_one (ps_ret (pe_callP (p := (a, oe)) F ⟨hr.dp, hr.un⟩ List.mem_cons_self (hgs a _) hm hk hbd (pa_cons (hv a _) pa_nil (he a _)) hdb (he a _) (hpl a _)))) fun Dn σ H ⟨m, hmn, e1, e2, e3, q⟩ => by
      subst e1 e2
      exact ⟨.ref a, e3, m, hmn, rfl, hz, hfl, q⟩
  refine PS.imp (ps_try_as (tb := fun W => tS X.K L nw (WofN cls fun c d σ H => σ.length = X.N.length → W c d σ H) Ol O O b) (Wout := fun _ _ _ _ => False) hs hf hN hi hln hc tk (fun W pn xe t1 t2 => hb _ pn xe (takes_len t1) t2) hsu) fun Dn σ H ⟨G0, H0, ρ, o, ho, ht, hmm, q⟩ => ?_
  unfold sTry at hmm
  cases k1 : b ρ with
  | none => rw [k1] at hmm; cases hmm
  | some o1 =>
    rw [k1] at hmm
    refine ⟨G0, H0, ρ, o1, ho, ht, k1, ?_⟩
    cases o1 with
    | ex m =>
      simp only [Option.bind_some, Option.ite_none_right_eq_some, Option.some.injEq] at hmm
      obtain ⟨hnm, rfl⟩ := hmm
      refine fun σ' G' H' g' hl => ⟨true, hex m hnm, fun _ a ha => ⟨m, hnm, rfl, rfl, ?_, fun H' he => ?_⟩, fun z => nomatch z⟩
      · refine List.getElem?_set_self ?_
        rw [hl]
        exact (List.getElem?_eq_some_iff.mp hi).1
      · cases nw with
        | true => exact (show ∀ v G' H' A, Gr L G0 H0 G' H' → Own X.K G' H' (.str (h m)) .all v A → Fresh H0 G' A → Dn.rt v H' from q) _ G' H' [] (g'.trans (.of g'.sub (he L))) ⟨rfl, rfl⟩ .nil
        | false => exact (show ∀ v G' H', Gr L G0 H0 G' H' → At X.K G' (.str (h m)) v → Dn.rt v H' from q) _ G' H' (g'.trans (.of g'.sub (he L))) rfl
    | _ => cases hmm; exact q
end
end DN

set_option Elab.async false
set_option linter.all false
set_option maxRecDepth 100000
set_option maxHeartbeats 2000000
/-! The text that names an own error by its class. -/
namespace DN
open PySem PySem.Spec PyProof.Rows L2 L2H
/-- e is worth v where pre holds of the names -/
def PV (X : Cx) (pre : L2.St → Prop) (e : Expr) (v : V) : Prop := PE X e fun σ H Q => pre σ ∧ Q v H
def lit (s : Str) (b : Bool) : Str := if b = true then s else Str.empty
theorem lit_len (s : Str) (b : Bool) : (lit s b).length ≤ s.length := by
  unfold lit
  cases b with
  | true => exact Nat.le_refl _
  | false => exact Nat.zero_le _
section
variable {X : Cx} {pre : L2.St → Prop} {a d : Addr} {oe : Obj} {x C : Str} {e f : Expr} {p1 p2 p3 p4 p5 pos : Pos} {b : Bool}
theorem pv_is {cv : Value} {c : V} (hp : (a, oe) ∈ X.pn) (ex : ExcC X.K d) (hz : Zc (.ref d) none oe) (hf : ∃ vs, oe.data = .fields vs) (hpre : ∀ σ, pre σ → σ[0]? = some (some (.ref a))) (hN : X.N[0]? = some x) (hv : Vis X.env.scope x)
    (hg : Gl X "isinstance") (hm : X.mg "isinstance" = none) (hc : PE X (.Name C p3) (tC c)) (hcv : ∀ u, RelV c u → u = cv) (hk : PySem.W.kitOne X.K (.ref d) cv = some b) (hd : (x == ("__debug__" : Str)) = false := by decide) (hcd : (x == ("__classdict__" : Str)) = false := by decide)
    (na : starEach [.Name x p2, .Name C p3] X.env = (false, eval (.Name x p2) X.env) :: starEach [.Name C p3] X.env := by rfl) (nb : starEach [.Name C p3] X.env = (false, eval (.Name C p3) X.env) :: starEach [] X.env := by rfl) (hpl : (backTo pos (starEach [.Name C p3] X.env)).any (·.1) = false := by rfl) :
    PV X pre (.Call (.Name "isinstance" p1) [.Name x p2, .Name C p3] [] pos) (.bl b) :=
  PE.imp (pe_callB (call_isP hp ex hz hf) hg hm (by decide +kernel) (pa_cons (pe_var (i := 0) hN hv hd hcd) (pa_cons hc pa_nil nb) na) (he := na) (hpl := hpl)) fun σ H Q ⟨h, q⟩ => ⟨.ref a, hpre σ h, c, cv, b, rfl, hcv, hk, q⟩
theorem pv_lit {s : Str} {j : Nat} (hg : Gl X "int") (hm : X.mg "int" = none) (he : PV X pre e (.bl b)) (na : starEach [e] X.env = (false, eval e X.env) :: starEach [] X.env := by rfl) : PV X pre (.BinOp (.Constant (.str s) j p1) .Mult (.Call (.Name "int" p2) [e] [] p3) pos) (.str (lit s b)) :=
  PE.imp (pe_op op_mulD pe_str (pe_callTy call_int1 hg hm (by decide +kernel) (pa_cons he pa_nil na) (he := na))) fun σ H Q ⟨h, q⟩ => by
    refine ⟨h, .inr ⟨b, rfl, .inr (.inr ⟨s, _, rfl, rfl, ?_⟩)⟩⟩
    cases b with
    | true => exact .inr ⟨rfl, q⟩
    | false => exact .inl ⟨rfl, q⟩
theorem pv_add {s t : Str} (he : PV X pre e (.str s)) (hf : PV X pre f (.str t)) (hl : s.length + t.length ≤ 1000) : PV X pre (.BinOp e .Add f pos) (.str (s ++ t)) :=
  PE.imp (pe_op op_addD he hf) fun σ H Q ⟨h, q⟩ => ⟨h, h, .inr (.inr (.inl ⟨s, t, rfl, rfl, Nat.le_trans hl (by decide), q⟩))⟩
theorem pv_at {i : Nat} {v : V} (hpre : ∀ σ, pre σ → σ[i]? = some (some v)) (hN : X.N[i]? = some x) (hv : Vis X.env.scope x) (hd : (x == ("__debug__" : Str)) = false := by decide) (hcd : (x == ("__classdict__" : Str)) = false := by decide) : PV X pre (.Name x pos) v :=
  PE.imp (pe_var hN hv hd hcd) fun σ H Q ⟨h, q⟩ => ⟨v, hpre σ h, q⟩
theorem ps_pv {i : Nat} {v : V} (hN : X.N.Nodup) (hi : X.N[i]? = some x) (hx : Loc X.env.scope x) (he : PV X pre e v) (hs : swapsWith e (some (.Name x p1)) pos.line X.env = pure false := by rfl) (hf : X.fn x = true ∨ X.env.scope.names.lookup x = some .local := by first | exact .inl rfl | exact .inr rfl | assumption) :
    PS X (.Assign [.Name x p1] e pos) (fun Dn σ H => pre σ ∧ Dn.nx (σ.set i (some v)) H) := PS.imp (ps_set hN hi hx he hs hf) fun Dn σ H h => h
/-- return [name, word][int(not e)], e True -/
theorem ps_pick {i : Nat} {s w : Str} {j : Nat} (hpre : ∀ σ, pre σ → σ[i]? = some (some (.str s))) (hN : X.N[i]? = some x) (hv : Vis X.env.scope x) (hg : Gl X "int") (hm : X.mg "int" = none) (he : PV X pre e (.bl true)) (na : starEach [.UnaryOp .Not e p4] X.env = (false, eval (.UnaryOp .Not e p4) X.env) :: starEach [] X.env := by rfl)
    (hd : (x == ("__debug__" : Str)) = false := by decide) (hcd : (x == ("__classdict__" : Str)) = false := by decide) (nl : starEach [.Name x p1, .Constant (.str w) j p2] X.env = (false, eval (.Name x p1) X.env) :: starEach [.Constant (.str w) j p2] X.env := by rfl) (nm : starEach [.Constant (.str w) j p2] X.env = (false, eval (.Constant (.str w) j p2) X.env) :: starEach [] X.env := by rfl) {p6 p7 : Pos} :
    PS X (.Return (some (.Subscript (.List [.Name x p1, .Constant (.str w) j p2] p3) (.Call (.Name "int" p5) [.UnaryOp .Not e p4] [] p6) p7)) pos) (fun Dn σ H => pre σ ∧ ∀ H', (∀ L, Ext L H H') → Dn.rt (.str s) H') :=
  PS.imp (ps_ret (pe_ix ix_list (pe_lst (pa_cons (pe_var hN hv hd hcd) (pa_cons pe_str pa_nil nm) nl)) (pe_callTy call_int1 hg hm (by decide +kernel) (pa_cons (pe_not he) pa_nil na) (he := na)) (fun _ _ => rfl))) fun Dn σ H ⟨h, q⟩ => by
    refine ⟨.str s, hpre σ h, (by show 2 ≤ sizeLine; decide), fun p hp => ⟨h, true, rfl, .inr ⟨false, rfl, p, _, 0, .str s, rfl, rfl, SqL.of upd_same, rfl, q _ fun L => .new hp⟩⟩⟩
end
def Short (s : Str) (n : Nat) : Prop := s.length ≤ n
theorem sh_lit {s : Str} {b : Bool} : Short (lit s b) s.length := lit_len s b
theorem sh_add {s t : Str} {m n : Nat} (h : Short s m) (k : Short t n) : Short (s ++ t) (m + n) := by
  show (s ++ t).length ≤ m + n
  have e : (s ++ t).length = s.length + t.length := by first | exact Str.length_append s t | simp
  rw [e]
  exact Nat.add_le_add h k
theorem lens_le {s t : Str} {m n : Nat} (h : Short s m ∧ Short t n) (k : m + n ≤ 1000) : s.length + t.length ≤ 1000 := Nat.le_trans (Nat.add_le_add h.1 h.2) k
end DN
namespace DN
open PySem PySem.Spec PyProof.Rows L2 GX
def gscpB (N : List Str) (sc scope : Scope) (caps : List (Str × Nat)) : Bool :=
  (scope.kind == .function) && (scope.isCoroutine == false) && scope.names.all (fun y => decide (y.2 ≠ .cell)) && decide (scope.names.lookup (".0" : Str) = some .local) &&
  scope.names.all (fun y => decide (y.2 ≠ .free) || decide (sc.names.lookup y.1 = some .cell) || decide (sc.names.lookup y.1 = some .free)) && caps.all fun p => decide (scope.names.lookup p.1 = some .free) && decide (N[p.2]? = some p.1)
theorem gscp_of {N : List Str} {sc scope : Scope} {own : List Str} {caps : List (Str × Nat)} (h : gscpB N sc scope caps = true) : GScp N sc scope own caps := by
  unfold gscpB at h
  simp only [Bool.and_eq_true, List.all_eq_true, decide_eq_true_eq, Bool.or_eq_true] at h
  obtain ⟨⟨⟨⟨⟨h1, h2⟩, h3⟩, h4⟩, h5⟩, h6⟩ := h
  refine ⟨by simpa using h1, by simpa using h2, h3, h4, fun y hy e => ?_, h6⟩
  rcases h5 y hy with (z | z) | z
  · exact absurd e z
  · exact .inl z
  · exact .inr z
theorem nd_of {N : List Str} (h : N.Nodup) : N.Nodup := h
end DN

set_option Elab.async false
set_option linter.all false
set_option maxRecDepth 100000
set_option maxHeartbeats 2000000
/-! The end of a row whose defs hold generator expressions. -/
namespace DN
open PySem PySem.Spec PyProof.Rows L2 GxR
/-- the tables of the defs of q are empty at h -/
def Empties (K : PySem.W.Frag) (mg : Str → Option Value) (q : Program) (h : Heap) : Prop := ∀ (x : Str) (fa c P : Addr) (o : Obj) (fd : FuncData), ((recsOf q).any fun e => e.name == x) = true → mg x = some (.ref fa) → K.lookup fa = some o → o.data = .func fd → fd.code = .ref c → PySem.W.CodeHd h c P → h.get? P = some { cls := .none, data := .fields #[] }
theorem walkN {l : PySem.W.OpenLaw} {n k : Nat} {q : Program} {loose : List Str} {XP : (Str → Option Value) → Heap → Prop} {YP : World → Heap → Prop} {d : DefRec} {K : Params → PySem.W.Frag} {CX : World → CXT} {x : Str} (hn : l.most = some n) (hn2 : n ≤ sizeLine) (hdf : d.params.defaults = []) (hr : Room k callerA) (hY : ∀ (w : World) (h : Heap), YP w h → (K w.params).In h)
    (F : ∀ (w : World) (mg : Str → Option Value) (fa : Addr) (h : Heap), YP w h → (K w.params).In h → h.Ns mainGlobals mg → mg d.name = some (.ref fa) → Empties (K w.params) mg q h → LamX.LawAtS l w (K w.params) (CX w) k n x mg fa h) (hCX : ∀ (w : World) (H : Hp) (s : Shared) (e : Value) (s' : Shared), CX w [] H s (fun _ _ _ => False) e s' → False) :
    PySem.W.WalkO q loose XP YP l.row.toRowW d [] (fun f vs => PySem.call f vs) := by
  refine Att.attach_callB hn hdf fun w s0 s1 mg mb fa o pm cd doc a vs ns G Y ho hd hcd hmg hob hi hlen hbits hg => ?_
  have KX := hY w _ Y
  have em : Empties (K w.params) mg q s1.heap := fun y fb c P ob fd hy hy2 h1 h2 h3 ⟨oc, us, f1, t1, f2, t2, b1, t3, t4, g1, _, g3, g4, _⟩ => by
    obtain ⟨dl, hm, hn1⟩ := List.any_eq_true.mp hy
    obtain ⟨a', o', fd', c', P', k1, k2, k3, k4, k5, ⟨o2, v2, e1, _, e3, e4⟩, hP⟩ := G.T.tab dl hm
    have ey : dl.name = y := beq_iff_eq.mp hn1
    obtain rfl : fb = a' := Value.ref.inj (Option.some.inj (hy2.symm.trans (by rw [← ey]; exact k1)))
    obtain rfl : ob = o' := Option.some.inj ((KX _ _ h1).symm.trans k2)
    obtain rfl : fd = fd' := Data.func.inj (h2.symm.trans k3)
    obtain rfl : c = c' := Value.ref.inj (h3.symm.trans k4)
    obtain rfl : oc = o2 := Option.some.inj (g1.symm.trans e1)
    have ev := g3.symm.trans e3
    cases ev
    obtain rfl : P = P' := Value.ref.inj (Option.some.inj (g4.symm.trans e4))
    exact hP
  obtain ⟨fd, cs, sp, hT, nT, C, hb, hsp, hF⟩ := F w mg fa _ Y KX G.T.g hmg em
  exact LamX.law_callTs KX G.T.g G.T.b G.T.builtins G.T.nolimit hg hT nT C G.T.bmain hob hi (Nat.le_trans hlen hn2) hr hF hb (fun H hH hS => hsp H a ns hlen hbits hH hS) fun H e s' => hCX w H s1 e s'
/-- what is seen of a heap: all but its tables -/
def noTab (H : Hp) : Hp := fun a => match H a with
  | some (.tbl _) => none
  | o => o
theorem sub_noTab (H : Hp) : Sub (noTab H) H := fun a o e => by
  unfold noTab at e
  cases q : H a with
  | none => rw [q] at e; cases e
  | some u =>
    rw [q] at e
    cases u <;> simp only [reduceCtorEq, Option.some.injEq] at e <;> subst e <;> exact ⟨rfl, fun ps z => by cases z⟩
theorem at_script {K : PySem.W.Frag} {H : Hp} {a : Addr} {ns : List Int} (h : SqL K H a (ns.map V.int)) : At K (noTab H) (.scr ns) (.ref a) := by
  refine ⟨a, rfl, ?_⟩
  rcases h with (h | ⟨o, h⟩) | h
  · exact .inl (.inl (by unfold noTab; rw [h]))
  · exact .inl (.inr ⟨o, by unfold noTab; rw [h]⟩)
  · exact .inr h
/-- the law's promise, from its mirror's worth -/
theorem law_sp {K : PySem.W.Frag} {cs : List (Addr × Addr)} {L : List Addr} {g : List D → Option D} (hL : ∀ P ∈ L, ∃ p ∈ cs, p.2 = P) (hg : ∀ ns : List Int, g [.scr ns] = some (.bl true)) (H : Hp) (a : Addr) (ns : List Int) (hT : ∀ p ∈ cs, H p.2 = some (.tbl #[])) (h : SqL K H a (ns.map V.int)) :
    spPN K L false 1 g [.ref a] H (fun v _ => v = .bl true) fun _ _ _ => False := by
  refine ⟨noTab H, [.scr ns], .bl true, sub_noTab H, fun P hP => ?_, rfl, .one (at_script h), hg ns, (show ∀ v G' H', Gr L (noTab H) H G' H' → At K G' (.bl true) v → v = .bl true from fun v G' H' _ av => av)⟩
  obtain ⟨p, hp, rfl⟩ := hL P hP
  exact ⟨#[], hT p hp, by simp [TriplesOk]⟩
theorem tabG_of {base : Heap} {mg : Str → Option Value} {c P : Addr} (t : LamX.TabB base mg c P) : GxR.TabB base mg c P := ⟨t.code, t.bm, t.gP⟩
end DN

set_option Elab.async false
set_option linter.all false
set_option maxRecDepth 100000
set_option maxHeartbeats 400000
namespace K01
open PySem PySem.Spec PyProof.Rows L2 L2H GxR GX DN
def topS (i : Nat) : Stmt := PySem.Challenge.pw_loopgauge_k01_what_is_no_loop.main.body.getD i (.Pass ⟨0, 0, 0, 0⟩)
def errs : List Str := ["BadLoop"]
def all6 : List Str := ["BadLoop", "BadState", "BadCount", "BadGauge", "BadTable", "BadText"]
def tellE (n : Str) : Str := (((((lit "loop " (decide (n = ("BadLoop" : Str))) ++ lit "state " (decide (n = ("BadState" : Str)))) ++ lit "count " (decide (n = ("BadCount" : Str)))) ++ lit "gauge " (decide (n = ("BadGauge" : Str)))) ++ lit "table " (decide (n = ("BadTable" : Str)))) ++ lit "text " (decide (n = ("BadText" : Str))))
theorem errs_ok : True := trivial
abbrev s_is_whole : Stmt := topS 15
theorem sc_is_whole : FnScope ["thing"] ["thing"] (defScope s_is_whole) := ⟨rfl, rfl, rfl, by decide +kernel, rfl, by decide +kernel, by decide +kernel⟩
abbrev s_is_whole_within : Stmt := topS 16
theorem sc_is_whole_within : FnScope ["thing", "low", "high"] ["thing", "low", "high"] (defScope s_is_whole_within) := ⟨rfl, rfl, rfl, by decide +kernel, rfl, by decide +kernel, by decide +kernel⟩
abbrev s_is_list_of : Stmt := topS 17
theorem sc_is_list_of : FnScope ["thing", "least", "most"] ["thing", "least", "most"] (defScope s_is_list_of) := ⟨rfl, rfl, rfl, by decide +kernel, rfl, by decide +kernel, by decide +kernel⟩
abbrev s_are_wholes : Stmt := topS 18
theorem sc_are_wholes : FnScope ["thing", "length"] ["thing", "length"] (defScope s_are_wholes) := ⟨rfl, rfl, rfl, by decide +kernel, rfl, by decide +kernel, by decide +kernel⟩
abbrev s_is_pair : Stmt := topS 19
theorem sc_is_pair : FnScope ["thing"] ["thing"] (defScope s_is_pair) := ⟨rfl, rfl, rfl, by decide +kernel, rfl, by decide +kernel, by decide +kernel⟩
abbrev s_is_row : Stmt := topS 20
theorem sc_is_row : FnScope ["thing", "many"] ["thing", "many"] (defScope s_is_row) := ⟨rfl, rfl, rfl, by decide +kernel, rfl, by decide +kernel, by decide +kernel⟩
abbrev s_are_rows : Stmt := topS 21
theorem sc_are_rows : FnScope ["thing", "many", "least", "most"] ["thing", "many", "least", "most"] (defScope s_are_rows) := ⟨rfl, rfl, rfl, by decide +kernel, rfl, by decide +kernel, by decide +kernel⟩
abbrev s_is_way : Stmt := topS 22
theorem sc_is_way : FnScope ["thing", "many", "asks", "gives"] ["thing", "many"] (defScope s_is_way) := ⟨rfl, rfl, rfl, by decide +kernel, rfl, by decide +kernel, by decide +kernel⟩
abbrev s_is_loop : Stmt := topS 23
theorem sc_is_loop : FnScope ["thing", "many", "ways"] ["thing"] (defScope s_is_loop) := ⟨rfl, rfl, rfl, by decide +kernel, rfl, by decide +kernel, by decide +kernel⟩
abbrev s_need_loop : Stmt := topS 25
theorem sc_need_loop : FnScope ["thing"] ["thing"] (defScope s_need_loop) := ⟨rfl, rfl, rfl, by decide +kernel, rfl, by decide +kernel, by decide +kernel⟩
abbrev s_after : Stmt := topS 32
theorem sc_after : FnScope ["loop", "number", "state", "many", "ways"] ["loop", "number", "state"] (defScope s_after) := ⟨rfl, rfl, rfl, by decide +kernel, rfl, by decide +kernel, by decide +kernel⟩
abbrev s_run : Stmt := topS 33
theorem sc_run : FnScope ["loop", "state", "most", "many", "ways", "states", "_", "following"] ["loop", "state", "most"] (defScope s_run) := ⟨rfl, rfl, rfl, by decide +kernel, rfl, by decide +kernel, by decide +kernel⟩
abbrev s_told : Stmt := topS 74
theorem sc_told : FnScope ["loop", "many", "ways"] ["loop"] (defScope s_told) := ⟨rfl, rfl, rfl, by decide +kernel, rfl, by decide +kernel, by decide +kernel⟩
abbrev s_is_reason : Stmt := topS 75
theorem sc_is_reason : FnScope ["loop", "gauge", "reason", "many", "ways", "part", "way"] ["loop", "gauge", "reason"] (defScope s_is_reason) := ⟨rfl, rfl, rfl, by decide +kernel, rfl, by decide +kernel, by decide +kernel⟩
abbrev s_are_spots : Stmt := topS 76
theorem sc_are_spots : FnScope ["loop", "spots", "many", "ways", "shown", "part", "way", "shifts"] ["loop", "spots"] (defScope s_are_spots) := ⟨rfl, rfl, rfl, by decide +kernel, rfl, by decide +kernel, by decide +kernel⟩
abbrev s_most_turns : Stmt := topS 77
theorem sc_most_turns : FnScope ["loop", "gauge", "state", "many", "_", "row", "by", "there"] ["loop", "gauge", "state"] (defScope s_most_turns) := ⟨rfl, rfl, rfl, by decide +kernel, rfl, by decide +kernel, by decide +kernel⟩
abbrev s_row_line : Stmt := topS 79
theorem sc_row_line : FnScope ["word", "row", "number"] ["word", "row"] (defScope s_row_line) := ⟨rfl, rfl, rfl, by decide +kernel, rfl, by decide +kernel, by decide +kernel⟩
abbrev s_way_lines : Stmt := topS 80
theorem sc_way_lines : FnScope ["way", "asks", "gives", "row"] ["way"] (defScope s_way_lines) := ⟨rfl, rfl, rfl, by decide +kernel, rfl, by decide +kernel, by decide +kernel⟩
abbrev s_written : Stmt := topS 81
theorem sc_written : FnScope ["loop", "many", "ways", "lines", "way"] ["loop"] (defScope s_written) := ⟨rfl, rfl, rfl, by decide +kernel, rfl, by decide +kernel, by decide +kernel⟩
abbrev s_law_cell_at : Stmt := topS 83
theorem sc_law_cell_at : FnScope ["_law_script", "_law_k"] ["_law_script", "_law_k"] (defScope s_law_cell_at) := ⟨rfl, rfl, rfl, by decide +kernel, rfl, by decide +kernel, by decide +kernel⟩
abbrev s_law_drawn : Stmt := topS 84
theorem sc_law_drawn : FnScope ["_law_seed", "_law_k", "_law_mixed"] ["_law_seed", "_law_k"] (defScope s_law_drawn) := ⟨rfl, rfl, rfl, by decide +kernel, rfl, by decide +kernel, by decide +kernel⟩
abbrev s_law_row_by : Stmt := topS 85
theorem sc_law_row_by : FnScope ["_law_cell", "_law_k", "_law_many", "_law_j"] ["_law_cell", "_law_k", "_law_many"] (defScope s_law_row_by) := ⟨rfl, rfl, rfl, by decide +kernel, rfl, by decide +kernel, by decide +kernel⟩
abbrev s_law_way_by : Stmt := topS 86
theorem sc_law_way_by : FnScope ["_law_cell", "_law_many", "_law_mode", "_law_asks", "_law_k", "_law_gives", "_law_steps", "_law_j", "_law_one", "_law_row"] ["_law_cell", "_law_many"] (defScope s_law_way_by) := ⟨rfl, rfl, rfl, by decide +kernel, rfl, by decide +kernel, by decide +kernel⟩
abbrev s_law_far : Stmt := topS 87
theorem sc_law_far : FnScope ["_law_row", "_law_one"] ["_law_row"] (defScope s_law_far) := ⟨rfl, rfl, rfl, by decide +kernel, rfl, by decide +kernel, by decide +kernel⟩
abbrev s_law_loop_by : Stmt := topS 88
theorem sc_law_loop_by : FnScope ["_law_script", "_law_at", "_law_first", "_law_many", "_law_size", "_law_ways", "_law_k", "_law_far_here", "_law_asks", "_law_gives", "_law_row"] ["_law_script", "_law_at"] (defScope s_law_loop_by) := ⟨rfl, rfl, rfl, by decide +kernel, rfl, by decide +kernel, by decide +kernel⟩
abbrev s_law_name_of : Stmt := topS 89
theorem sc_law_name_of : FnScope ["_law_error", "_law_found"] ["_law_error"] (defScope s_law_name_of) := ⟨rfl, rfl, rfl, by decide +kernel, rfl, by decide +kernel, by decide +kernel⟩
abbrev s_law_copied : Stmt := topS 90
theorem sc_law_copied : FnScope ["_law_thing", "_law_part"] ["_law_thing"] (defScope s_law_copied) := ⟨rfl, rfl, rfl, by decide +kernel, rfl, by decide +kernel, by decide +kernel⟩
abbrev s_law_asked : Stmt := topS 91
theorem sc_law_asked : FnScope ["_law_which", "_law_thing"] ["_law_which", "_law_thing"] (defScope s_law_asked) := ⟨rfl, rfl, rfl, by decide +kernel, rfl, by decide +kernel, by decide +kernel⟩
abbrev s_law_word : Stmt := topS 92
theorem sc_law_word : FnScope ["_law_which", "_law_thing", "_law_error"] ["_law_which", "_law_thing"] (defScope s_law_word) := ⟨rfl, rfl, rfl, by decide +kernel, rfl, by decide +kernel, by decide +kernel⟩
abbrev s_law_put : Stmt := topS 93
theorem sc_law_put : FnScope ["_law_row", "_law_at", "_law_thing"] ["_law_row", "_law_at", "_law_thing"] (defScope s_law_put) := ⟨rfl, rfl, rfl, by decide +kernel, rfl, by decide +kernel, by decide +kernel⟩
abbrev s_law_row_bent : Stmt := topS 94
theorem sc_law_row_bent : FnScope ["_law_rows", "_law_cell", "_law_at", "_law_row", "_law_odd", "_law_some", "_law_thing"] ["_law_rows", "_law_cell", "_law_at"] (defScope s_law_row_bent) := ⟨rfl, rfl, rfl, by decide +kernel, rfl, by decide +kernel, by decide +kernel⟩
abbrev s_law_bent : Stmt := topS 95
theorem sc_law_bent : FnScope ["_law_loop", "_law_cell", "_law_at", "_law_many", "_law_ways", "_law_k", "_law_asks", "_law_gives", "_law_way", "_law_five", "_law_whole"] ["_law_loop", "_law_cell", "_law_at"] (defScope s_law_bent) := ⟨rfl, rfl, rfl, by decide +kernel, rfl, by decide +kernel, by decide +kernel⟩
abbrev s_law_is_row : Stmt := topS 96
theorem sc_law_is_row : FnScope ["_law_thing", "_law_many", "_law_one"] ["_law_thing", "_law_many"] (defScope s_law_is_row) := ⟨rfl, rfl, rfl, by decide +kernel, rfl, by decide +kernel, by decide +kernel⟩
abbrev s_law_is_loop : Stmt := topS 97
theorem sc_law_is_loop : FnScope ["_law_thing", "_law_many", "_law_ways", "_law_way", "_law_row"] ["_law_thing"] (defScope s_law_is_loop) := ⟨rfl, rfl, rfl, by decide +kernel, rfl, by decide +kernel, by decide +kernel⟩
abbrev s_law : Stmt := topS 98
theorem sc_law : FnScope ["_law_script", "_law_loop", "_law_cell", "_law_thing", "_law_kept", "_law_good"] ["_law_script"] (defScope s_law) := ⟨rfl, rfl, rfl, by decide +kernel, rfl, by decide +kernel, by decide +kernel⟩
structure Ad where
  f_is_whole : Addr
  c_is_whole : Addr
  fd_is_whole : FuncData
  f_is_whole_within : Addr
  c_is_whole_within : Addr
  fd_is_whole_within : FuncData
  f_is_list_of : Addr
  c_is_list_of : Addr
  fd_is_list_of : FuncData
  f_are_wholes : Addr
  c_are_wholes : Addr
  fd_are_wholes : FuncData
  f_is_pair : Addr
  c_is_pair : Addr
  fd_is_pair : FuncData
  f_is_row : Addr
  c_is_row : Addr
  fd_is_row : FuncData
  f_are_rows : Addr
  c_are_rows : Addr
  fd_are_rows : FuncData
  f_is_way : Addr
  c_is_way : Addr
  fd_is_way : FuncData
  f_is_loop : Addr
  c_is_loop : Addr
  fd_is_loop : FuncData
  f_need_loop : Addr
  c_need_loop : Addr
  fd_need_loop : FuncData
  f_after : Addr
  c_after : Addr
  fd_after : FuncData
  f_run : Addr
  c_run : Addr
  fd_run : FuncData
  f_told : Addr
  c_told : Addr
  fd_told : FuncData
  f_is_reason : Addr
  c_is_reason : Addr
  fd_is_reason : FuncData
  f_are_spots : Addr
  c_are_spots : Addr
  fd_are_spots : FuncData
  f_most_turns : Addr
  c_most_turns : Addr
  fd_most_turns : FuncData
  f_row_line : Addr
  c_row_line : Addr
  fd_row_line : FuncData
  f_way_lines : Addr
  c_way_lines : Addr
  fd_way_lines : FuncData
  f_written : Addr
  c_written : Addr
  fd_written : FuncData
  f_law_cell_at : Addr
  c_law_cell_at : Addr
  fd_law_cell_at : FuncData
  f_law_drawn : Addr
  c_law_drawn : Addr
  fd_law_drawn : FuncData
  f_law_row_by : Addr
  c_law_row_by : Addr
  fd_law_row_by : FuncData
  f_law_way_by : Addr
  c_law_way_by : Addr
  fd_law_way_by : FuncData
  f_law_far : Addr
  c_law_far : Addr
  fd_law_far : FuncData
  f_law_loop_by : Addr
  c_law_loop_by : Addr
  fd_law_loop_by : FuncData
  f_law_name_of : Addr
  c_law_name_of : Addr
  fd_law_name_of : FuncData
  f_law_copied : Addr
  c_law_copied : Addr
  fd_law_copied : FuncData
  f_law_asked : Addr
  c_law_asked : Addr
  fd_law_asked : FuncData
  f_law_word : Addr
  c_law_word : Addr
  fd_law_word : FuncData
  f_law_put : Addr
  c_law_put : Addr
  fd_law_put : FuncData
  f_law_row_bent : Addr
  c_law_row_bent : Addr
  fd_law_row_bent : FuncData
  f_law_bent : Addr
  c_law_bent : Addr
  fd_law_bent : FuncData
  f_law_is_row : Addr
  c_law_is_row : Addr
  fd_law_is_row : FuncData
  f_law_is_loop : Addr
  c_law_is_loop : Addr
  fd_law_is_loop : FuncData
  f_law : Addr
  c_law : Addr
  fd_law : FuncData
  p_are_wholes : Addr
  p_is_row : Addr
  p_are_rows : Addr
  p_is_loop : Addr
  p_are_spots : Addr
  x_LoopError : Addr
  x_BadLoop : Addr
  x_BadState : Addr
  x_BadCount : Addr
  x_BadGauge : Addr
  x_BadTable : Addr
  x_BadText : Addr
def Ad.cls (A : Ad) (n : Str) : Addr := if n = "BadLoop" then A.x_BadLoop else if n = "BadState" then A.x_BadState else if n = "BadCount" then A.x_BadCount else if n = "BadGauge" then A.x_BadGauge else if n = "BadTable" then A.x_BadTable else if n = "BadText" then A.x_BadText else A.x_LoopError
def tl (A : Ad) : List Addr := [A.p_are_wholes, A.p_is_row, A.p_are_rows, A.p_is_loop, A.p_are_spots]
structure Txt (K : PySem.W.Frag) (mg : Str → Option Value) (A : Ad) : Prop where
  z_ValueError : mg "ValueError" = none
  F_is_whole : FunC K "is_whole" "is_whole" s_is_whole A.f_is_whole A.fd_is_whole A.c_is_whole
  g_is_whole : mg "is_whole" = some (.ref A.f_is_whole)
  b_is_whole : Binds K A.fd_is_whole ["thing"] []
  F_is_whole_within : FunC K "is_whole_within" "is_whole_within" s_is_whole_within A.f_is_whole_within A.fd_is_whole_within A.c_is_whole_within
  g_is_whole_within : mg "is_whole_within" = some (.ref A.f_is_whole_within)
  b_is_whole_within : Binds K A.fd_is_whole_within ["thing", "low", "high"] []
  F_is_list_of : FunC K "is_list_of" "is_list_of" s_is_list_of A.f_is_list_of A.fd_is_list_of A.c_is_list_of
  g_is_list_of : mg "is_list_of" = some (.ref A.f_is_list_of)
  b_is_list_of : Binds K A.fd_is_list_of ["thing", "least", "most"] []
  F_are_wholes : FunC K "are_wholes" "are_wholes" s_are_wholes A.f_are_wholes A.fd_are_wholes A.c_are_wholes
  g_are_wholes : mg "are_wholes" = some (.ref A.f_are_wholes)
  b_are_wholes : Binds K A.fd_are_wholes ["thing", "length"] []
  F_is_pair : FunC K "is_pair" "is_pair" s_is_pair A.f_is_pair A.fd_is_pair A.c_is_pair
  g_is_pair : mg "is_pair" = some (.ref A.f_is_pair)
  b_is_pair : Binds K A.fd_is_pair ["thing"] []
  F_is_row : FunC K "is_row" "is_row" s_is_row A.f_is_row A.fd_is_row A.c_is_row
  g_is_row : mg "is_row" = some (.ref A.f_is_row)
  b_is_row : Binds K A.fd_is_row ["thing", "many"] []
  F_are_rows : FunC K "are_rows" "are_rows" s_are_rows A.f_are_rows A.fd_are_rows A.c_are_rows
  g_are_rows : mg "are_rows" = some (.ref A.f_are_rows)
  b_are_rows : Binds K A.fd_are_rows ["thing", "many", "least", "most"] []
  F_is_way : FunC K "is_way" "is_way" s_is_way A.f_is_way A.fd_is_way A.c_is_way
  g_is_way : mg "is_way" = some (.ref A.f_is_way)
  b_is_way : Binds K A.fd_is_way ["thing", "many"] []
  F_is_loop : FunC K "is_loop" "is_loop" s_is_loop A.f_is_loop A.fd_is_loop A.c_is_loop
  g_is_loop : mg "is_loop" = some (.ref A.f_is_loop)
  b_is_loop : Binds K A.fd_is_loop ["thing"] []
  F_need_loop : FunC K "need_loop" "need_loop" s_need_loop A.f_need_loop A.fd_need_loop A.c_need_loop
  g_need_loop : mg "need_loop" = some (.ref A.f_need_loop)
  b_need_loop : Binds K A.fd_need_loop ["thing"] []
  F_after : FunC K "after" "after" s_after A.f_after A.fd_after A.c_after
  g_after : mg "after" = some (.ref A.f_after)
  b_after : Binds K A.fd_after ["loop", "number", "state"] []
  F_run : FunC K "run" "run" s_run A.f_run A.fd_run A.c_run
  g_run : mg "run" = some (.ref A.f_run)
  b_run : Binds K A.fd_run ["loop", "state", "most"] []
  F_told : FunC K "told" "told" s_told A.f_told A.fd_told A.c_told
  g_told : mg "told" = some (.ref A.f_told)
  b_told : Binds K A.fd_told ["loop"] []
  F_is_reason : FunC K "is_reason" "is_reason" s_is_reason A.f_is_reason A.fd_is_reason A.c_is_reason
  g_is_reason : mg "is_reason" = some (.ref A.f_is_reason)
  b_is_reason : Binds K A.fd_is_reason ["loop", "gauge", "reason"] []
  F_are_spots : FunC K "are_spots" "are_spots" s_are_spots A.f_are_spots A.fd_are_spots A.c_are_spots
  g_are_spots : mg "are_spots" = some (.ref A.f_are_spots)
  b_are_spots : Binds K A.fd_are_spots ["loop", "spots"] []
  F_most_turns : FunC K "most_turns" "most_turns" s_most_turns A.f_most_turns A.fd_most_turns A.c_most_turns
  g_most_turns : mg "most_turns" = some (.ref A.f_most_turns)
  b_most_turns : Binds K A.fd_most_turns ["loop", "gauge", "state"] []
  F_row_line : FunC K "row_line" "row_line" s_row_line A.f_row_line A.fd_row_line A.c_row_line
  g_row_line : mg "row_line" = some (.ref A.f_row_line)
  b_row_line : Binds K A.fd_row_line ["word", "row"] []
  F_way_lines : FunC K "way_lines" "way_lines" s_way_lines A.f_way_lines A.fd_way_lines A.c_way_lines
  g_way_lines : mg "way_lines" = some (.ref A.f_way_lines)
  b_way_lines : Binds K A.fd_way_lines ["way"] []
  F_written : FunC K "written" "written" s_written A.f_written A.fd_written A.c_written
  g_written : mg "written" = some (.ref A.f_written)
  b_written : Binds K A.fd_written ["loop"] []
  F_law_cell_at : FunC K "_law_cell_at" "_law_cell_at" s_law_cell_at A.f_law_cell_at A.fd_law_cell_at A.c_law_cell_at
  g_law_cell_at : mg "_law_cell_at" = some (.ref A.f_law_cell_at)
  b_law_cell_at : Binds K A.fd_law_cell_at ["_law_script", "_law_k"] []
  F_law_drawn : FunC K "_law_drawn" "_law_drawn" s_law_drawn A.f_law_drawn A.fd_law_drawn A.c_law_drawn
  g_law_drawn : mg "_law_drawn" = some (.ref A.f_law_drawn)
  b_law_drawn : Binds K A.fd_law_drawn ["_law_seed", "_law_k"] []
  F_law_row_by : FunC K "_law_row_by" "_law_row_by" s_law_row_by A.f_law_row_by A.fd_law_row_by A.c_law_row_by
  g_law_row_by : mg "_law_row_by" = some (.ref A.f_law_row_by)
  b_law_row_by : Binds K A.fd_law_row_by ["_law_cell", "_law_k", "_law_many"] []
  F_law_way_by : FunC K "_law_way_by" "_law_way_by" s_law_way_by A.f_law_way_by A.fd_law_way_by A.c_law_way_by
  g_law_way_by : mg "_law_way_by" = some (.ref A.f_law_way_by)
  b_law_way_by : Binds K A.fd_law_way_by ["_law_cell", "_law_many"] []
  F_law_far : FunC K "_law_far" "_law_far" s_law_far A.f_law_far A.fd_law_far A.c_law_far
  g_law_far : mg "_law_far" = some (.ref A.f_law_far)
  b_law_far : Binds K A.fd_law_far ["_law_row"] []
  F_law_loop_by : FunC K "_law_loop_by" "_law_loop_by" s_law_loop_by A.f_law_loop_by A.fd_law_loop_by A.c_law_loop_by
  g_law_loop_by : mg "_law_loop_by" = some (.ref A.f_law_loop_by)
  b_law_loop_by : Binds K A.fd_law_loop_by ["_law_script", "_law_at"] []
  F_law_name_of : FunC K "_law_name_of" "_law_name_of" s_law_name_of A.f_law_name_of A.fd_law_name_of A.c_law_name_of
  g_law_name_of : mg "_law_name_of" = some (.ref A.f_law_name_of)
  b_law_name_of : Binds K A.fd_law_name_of ["_law_error"] []
  F_law_copied : FunC K "_law_copied" "_law_copied" s_law_copied A.f_law_copied A.fd_law_copied A.c_law_copied
  g_law_copied : mg "_law_copied" = some (.ref A.f_law_copied)
  b_law_copied : Binds K A.fd_law_copied ["_law_thing"] []
  F_law_asked : FunC K "_law_asked" "_law_asked" s_law_asked A.f_law_asked A.fd_law_asked A.c_law_asked
  g_law_asked : mg "_law_asked" = some (.ref A.f_law_asked)
  b_law_asked : Binds K A.fd_law_asked ["_law_which", "_law_thing"] []
  F_law_word : FunC K "_law_word" "_law_word" s_law_word A.f_law_word A.fd_law_word A.c_law_word
  g_law_word : mg "_law_word" = some (.ref A.f_law_word)
  b_law_word : Binds K A.fd_law_word ["_law_which", "_law_thing"] []
  F_law_put : FunC K "_law_put" "_law_put" s_law_put A.f_law_put A.fd_law_put A.c_law_put
  g_law_put : mg "_law_put" = some (.ref A.f_law_put)
  b_law_put : Binds K A.fd_law_put ["_law_row", "_law_at", "_law_thing"] []
  F_law_row_bent : FunC K "_law_row_bent" "_law_row_bent" s_law_row_bent A.f_law_row_bent A.fd_law_row_bent A.c_law_row_bent
  g_law_row_bent : mg "_law_row_bent" = some (.ref A.f_law_row_bent)
  b_law_row_bent : Binds K A.fd_law_row_bent ["_law_rows", "_law_cell", "_law_at"] []
  F_law_bent : FunC K "_law_bent" "_law_bent" s_law_bent A.f_law_bent A.fd_law_bent A.c_law_bent
  g_law_bent : mg "_law_bent" = some (.ref A.f_law_bent)
  b_law_bent : Binds K A.fd_law_bent ["_law_loop", "_law_cell", "_law_at"] []
  F_law_is_row : FunC K "_law_is_row" "_law_is_row" s_law_is_row A.f_law_is_row A.fd_law_is_row A.c_law_is_row
  g_law_is_row : mg "_law_is_row" = some (.ref A.f_law_is_row)
  b_law_is_row : Binds K A.fd_law_is_row ["_law_thing", "_law_many"] []
  F_law_is_loop : FunC K "_law_is_loop" "_law_is_loop" s_law_is_loop A.f_law_is_loop A.fd_law_is_loop A.c_law_is_loop
  g_law_is_loop : mg "_law_is_loop" = some (.ref A.f_law_is_loop)
  b_law_is_loop : Binds K A.fd_law_is_loop ["_law_thing"] []
  F_law : FunC K "law" "law" s_law A.f_law A.fd_law A.c_law
  g_law : mg "law" = some (.ref A.f_law)
  b_law : Binds K A.fd_law ["_law_script"] []
  k_FARTHEST : ∃ t, mg "FARTHEST" = some (.int 1000 t)
  k_MOST_ASKS : ∃ t, mg "MOST_ASKS" = some (.int 4 t)
  k_MOST_NAMES : ∃ t, mg "MOST_NAMES" = some (.int 3 t)
  k_MOST_WAYS : ∃ t, mg "MOST_WAYS" = some (.int 3 t)
  z_all : mg "all" = none
  z_bool : mg "bool" = none
  z_int : mg "int" = none
  z_isinstance : mg "isinstance" = none
  z_len : mg "len" = none
  z_list : mg "list" = none
  z_max : mg "max" = none
  z_min : mg "min" = none
  z_range : mg "range" = none
  z_str : mg "str" = none
  z_tuple : mg "tuple" = none
  z_type : mg "type" = none
  gx_LoopError : mg "LoopError" = some (.ref A.x_LoopError)
  gx_BadLoop : mg "BadLoop" = some (.ref A.x_BadLoop)
  gx_BadState : mg "BadState" = some (.ref A.x_BadState)
  gx_BadCount : mg "BadCount" = some (.ref A.x_BadCount)
  gx_BadGauge : mg "BadGauge" = some (.ref A.x_BadGauge)
  gx_BadTable : mg "BadTable" = some (.ref A.x_BadTable)
  gx_BadText : mg "BadText" = some (.ref A.x_BadText)
  x_BadLoop : PySem.W.excIn K A.x_BadLoop [.type "ValueError", .type "Exception", .type "BaseException", .type "object"] "ValueError.__new__" = true
  kx_BadLoop : PySem.W.keepIn K (.ref A.x_BadLoop) = true
  ex_BadLoop : PySem.W.subIn K (.ref A.x_BadLoop) (.type "BaseException") = some true
  tx_BadLoop : PySem.W.typeIn K (.ref A.x_BadLoop) = some (.type "type")
  exm : ∀ n ∈ errs, PySem.W.exmOne K (.ref (A.cls n)) (.ref A.x_LoopError) = some true
  exC : ∀ n ∈ errs, ExcC K (A.cls n)
  kit : ∀ n ∈ errs, ∀ m ∈ all6, PySem.W.kitOne K (.ref (A.cls n)) (.ref (A.cls m)) = some (decide (n = m))
  kitV : ∀ n ∈ errs, PySem.W.kitOne K (.ref (A.cls n)) (.type "ValueError") = some true
structure B (base : Heap) (mg : Str → Option Value) (A : Ad) : Prop where
  t_are_wholes : TabB base mg A.c_are_wholes A.p_are_wholes
  t_is_row : TabB base mg A.c_is_row A.p_is_row
  t_are_rows : TabB base mg A.c_are_rows A.p_are_rows
  t_is_loop : TabB base mg A.c_is_loop A.p_is_loop
  t_are_spots : TabB base mg A.c_are_spots A.p_are_spots
end K01

set_option Elab.async false
set_option linter.all false
set_option maxRecDepth 100000
set_option maxHeartbeats 400000
namespace K01
open PySem PySem.Spec PyProof.Rows L2 L2H GxR GX DN
def m_is_whole : SM := (sRet (dUn (gTy false "int") (dVar 0)))
abbrev M_is_whole : List D → Option D := fnD 1 m_is_whole
theorem ok_is_whole {P : Program} {w : World} {K : PySem.W.Frag} {mg : Str → Option Value} {base : Heap} {A : Ad} (T : Txt K mg A) (B : B base mg A) : FnOk P w K mg base CX0 1 A.f_is_whole A.fd_is_whole ["thing"] (spPN K (tl A) false 1 M_is_whole) :=
  T.F_is_whole.okD (O' := []) (N := ["thing"]) (ps := ["thing"]) (k := 0) (nw := false) (m := m_is_whole) sc_is_whole fun A' outer s H E hr => by
    exact (sso_one (so_ret (O := []) (pd_typeIs (by rfl) T.z_type (by rfl) T.z_int (by decide +kernel) (dv 0))))
def m_is_whole_within : SM := (sRet (dAnd (dFn M_is_whole (dCons (dVar 0) dNil)) (dChain (gI pLe) (gI pLe) (dVar 1) (dVar 0) (dVar 2))))
abbrev M_is_whole_within : List D → Option D := fnD 3 m_is_whole_within
theorem ok_is_whole_within {P : Program} {w : World} {K : PySem.W.Frag} {mg : Str → Option Value} {base : Heap} {A : Ad} (T : Txt K mg A) (B : B base mg A) : FnOk P w K mg base CX0 2 A.f_is_whole_within A.fd_is_whole_within ["thing", "low", "high"] (spPN K (tl A) false 3 M_is_whole_within) :=
  T.F_is_whole_within.okD (O' := []) (N := ["thing", "low", "high"]) (ps := ["thing", "low", "high"]) (k := 1) (nw := false) (m := m_is_whole_within) sc_is_whole_within fun A' outer s H E hr => by
    exact (sso_one (so_ret (O := []) (pd_and (pd_call (FnOk.weak (ok_is_whole T B)) (hr.mono (by decide)) (by rfl) T.g_is_whole T.F_is_whole.kp T.b_is_whole (pad_cons (dv 0) pad_nil) (lenS len0)) (pd_one (pd_chain (dI (p := pLe)) (dI (p := pLe)) op_le op_le (dv 1) (dv 0) (dv 2))))))
def m_is_list_of : SM := (sRet (dAnd (dUn (gTy false "list") (dVar 0)) (dChain (gI pLe) (gI pLe) (dVar 1) (dFn gLen (dCons (dVar 0) dNil)) (dVar 2))))
abbrev M_is_list_of : List D → Option D := fnD 3 m_is_list_of
theorem ok_is_list_of {P : Program} {w : World} {K : PySem.W.Frag} {mg : Str → Option Value} {base : Heap} {A : Ad} (T : Txt K mg A) (B : B base mg A) : FnOk P w K mg base CX0 1 A.f_is_list_of A.fd_is_list_of ["thing", "least", "most"] (spPN K (tl A) false 3 M_is_list_of) :=
  T.F_is_list_of.okD (O' := []) (N := ["thing", "least", "most"]) (ps := ["thing", "least", "most"]) (k := 0) (nw := false) (m := m_is_list_of) sc_is_list_of fun A' outer s H E hr => by
    exact (sso_one (so_ret (O := []) (pd_and (pd_typeIs (by rfl) T.z_type (by rfl) T.z_list (by decide +kernel) (dv 0)) (pd_one (pd_chain (dI (p := pLe)) (dI (p := pLe)) op_le op_le (dv 1) (pd_callB dLen call_lenD (by rfl) T.z_len PySem.boot_len (pad_cons (dv 0) pad_nil)) (dv 2))))))
def m_are_wholes : SM := (sRet (dAnd (dFn M_is_list_of (dCons (dVar 0) (dCons (dVar 1) (dCons (dVar 1) dNil)))) (dQ true 1 [] (dLs (dVar 0)) (bd1 0) tYesD (dFn M_is_whole (dCons (dVar 0) dNil)))))
abbrev M_are_wholes : List D → Option D := fnD 2 m_are_wholes
theorem ok_are_wholes {P : Program} {w : World} {K : PySem.W.Frag} {mg : Str → Option Value} {base : Heap} {A : Ad} (T : Txt K mg A) (B : B base mg A) : FnOk P w K mg base CX0 3 A.f_are_wholes A.fd_are_wholes ["thing", "length"] (spPN K (tl A) false 2 M_are_wholes) :=
  T.F_are_wholes.okD (O' := []) (N := ["thing", "length"]) (ps := ["thing", "length"]) (k := 2) (nw := false) (m := m_are_wholes) sc_are_wholes fun A' outer s H E hr => by
    exact (sso_one (so_ret (O := []) (pd_and (pd_call (FnOk.weak (ok_is_list_of T B)) (hr.mono (by decide)) (by rfl) T.g_is_list_of T.F_is_list_of.kp T.b_is_list_of (pad_cons (dv 0) (pad_cons (dv 1) (pad_cons (dv 1) pad_nil))) (lenS (lenS (lenS len0)))) (pd_one (pd_all (k := 1) (own := ["number"]) (caps := []) rfl (hr.mono (by decide)) (by rfl) T.z_all B.t_are_wholes (by simp [tl]) rfl (gscp_of (N := ["thing", "length"]) (sc := defScope s_are_wholes) (by decide +kernel)) (gd1 (i := 0) (by decide)) (pid_list (dv 0)) (fun A s H C cl code fp pn r => (pg_name (i := 0) (nd_of (N := ["number"]) (by decide +kernel)) rfl (by first | exact Or.inl rfl | exact Or.inr rfl))) (fun A s H C cl code fp pn r => ptsd_nil) (fun A s H C cl code fp pn r => (pd_call (FnOk.weak (ok_is_whole T B)) (r.mono (by decide)) (by rfl) T.g_is_whole T.F_is_whole.kp T.b_is_whole (pad_cons (dv 0) pad_nil) (lenS len0))))))))
def m_is_pair : SM := (sRet (dAnd (dUn (gTy false "tuple") (dVar 0)) (dBin (gEqv false) (dFn gLen (dCons (dVar 0) dNil)) (dC (.int 2)))))
abbrev M_is_pair : List D → Option D := fnD 1 m_is_pair
theorem ok_is_pair {P : Program} {w : World} {K : PySem.W.Frag} {mg : Str → Option Value} {base : Heap} {A : Ad} (T : Txt K mg A) (B : B base mg A) : FnOk P w K mg base CX0 1 A.f_is_pair A.fd_is_pair ["thing"] (spPN K (tl A) false 1 M_is_pair) :=
  T.F_is_pair.okD (O' := []) (N := ["thing"]) (ps := ["thing"]) (k := 0) (nw := false) (m := m_is_pair) sc_is_pair fun A' outer s H E hr => by
    exact (sso_one (so_ret (O := []) (pd_and (pd_typeIs (by rfl) T.z_type (by rfl) T.z_tuple (by decide +kernel) (dv 0)) (pd_one (pd_cmp dEq (op_eqX hr.units) (nomark _) (pd_callB dLen call_lenD (by rfl) T.z_len PySem.boot_len (pad_cons (dv 0) pad_nil)) pd_int)))))
def m_is_row : SM := (sSeq (sIf (tNotD (dB (dFn M_is_list_of (dCons (dVar 0) (dCons (dBin gAdd (dVar 1) (dC (.int 1))) (dCons (dBin gAdd (dVar 1) (dC (.int 1))) dNil)))))) (sRet (dC (.bl false))) sNx)
    (sRet (dQ true 1 [] (dLs (dVar 0)) (bd1 0) tYesD (dFn M_is_whole_within (dCons (dVar 0) (dCons (dUn gNeg (dC (.int (1000)))) (dCons (dC (.int (1000))) dNil)))))))
abbrev M_is_row : List D → Option D := fnD 2 m_is_row
theorem ok_is_row {P : Program} {w : World} {K : PySem.W.Frag} {mg : Str → Option Value} {base : Heap} {A : Ad} (T : Txt K mg A) (B : B base mg A) : FnOk P w K mg base CX0 4 A.f_is_row A.fd_is_row ["thing", "many"] (spPN K (tl A) false 2 M_is_row) :=
  T.F_is_row.okD (O' := []) (N := ["thing", "many"]) (ps := ["thing", "many"]) (k := 3) (nw := false) (m := m_is_row) sc_is_row fun A' outer s H E hr => by
    exact (sso_cons (so_if (O := []) (ptd_not (ptd_val (pd_call (FnOk.weak (ok_is_list_of T B)) (hr.mono (by decide)) (by rfl) T.g_is_list_of T.F_is_list_of.kp T.b_is_list_of (pad_cons (dv 0) (pad_cons (pd_bin dAdd op_addD (dv 1) pd_int) (pad_cons (pd_bin dAdd op_addD (dv 1) pd_int) pad_nil))) (lenS (lenS (lenS len0))))))
      (sso_one (so_ret (O := []) pd_bl))
      sso_nil)
      (sso_one (so_ret (O := []) (pd_all (k := 2) (own := ["number"]) (caps := []) rfl (hr.mono (by decide)) (by rfl) T.z_all B.t_is_row (by simp [tl]) rfl (gscp_of (N := ["thing", "many"]) (sc := defScope s_is_row) (by decide +kernel)) (gd1 (i := 0) (by decide)) (pid_list (dv 0)) (fun A s H C cl code fp pn r => (pg_name (i := 0) (nd_of (N := ["number"]) (by decide +kernel)) rfl (by first | exact Or.inl rfl | exact Or.inr rfl))) (fun A s H C cl code fp pn r => ptsd_nil) (fun A s H C cl code fp pn r => (pd_call (FnOk.weak (ok_is_whole_within T B)) (r.mono (by decide)) (by rfl) T.g_is_whole_within T.F_is_whole_within.kp T.b_is_whole_within (pad_cons (dv 0) (pad_cons (pd_un dNeg un_neg (pd_glob (by rfl) T.k_FARTHEST)) (pad_cons (pd_glob (by rfl) T.k_FARTHEST) pad_nil))) (lenS (lenS (lenS len0)))))))))
def m_are_rows : SM := (sRet (dAnd (dFn M_is_list_of (dCons (dVar 0) (dCons (dVar 2) (dCons (dVar 3) dNil)))) (dQ true 1 [1] (dLs (dVar 0)) (bd1 0) tYesD (dFn M_is_row (dCons (dVar 0) (dCons (dVar 1) dNil))))))
abbrev M_are_rows : List D → Option D := fnD 4 m_are_rows
theorem ok_are_rows {P : Program} {w : World} {K : PySem.W.Frag} {mg : Str → Option Value} {base : Heap} {A : Ad} (T : Txt K mg A) (B : B base mg A) : FnOk P w K mg base CX0 6 A.f_are_rows A.fd_are_rows ["thing", "many", "least", "most"] (spPN K (tl A) false 4 M_are_rows) :=
  T.F_are_rows.okD (O' := []) (N := ["thing", "many", "least", "most"]) (ps := ["thing", "many", "least", "most"]) (k := 5) (nw := false) (m := m_are_rows) sc_are_rows fun A' outer s H E hr => by
    exact (sso_one (so_ret (O := []) (pd_and (pd_call (FnOk.weak (ok_is_list_of T B)) (hr.mono (by decide)) (by rfl) T.g_is_list_of T.F_is_list_of.kp T.b_is_list_of (pad_cons (dv 0) (pad_cons (dv 2) (pad_cons (dv 3) pad_nil))) (lenS (lenS (lenS len0)))) (pd_one (pd_all (k := 4) (own := ["row"]) (caps := [("many", 1)]) rfl (hr.mono (by decide)) (by rfl) T.z_all B.t_are_rows (by simp [tl]) rfl (gscp_of (N := ["thing", "many", "least", "most"]) (sc := defScope s_are_rows) (by decide +kernel)) (gd1 (i := 0) (by decide)) (pid_list (dv 0)) (fun A s H C cl code fp pn r => (pg_name (i := 0) (nd_of (N := ["row", "many"]) (by decide +kernel)) rfl (by first | exact Or.inl rfl | exact Or.inr rfl))) (fun A s H C cl code fp pn r => ptsd_nil) (fun A s H C cl code fp pn r => (pd_call (FnOk.weak (ok_is_row T B)) (r.mono (by decide)) (by rfl) T.g_is_row T.F_is_row.kp T.b_is_row (pad_cons (dv 0) (pad_cons (dv 1) pad_nil)) (lenS (lenS len0)))))))))
def m_is_way : SM := (sSeq (sIf (tNotD (dB (dFn M_is_pair (dCons (dVar 0) dNil)))) (sRet (dC (.bl false))) sNx)
    (sSeq (sAsg [] (bd2 2 3) (dVar 0))
    (sRet (dAnd (dFn M_are_rows (dCons (dVar 2) (dCons (dVar 1) (dCons (dC (.int 0)) (dCons (dC (.int (4))) dNil))))) (dFn M_are_rows (dCons (dVar 3) (dCons (dVar 1) (dCons (dVar 1) (dCons (dVar 1) dNil)))))))))
abbrev M_is_way : List D → Option D := fnD 4 m_is_way
theorem ok_is_way {P : Program} {w : World} {K : PySem.W.Frag} {mg : Str → Option Value} {base : Heap} {A : Ad} (T : Txt K mg A) (B : B base mg A) : FnOk P w K mg base CX0 7 A.f_is_way A.fd_is_way ["thing", "many"] (spPN K (tl A) false 2 M_is_way) :=
  T.F_is_way.okD (O' := []) (N := ["thing", "many", "asks", "gives"]) (ps := ["thing", "many"]) (k := 6) (nw := false) (m := m_is_way) sc_is_way fun A' outer s H E hr => by
    exact (sso_cons (so_if (O := []) (ptd_not (ptd_val (pd_call (FnOk.weak (ok_is_pair T B)) (hr.mono (by decide)) (by rfl) T.g_is_pair T.F_is_pair.kp T.b_is_pair (pad_cons (dv 0) pad_nil) (lenS len0))))
      (sso_one (so_ret (O := []) pd_bl))
      sso_nil)
      (sso_cons (so_asg (O := []) (vs := [2, 3]) (gd2 (i := 2) (j := 3) (by decide) (by decide)) (dv 0) (pg_tup rfl (pgs_cons (pg_name (i := 2) sc_is_way.nd rfl (by first | exact Or.inl rfl | exact Or.inr rfl)) (pgs_cons (pg_name (i := 3) sc_is_way.nd rfl (by first | exact Or.inl rfl | exact Or.inr rfl)) pgs_nil))) (by decide))
      (sso_one (so_ret (O := []) (pd_and (pd_call (FnOk.weak (ok_are_rows T B)) (hr.mono (by decide)) (by rfl) T.g_are_rows T.F_are_rows.kp T.b_are_rows (pad_cons (dv 2) (pad_cons (dv 1) (pad_cons pd_int (pad_cons (pd_glob (by rfl) T.k_MOST_ASKS) pad_nil)))) (lenS (lenS (lenS (lenS len0))))) (pd_one (pd_call (FnOk.weak (ok_are_rows T B)) (hr.mono (by decide)) (by rfl) T.g_are_rows T.F_are_rows.kp T.b_are_rows (pad_cons (dv 3) (pad_cons (dv 1) (pad_cons (dv 1) (pad_cons (dv 1) pad_nil)))) (lenS (lenS (lenS (lenS len0)))))))))))
def m_is_loop : SM := (sSeq (sIf (tNotD (dB (dFn M_is_pair (dCons (dVar 0) dNil)))) (sRet (dC (.bl false))) sNx)
    (sSeq (sAsg [] (bd2 1 2) (dVar 0))
    (sSeq (sIf (tOrD (tNotD (dB (dFn M_is_whole_within (dCons (dVar 1) (dCons (dC (.int 1)) (dCons (dC (.int (3))) dNil)))))) (tNotD (dB (dFn M_is_list_of (dCons (dVar 2) (dCons (dC (.int 1)) (dCons (dC (.int (3))) dNil))))))) (sRet (dC (.bl false))) sNx)
    (sRet (dQ true 1 [1] (dLs (dVar 2)) (bd1 0) tYesD (dFn M_is_way (dCons (dVar 0) (dCons (dVar 1) dNil))))))))
abbrev M_is_loop : List D → Option D := fnD 3 m_is_loop
theorem ok_is_loop {P : Program} {w : World} {K : PySem.W.Frag} {mg : Str → Option Value} {base : Heap} {A : Ad} (T : Txt K mg A) (B : B base mg A) : FnOk P w K mg base CX0 9 A.f_is_loop A.fd_is_loop ["thing"] (spPN K (tl A) false 1 M_is_loop) :=
  T.F_is_loop.okD (O' := []) (N := ["thing", "many", "ways"]) (ps := ["thing"]) (k := 8) (nw := false) (m := m_is_loop) sc_is_loop fun A' outer s H E hr => by
    exact (sso_cons (so_if (O := []) (ptd_not (ptd_val (pd_call (FnOk.weak (ok_is_pair T B)) (hr.mono (by decide)) (by rfl) T.g_is_pair T.F_is_pair.kp T.b_is_pair (pad_cons (dv 0) pad_nil) (lenS len0))))
      (sso_one (so_ret (O := []) pd_bl))
      sso_nil)
      (sso_cons (so_asg (O := []) (vs := [1, 2]) (gd2 (i := 1) (j := 2) (by decide) (by decide)) (dv 0) (pg_tup rfl (pgs_cons (pg_name (i := 1) sc_is_loop.nd rfl (by first | exact Or.inl rfl | exact Or.inr rfl)) (pgs_cons (pg_name (i := 2) sc_is_loop.nd rfl (by first | exact Or.inl rfl | exact Or.inr rfl)) pgs_nil))) (by decide))
      (sso_cons (so_if (O := []) (ptd_w (pwd_or (ptd_not (ptd_val (pd_call (FnOk.weak (ok_is_whole_within T B)) (hr.mono (by decide)) (by rfl) T.g_is_whole_within T.F_is_whole_within.kp T.b_is_whole_within (pad_cons (dv 1) (pad_cons pd_int (pad_cons (pd_glob (by rfl) T.k_MOST_NAMES) pad_nil))) (lenS (lenS (lenS len0)))))) (pwd_or1 (ptd_not (ptd_val (pd_call (FnOk.weak (ok_is_list_of T B)) (hr.mono (by decide)) (by rfl) T.g_is_list_of T.F_is_list_of.kp T.b_is_list_of (pad_cons (dv 2) (pad_cons pd_int (pad_cons (pd_glob (by rfl) T.k_MOST_WAYS) pad_nil))) (lenS (lenS (lenS len0)))))))))
      (sso_one (so_ret (O := []) pd_bl))
      sso_nil)
      (sso_one (so_ret (O := []) (pd_all (k := 7) (own := ["way"]) (caps := [("many", 1)]) rfl (hr.mono (by decide)) (by rfl) T.z_all B.t_is_loop (by simp [tl]) rfl (gscp_of (N := ["thing", "many", "ways"]) (sc := defScope s_is_loop) (by decide +kernel)) (gd1 (i := 0) (by decide)) (pid_list (dv 2)) (fun A s H C cl code fp pn r => (pg_name (i := 0) (nd_of (N := ["way", "many"]) (by decide +kernel)) rfl (by first | exact Or.inl rfl | exact Or.inr rfl))) (fun A s H C cl code fp pn r => ptsd_nil) (fun A s H C cl code fp pn r => (pd_call (FnOk.weak (ok_is_way T B)) (r.mono (by decide)) (by rfl) T.g_is_way T.F_is_way.kp T.b_is_way (pad_cons (dv 0) (pad_cons (dv 1) pad_nil)) (lenS (lenS len0))))))))))
def m_need_loop : SM := (sIf (tNotD (dB (dFn M_is_loop (dCons (dVar 0) dNil)))) (sEx "BadLoop") sNx)
abbrev M_need_loop : List D → Option Res := fnR 1 m_need_loop
theorem ok_need_loop {P : Program} {w : World} {K : PySem.W.Frag} {mg : Str → Option Value} {base : Heap} {A : Ad} (T : Txt K mg A) (B : B base mg A) : FnOk P w K mg base (L2.CX P w) 10 A.f_need_loop A.fd_need_loop ["thing"] (spR K (tl A) false A.cls 1 M_need_loop) :=
  T.F_need_loop.okR (O' := []) (N := ["thing"]) (ps := ["thing"]) (k := 9) (nw := false) (m := m_need_loop) sc_need_loop fun A' outer s H E hr => by
    exact (sso_one (so_if (O := []) (ptd_not (ptd_val (pd_call (FnOk.weak (ok_is_loop T B)) (hr.mono (by decide)) (by rfl) T.g_is_loop T.F_is_loop.kp T.b_is_loop (pad_cons (dv 0) pad_nil) (lenS len0))))
      (sso_one (so_raise (O := []) (cls := A.cls) PySem.F.excBase_ValueError rfl (takes_of rfl rfl rfl rfl) T.x_BadLoop T.gx_BadLoop T.kx_BadLoop (raises_own T.ex_BadLoop T.tx_BadLoop) (by rfl)))
      sso_nil))
def m_after : SM := (sSeq (xEx (dCons (dVar 0) dNil) M_need_loop) (fun _ => none))
abbrev M_after : List D → Option Res := fnR 5 m_after
theorem ok_after {P : Program} {w : World} {K : PySem.W.Frag} {mg : Str → Option Value} {base : Heap} {A : Ad} (T : Txt K mg A) (B : B base mg A) : FnOk P w K mg base (L2.CX P w) 11 A.f_after A.fd_after ["loop", "number", "state"] (spR K (tl A) false A.cls 3 M_after) :=
  T.F_after.okR (O' := []) (N := ["loop", "number", "state", "many", "ways"]) (ps := ["loop", "number", "state"]) (k := 10) (nw := false) (m := m_after) sc_after fun A' outer s H E hr => by
    exact (sso_cons (so_exprX (O := []) (ok_need_loop T B) (hr.mono (by decide)) (takes_of rfl rfl rfl rfl) (by rfl) T.g_need_loop T.F_need_loop.kp T.b_need_loop (pad_cons (dv 0) pad_nil) (lenS len0)) sso_none)
def m_run : SM := (sSeq (xEx (dCons (dVar 0) dNil) M_need_loop) (fun _ => none))
abbrev M_run : List D → Option Res := fnR 8 m_run
theorem ok_run {P : Program} {w : World} {K : PySem.W.Frag} {mg : Str → Option Value} {base : Heap} {A : Ad} (T : Txt K mg A) (B : B base mg A) : FnOk P w K mg base (L2.CX P w) 11 A.f_run A.fd_run ["loop", "state", "most"] (spR K (tl A) false A.cls 3 M_run) :=
  T.F_run.okR (O' := []) (N := ["loop", "state", "most", "many", "ways", "states", "_", "following"]) (ps := ["loop", "state", "most"]) (k := 10) (nw := false) (m := m_run) sc_run fun A' outer s H E hr => by
    exact (sso_cons (so_exprX (O := []) (ok_need_loop T B) (hr.mono (by decide)) (takes_of rfl rfl rfl rfl) (by rfl) T.g_need_loop T.F_need_loop.kp T.b_need_loop (pad_cons (dv 0) pad_nil) (lenS len0)) sso_none)
def m_told : SM := (sSeq (xEx (dCons (dVar 0) dNil) M_need_loop) (fun _ => none))
abbrev M_told : List D → Option Res := fnR 3 m_told
theorem ok_told {P : Program} {w : World} {K : PySem.W.Frag} {mg : Str → Option Value} {base : Heap} {A : Ad} (T : Txt K mg A) (B : B base mg A) : FnOk P w K mg base (L2.CX P w) 11 A.f_told A.fd_told ["loop"] (spR K (tl A) false A.cls 1 M_told) :=
  T.F_told.okR (O' := []) (N := ["loop", "many", "ways"]) (ps := ["loop"]) (k := 10) (nw := false) (m := m_told) sc_told fun A' outer s H E hr => by
    exact (sso_cons (so_exprX (O := []) (ok_need_loop T B) (hr.mono (by decide)) (takes_of rfl rfl rfl rfl) (by rfl) T.g_need_loop T.F_need_loop.kp T.b_need_loop (pad_cons (dv 0) pad_nil) (lenS len0)) sso_none)
def m_is_reason : SM := (sSeq (xEx (dCons (dVar 0) dNil) M_need_loop) (fun _ => none))
abbrev M_is_reason : List D → Option Res := fnR 7 m_is_reason
theorem ok_is_reason {P : Program} {w : World} {K : PySem.W.Frag} {mg : Str → Option Value} {base : Heap} {A : Ad} (T : Txt K mg A) (B : B base mg A) : FnOk P w K mg base (L2.CX P w) 11 A.f_is_reason A.fd_is_reason ["loop", "gauge", "reason"] (spR K (tl A) false A.cls 3 M_is_reason) :=
  T.F_is_reason.okR (O' := []) (N := ["loop", "gauge", "reason", "many", "ways", "part", "way"]) (ps := ["loop", "gauge", "reason"]) (k := 10) (nw := false) (m := m_is_reason) sc_is_reason fun A' outer s H E hr => by
    exact (sso_cons (so_exprX (O := []) (ok_need_loop T B) (hr.mono (by decide)) (takes_of rfl rfl rfl rfl) (by rfl) T.g_need_loop T.F_need_loop.kp T.b_need_loop (pad_cons (dv 0) pad_nil) (lenS len0)) sso_none)
def m_are_spots : SM := (sSeq (xEx (dCons (dVar 0) dNil) M_need_loop) (fun _ => none))
abbrev M_are_spots : List D → Option Res := fnR 8 m_are_spots
theorem ok_are_spots {P : Program} {w : World} {K : PySem.W.Frag} {mg : Str → Option Value} {base : Heap} {A : Ad} (T : Txt K mg A) (B : B base mg A) : FnOk P w K mg base (L2.CX P w) 11 A.f_are_spots A.fd_are_spots ["loop", "spots"] (spR K (tl A) false A.cls 2 M_are_spots) :=
  T.F_are_spots.okR (O' := []) (N := ["loop", "spots", "many", "ways", "shown", "part", "way", "shifts"]) (ps := ["loop", "spots"]) (k := 10) (nw := false) (m := m_are_spots) sc_are_spots fun A' outer s H E hr => by
    exact (sso_cons (so_exprX (O := []) (ok_need_loop T B) (hr.mono (by decide)) (takes_of rfl rfl rfl rfl) (by rfl) T.g_need_loop T.F_need_loop.kp T.b_need_loop (pad_cons (dv 0) pad_nil) (lenS len0)) sso_none)
def m_most_turns : SM := (sSeq (xEx (dCons (dVar 0) dNil) M_need_loop) (fun _ => none))
abbrev M_most_turns : List D → Option Res := fnR 8 m_most_turns
theorem ok_most_turns {P : Program} {w : World} {K : PySem.W.Frag} {mg : Str → Option Value} {base : Heap} {A : Ad} (T : Txt K mg A) (B : B base mg A) : FnOk P w K mg base (L2.CX P w) 11 A.f_most_turns A.fd_most_turns ["loop", "gauge", "state"] (spR K (tl A) false A.cls 3 M_most_turns) :=
  T.F_most_turns.okR (O' := []) (N := ["loop", "gauge", "state", "many", "_", "row", "by", "there"]) (ps := ["loop", "gauge", "state"]) (k := 10) (nw := false) (m := m_most_turns) sc_most_turns fun A' outer s H E hr => by
    exact (sso_cons (so_exprX (O := []) (ok_need_loop T B) (hr.mono (by decide)) (takes_of rfl rfl rfl rfl) (by rfl) T.g_need_loop T.F_need_loop.kp T.b_need_loop (pad_cons (dv 0) pad_nil) (lenS len0)) sso_none)
def m_row_line : SM := (sRet (dMth gJoin (dC (.str " ")) (dCons (dBin gAdd (dFn (fun ds => some (.lst ds)) (dCons (dVar 0) dNil)) (dLc [2] (dLs (dVar 1)) (bd1 2) tYesD (dFn gStr (dCons (dVar 2) dNil)))) dNil)))
abbrev M_row_line : List D → Option D := fnD 3 m_row_line
theorem ok_row_line {P : Program} {w : World} {K : PySem.W.Frag} {mg : Str → Option Value} {base : Heap} {A : Ad} (T : Txt K mg A) (B : B base mg A) : FnOk P w K mg base CX0 1 A.f_row_line A.fd_row_line ["word", "row"] (spPN K (tl A) false 2 M_row_line) :=
  T.F_row_line.okD (O' := []) (N := ["word", "row", "number"]) (ps := ["word", "row"]) (k := 0) (nw := false) (m := m_row_line) sc_row_line fun A' outer s H E hr => by
    exact (sso_one (so_ret (O := []) (pd_bm mJoin PySem.F.plainAttrs_str PySem.F.slot_str_join PySem.F.type_str_join mt_join pd_str (pad_cons (pd_bin dAdd op_addD (pd_lst (pad_cons (dv 0) pad_nil) (lenL (lenS len0) (by decide))) (pd_lc (own := [("number", 2)]) rfl sc_row_line.nd (pid_list (dv 1)) (blkOk_by (own := [("number", 2)]) (N := ["word", "row", "number"]) (by kernel_rfl)) (gd1 (i := 2) (by decide)) (fun _ _ _ _ _ => (pg_name (i := 2) sc_row_line.nd rfl (by first | exact Or.inl rfl | exact Or.inr rfl))) (fun _ _ _ _ _ => ptsd_nil) (fun _ _ _ _ _ => (pd_callTy dStrC call_str_int (by rfl) T.z_str (by decide +kernel) (pad_cons (dv 2) pad_nil))))) pad_nil))))
def m_way_lines : SM := (sSeq (sAsg [] (bd2 1 2) (dVar 0))
    (sRet (dBin gAdd (dBin gAdd (dFn (fun ds => some (.lst ds)) (dCons (dC (.str "way")) dNil)) (dLc [3] (dLs (dVar 1)) (bd1 3) tYesD (dFn M_row_line (dCons (dC (.str "ask")) (dCons (dVar 3) dNil))))) (dLc [3] (dLs (dVar 2)) (bd1 3) tYesD (dFn M_row_line (dCons (dC (.str "set")) (dCons (dVar 3) dNil)))))))
abbrev M_way_lines : List D → Option D := fnD 4 m_way_lines
theorem ok_way_lines {P : Program} {w : World} {K : PySem.W.Frag} {mg : Str → Option Value} {base : Heap} {A : Ad} (T : Txt K mg A) (B : B base mg A) : FnOk P w K mg base CX0 2 A.f_way_lines A.fd_way_lines ["way"] (spPN K (tl A) false 1 M_way_lines) :=
  T.F_way_lines.okD (O' := []) (N := ["way", "asks", "gives", "row"]) (ps := ["way"]) (k := 1) (nw := false) (m := m_way_lines) sc_way_lines fun A' outer s H E hr => by
    exact (sso_cons (so_asg (O := []) (vs := [1, 2]) (gd2 (i := 1) (j := 2) (by decide) (by decide)) (dv 0) (pg_tup rfl (pgs_cons (pg_name (i := 1) sc_way_lines.nd rfl (by first | exact Or.inl rfl | exact Or.inr rfl)) (pgs_cons (pg_name (i := 2) sc_way_lines.nd rfl (by first | exact Or.inl rfl | exact Or.inr rfl)) pgs_nil))) (by decide))
      (sso_one (so_ret (O := []) (pd_bin dAdd op_addD (pd_bin dAdd op_addD (pd_lst (pad_cons pd_str pad_nil) (lenL (lenS len0) (by decide))) (pd_lc (own := [("row", 3)]) rfl sc_way_lines.nd (pid_list (dv 1)) (blkOk_by (own := [("row", 3)]) (N := ["way", "asks", "gives", "row"]) (by kernel_rfl)) (gd1 (i := 3) (by decide)) (fun _ _ _ _ _ => (pg_name (i := 3) sc_way_lines.nd rfl (by first | exact Or.inl rfl | exact Or.inr rfl))) (fun _ _ _ _ _ => ptsd_nil) (fun _ _ _ _ _ => (pd_call (FnOk.weak (ok_row_line T B)) (hr.mono (by decide)) (by rfl) T.g_row_line T.F_row_line.kp T.b_row_line (pad_cons pd_str (pad_cons (dv 3) pad_nil)) (lenS (lenS len0)))))) (pd_lc (own := [("row", 3)]) rfl sc_way_lines.nd (pid_list (dv 2)) (blkOk_by (own := [("row", 3)]) (N := ["way", "asks", "gives", "row"]) (by kernel_rfl)) (gd1 (i := 3) (by decide)) (fun _ _ _ _ _ => (pg_name (i := 3) sc_way_lines.nd rfl (by first | exact Or.inl rfl | exact Or.inr rfl))) (fun _ _ _ _ _ => ptsd_nil) (fun _ _ _ _ _ => (pd_call (FnOk.weak (ok_row_line T B)) (hr.mono (by decide)) (by rfl) T.g_row_line T.F_row_line.kp T.b_row_line (pad_cons pd_str (pad_cons (dv 3) pad_nil)) (lenS (lenS len0)))))))))
def m_written : SM := (sSeq (xEx (dCons (dVar 0) dNil) M_need_loop)
    (sSeq (sAsg [] (bd2 1 2) (dVar 0))
    (sSeq (sLst 3 [] (dCons (dFs2 "names " (dVar 1)) dNil))
    (sSeq (sFor [3] (dLs (dVar 2)) (bd1 4) (sExt 3 false (ev false [3] (dFn M_way_lines (dCons (dVar 4) dNil)))))
    (sRet (dMth gJoin (dC (.str "\n")) (dCons (dVar 3) dNil)))))))
abbrev M_written : List D → Option Res := fnR 5 m_written
theorem ok_written {P : Program} {w : World} {K : PySem.W.Frag} {mg : Str → Option Value} {base : Heap} {A : Ad} (T : Txt K mg A) (B : B base mg A) : FnOk P w K mg base (L2.CX P w) 11 A.f_written A.fd_written ["loop"] (spR K (tl A) false A.cls 1 M_written) :=
  T.F_written.okR (O' := []) (N := ["loop", "many", "ways", "lines", "way"]) (ps := ["loop"]) (k := 10) (nw := false) (m := m_written) sc_written fun A' outer s H E hr => by
    exact (sso_cons (so_exprX (O := []) (ok_need_loop T B) (hr.mono (by decide)) (takes_of rfl rfl rfl rfl) (by rfl) T.g_need_loop T.F_need_loop.kp T.b_need_loop (pad_cons (dv 0) pad_nil) (lenS len0))
      (sso_cons (so_asg (O := []) (vs := [1, 2]) (gd2 (i := 1) (j := 2) (by decide) (by decide)) (dv 0) (pg_tup rfl (pgs_cons (pg_name (i := 1) sc_written.nd rfl (by first | exact Or.inl rfl | exact Or.inr rfl)) (pgs_cons (pg_name (i := 2) sc_written.nd rfl (by first | exact Or.inl rfl | exact Or.inr rfl)) pgs_nil))) (by decide))
      (sso_cons (so_lst (O := []) (i := 3) sc_written.nd rfl (by first | exact Or.inl rfl | exact Or.inr rfl) (pad_cons (pd_fs2 (dv 1)) pad_nil) (lenL (lenS len0) (by decide)))
      (sso_cons (so_for (O := [(3, (.own .pl))]) (vs := [4]) (gd1 (i := 4) (by decide)) (passes_of rfl) rfl (pid_list (dv 2)) (pg_name (i := 4) sc_written.nd rfl (by first | exact Or.inl rfl | exact Or.inr rfl))
      (sso_one (so_ext (O := [(3, (.own .pl))]) (i := 3) (κ := (.own .pl)) (sc := false) (vw := false) (by decide) (by simp) rfl (by simp) (pv 3) (pd_call (FnOk.weak (ok_way_lines T B)) (hr.mono (by decide)) (by rfl) T.g_way_lines T.F_way_lines.kp T.b_way_lines (pad_cons (dv 4) pad_nil) (lenS len0)))) (by decide))
      (sso_one (so_ret (O := [(3, (.own .pl))]) (pd_bm mJoin PySem.F.plainAttrs_str PySem.F.slot_str_join PySem.F.type_str_join mt_join pd_str (pad_cons (dv 3) pad_nil))))))))
def m_law_cell_at : SM := (sSeq (sIf (dB (dBin (gI pLt) (dVar 1) (dFn gLen (dCons (dVar 0) dNil)))) (sRet (dBin gIx (dVar 0) (dVar 1))) sNx)
    (sRet (dC (.int 0))))
abbrev M_law_cell_at : List D → Option D := fnD 2 m_law_cell_at
theorem ok_law_cell_at {P : Program} {w : World} {K : PySem.W.Frag} {mg : Str → Option Value} {base : Heap} {A : Ad} (T : Txt K mg A) (B : B base mg A) : FnOk P w K mg base CX0 1 A.f_law_cell_at A.fd_law_cell_at ["_law_script", "_law_k"] (spPN K (tl A) false 2 M_law_cell_at) :=
  T.F_law_cell_at.okD (O' := []) (N := ["_law_script", "_law_k"]) (ps := ["_law_script", "_law_k"]) (k := 0) (nw := false) (m := m_law_cell_at) sc_law_cell_at fun A' outer s H E hr => by
    exact (sso_cons (so_if (O := []) (ptd_cmp (dI (p := pLt)) op_lt (nomark _) (dv 1) (pd_callB dLen call_lenD (by rfl) T.z_len PySem.boot_len (pad_cons (dv 0) pad_nil)))
      (sso_one (so_ret (O := []) (pd_ix dIx ix_D (fun _ _ => rfl) (dv 0) (dv 1))))
      sso_nil)
      (sso_one (so_ret (O := []) pd_int)))
def m_law_drawn : SM := (sSeq (sSet 2 (ev false [] (dBin gMod (dBin gMul (dBin gAdd (dBin gAdd (dVar 0) (dBin gMul (dC (.int 101)) (dVar 1))) (dC (.int 7))) (dC (.int 48271))) (dC (.int 2147483647)))))
    (sRet (dBin gFdiv (dBin gMod (dBin gMul (dBin gAdd (dBin gFdiv (dVar 2) (dC (.int 7))) (dVar 1)) (dC (.int 16807))) (dC (.int 2147483647))) (dC (.int 64)))))
abbrev M_law_drawn : List D → Option D := fnD 3 m_law_drawn
theorem ok_law_drawn {P : Program} {w : World} {K : PySem.W.Frag} {mg : Str → Option Value} {base : Heap} {A : Ad} (T : Txt K mg A) (B : B base mg A) : FnOk P w K mg base CX0 1 A.f_law_drawn A.fd_law_drawn ["_law_seed", "_law_k"] (spPN K (tl A) false 2 M_law_drawn) :=
  T.F_law_drawn.okD (O' := []) (N := ["_law_seed", "_law_k", "_law_mixed"]) (ps := ["_law_seed", "_law_k"]) (k := 0) (nw := false) (m := m_law_drawn) sc_law_drawn fun A' outer s H E hr => by
    exact (sso_cons (so_set (O := []) (i := 2) (vw := false) sc_law_drawn.nd rfl (by first | exact Or.inl rfl | exact Or.inr rfl) (pd_bin dMod op_mod (pd_bin dMul op_mulD (pd_bin dAdd op_addD (pd_bin dAdd op_addD (dv 0) (pd_bin dMul op_mulD pd_int (dv 1))) pd_int) pd_int) pd_int))
      (sso_one (so_ret (O := []) (pd_bin dFdiv op_fdivW (pd_bin dMod op_mod (pd_bin dMul op_mulD (pd_bin dAdd op_addD (pd_bin dFdiv op_fdivW (dv 2) pd_int) (dv 1)) pd_int) pd_int) pd_int))))
def m_law_row_by : SM := (sSeq (sIf (dB (dBin (gEqv false) (dBin gMod (dFn M_law_drawn (dCons (dVar 0) (dCons (dBin gAdd (dBin gMul (dC (.int 10)) (dVar 1)) (dC (.int 9))) dNil))) (dC (.int 8))) (dC (.int 3)))) (sRet (dLc [3] (dRng1 (dBin gAdd (dVar 2) (dC (.int 1)))) (bd1 3) tYesD (dBin gSub (dBin gMod (dFn M_law_drawn (dCons (dVar 0) (dCons (dBin gAdd (dBin gMul (dC (.int 10)) (dVar 1)) (dVar 3)) dNil))) (dC (.int 2001))) (dC (.int 1000))))) sNx)
    (sRet (dBin gAdd (dLc [3] (dRng1 (dVar 2)) (bd1 3) tYesD (dBin gSub (dBin gMod (dFn M_law_drawn (dCons (dVar 0) (dCons (dBin gAdd (dBin gMul (dC (.int 10)) (dVar 1)) (dVar 3)) dNil))) (dC (.int 5))) (dC (.int 2)))) (dFn (fun ds => some (.lst ds)) (dCons (dBin gSub (dBin gMod (dFn M_law_drawn (dCons (dVar 0) (dCons (dBin gAdd (dBin gMul (dC (.int 10)) (dVar 1)) (dC (.int 7))) dNil))) (dC (.int 13))) (dC (.int 6))) dNil)))))
abbrev M_law_row_by : List D → Option D := fnD 4 m_law_row_by
theorem ok_law_row_by {P : Program} {w : World} {K : PySem.W.Frag} {mg : Str → Option Value} {base : Heap} {A : Ad} (T : Txt K mg A) (B : B base mg A) : FnOk P w K mg base CX0 2 A.f_law_row_by A.fd_law_row_by ["_law_cell", "_law_k", "_law_many"] (spPN K (tl A) false 3 M_law_row_by) :=
  T.F_law_row_by.okD (O' := []) (N := ["_law_cell", "_law_k", "_law_many", "_law_j"]) (ps := ["_law_cell", "_law_k", "_law_many"]) (k := 1) (nw := false) (m := m_law_row_by) sc_law_row_by fun A' outer s H E hr => by
    exact (sso_cons (so_if (O := []) (ptd_cmp dEq (op_eqX hr.units) (nomark _) (pd_bin dMod op_mod (pd_call (FnOk.weak (ok_law_drawn T B)) (hr.mono (by decide)) (by rfl) T.g_law_drawn T.F_law_drawn.kp T.b_law_drawn (pad_cons (dv 0) (pad_cons (pd_bin dAdd op_addD (pd_bin dMul op_mulD pd_int (dv 1)) pd_int) pad_nil)) (lenS (lenS len0))) pd_int) pd_int)
      (sso_one (so_ret (O := []) (pd_lc (own := [("_law_j", 3)]) rfl sc_law_row_by.nd (pid_range1 (by rfl) T.z_range (pd_bin dAdd op_addD (dv 2) pd_int)) (blkOk_by (own := [("_law_j", 3)]) (N := ["_law_cell", "_law_k", "_law_many", "_law_j"]) (by kernel_rfl)) (gd1 (i := 3) (by decide)) (fun _ _ _ _ _ => (pg_name (i := 3) sc_law_row_by.nd rfl (by first | exact Or.inl rfl | exact Or.inr rfl))) (fun _ _ _ _ _ => ptsd_nil) (fun _ _ _ _ _ => (pd_bin dSub op_sub (pd_bin dMod op_mod (pd_call (FnOk.weak (ok_law_drawn T B)) (hr.mono (by decide)) (by rfl) T.g_law_drawn T.F_law_drawn.kp T.b_law_drawn (pad_cons (dv 0) (pad_cons (pd_bin dAdd op_addD (pd_bin dMul op_mulD pd_int (dv 1)) (dv 3)) pad_nil)) (lenS (lenS len0))) pd_int) pd_int)))))
      sso_nil)
      (sso_one (so_ret (O := []) (pd_bin dAdd op_addD (pd_lc (own := [("_law_j", 3)]) rfl sc_law_row_by.nd (pid_range1 (by rfl) T.z_range (dv 2)) (blkOk_by (own := [("_law_j", 3)]) (N := ["_law_cell", "_law_k", "_law_many", "_law_j"]) (by kernel_rfl)) (gd1 (i := 3) (by decide)) (fun _ _ _ _ _ => (pg_name (i := 3) sc_law_row_by.nd rfl (by first | exact Or.inl rfl | exact Or.inr rfl))) (fun _ _ _ _ _ => ptsd_nil) (fun _ _ _ _ _ => (pd_bin dSub op_sub (pd_bin dMod op_mod (pd_call (FnOk.weak (ok_law_drawn T B)) (hr.mono (by decide)) (by rfl) T.g_law_drawn T.F_law_drawn.kp T.b_law_drawn (pad_cons (dv 0) (pad_cons (pd_bin dAdd op_addD (pd_bin dMul op_mulD pd_int (dv 1)) (dv 3)) pad_nil)) (lenS (lenS len0))) pd_int) pd_int))) (pd_lst (pad_cons (pd_bin dSub op_sub (pd_bin dMod op_mod (pd_call (FnOk.weak (ok_law_drawn T B)) (hr.mono (by decide)) (by rfl) T.g_law_drawn T.F_law_drawn.kp T.b_law_drawn (pad_cons (dv 0) (pad_cons (pd_bin dAdd op_addD (pd_bin dMul op_mulD pd_int (dv 1)) pd_int) pad_nil)) (lenS (lenS len0))) pd_int) pd_int) pad_nil) (lenL (lenS len0) (by decide)))))))
def m_law_way_by : SM := (sSeq (sSet 2 (ev false [] (dBin gMod (dFn M_law_drawn (dCons (dVar 0) (dCons (dC (.int 3)) dNil))) (dC (.int 4)))))
    (sSeq (sSet 3 (ev false [] (dLc [4] (dRng1 (dBin gMod (dFn M_law_drawn (dCons (dVar 0) (dCons (dC (.int 4)) dNil))) (dC (.int 4)))) (bd1 4) tYesD (dFn M_law_row_by (dCons (dVar 0) (dCons (dBin gAdd (dC (.int 2)) (dVar 4)) (dCons (dVar 1) dNil)))))))
    (sSeq (sSet 5 (ev false [] (dLc [4] (dRng1 (dVar 1)) (bd1 4) tYesD (dFn M_law_row_by (dCons (dVar 0) (dCons (dBin gAdd (dC (.int 6)) (dVar 4)) (dCons (dVar 1) dNil)))))))
    (sSeq (sSet 6 (ev false [] (dLc [4] (dRng1 (dVar 1)) (bd1 4) tYesD (dBin gSub (dBin gMod (dFn M_law_drawn (dCons (dVar 0) (dCons (dBin gAdd (dC (.int 100)) (dVar 4)) dNil))) (dC (.int 7))) (dC (.int 3))))))
    (sSeq (sIf (tOrD (dB (dBin (gEqv false) (dVar 2) (dC (.int 1)))) (dB (dBin (gEqv false) (dVar 2) (dC (.int 2))))) (sSet 5 (ev false [] (dLc [4] (dRng1 (dVar 1)) (bd1 4) tYesD (dBin gAdd (dLc [7] (dRng1 (dVar 1)) (bd1 7) tYesD (dFn gInt (dCons (dBin (gEqv false) (dVar 7) (dVar 4)) dNil))) (dFn (fun ds => some (.lst ds)) (dCons (dBin gIx (dVar 6) (dVar 4)) dNil)))))) sNx)
    (sSeq (sIf (dB (dBin (gEqv false) (dVar 2) (dC (.int 2)))) (sSet 3 (ev false [] (dBin gAdd (dVar 3) (dFn (fun ds => some (.lst ds)) (dCons (dBin gAdd (dLc [8] (dLs (dVar 6)) (bd1 8) tYesD (dBin gSub (dC (.int 0)) (dVar 8))) (dFn (fun ds => some (.lst ds)) (dCons (dBin gMod (dFn M_law_drawn (dCons (dVar 0) (dCons (dC (.int 110)) dNil))) (dC (.int 9))) dNil))) dNil))))) sNx)
    (sSeq (sIf (dB (dBin (gEqv false) (dVar 2) (dC (.int 3)))) (sSet 5 (ev false [] (dLc [9] (dLs (dVar 5)) (bd1 9) tYesD (dBin gAdd (dBin gMul (dFn (fun ds => some (.lst ds)) (dCons (dC (.int 0)) dNil)) (dVar 1)) (dSl (dVar 9) (dPart (dVar 1)) dNoP))))) sNx)
    (sRet (dFn (fun ds => some (.tup ds)) (dCons (dVar 3) (dCons (dVar 5) dNil)))))))))))
abbrev M_law_way_by : List D → Option D := fnD 10 m_law_way_by
theorem ok_law_way_by {P : Program} {w : World} {K : PySem.W.Frag} {mg : Str → Option Value} {base : Heap} {A : Ad} (T : Txt K mg A) (B : B base mg A) : FnOk P w K mg base CX0 3 A.f_law_way_by A.fd_law_way_by ["_law_cell", "_law_many"] (spPN K (tl A) false 2 M_law_way_by) :=
  T.F_law_way_by.okD (O' := []) (N := ["_law_cell", "_law_many", "_law_mode", "_law_asks", "_law_k", "_law_gives", "_law_steps", "_law_j", "_law_one", "_law_row"]) (ps := ["_law_cell", "_law_many"]) (k := 2) (nw := false) (m := m_law_way_by) sc_law_way_by fun A' outer s H E hr => by
    exact (sso_cons (so_set (O := []) (i := 2) (vw := false) sc_law_way_by.nd rfl (by first | exact Or.inl rfl | exact Or.inr rfl) (pd_bin dMod op_mod (pd_call (FnOk.weak (ok_law_drawn T B)) (hr.mono (by decide)) (by rfl) T.g_law_drawn T.F_law_drawn.kp T.b_law_drawn (pad_cons (dv 0) (pad_cons pd_int pad_nil)) (lenS (lenS len0))) pd_int))
      (sso_cons (by first | exact so_setLc (O := []) (i := 3) (own := [("_law_k", 4)]) rfl sc_law_way_by.nd rfl rfl (sw_true rfl rfl rfl (by decide +kernel)) (pid_range1 (by rfl) T.z_range (pd_bin dMod op_mod (pd_call (FnOk.weak (ok_law_drawn T B)) (hr.mono (by decide)) (by rfl) T.g_law_drawn T.F_law_drawn.kp T.b_law_drawn (pad_cons (dv 0) (pad_cons pd_int pad_nil)) (lenS (lenS len0))) pd_int)) (blkOk_by (own := [("_law_k", 4)]) (N := ["_law_cell", "_law_many", "_law_mode", "_law_asks", "_law_k", "_law_gives", "_law_steps", "_law_j", "_law_one", "_law_row"]) (by kernel_rfl)) (gd1 (i := 4) (by decide)) (fun _ _ _ _ _ => (pg_name (i := 4) sc_law_way_by.nd rfl (by first | exact Or.inl rfl | exact Or.inr rfl))) (fun _ _ _ _ _ => ptsd_nil) (fun _ _ _ _ _ => (pd_call (FnOk.weak (ok_law_row_by T B)) (hr.mono (by decide)) (by rfl) T.g_law_row_by T.F_law_row_by.kp T.b_law_row_by (pad_cons (dv 0) (pad_cons (pd_bin dAdd op_addD pd_int (dv 4)) (pad_cons (dv 1) pad_nil))) (lenS (lenS (lenS len0))))) | exact so_set (O := []) (i := 3) (vw := false) sc_law_way_by.nd rfl (by first | exact Or.inl rfl | exact Or.inr rfl) (pd_lc (own := [("_law_k", 4)]) rfl sc_law_way_by.nd (pid_range1 (by rfl) T.z_range (pd_bin dMod op_mod (pd_call (FnOk.weak (ok_law_drawn T B)) (hr.mono (by decide)) (by rfl) T.g_law_drawn T.F_law_drawn.kp T.b_law_drawn (pad_cons (dv 0) (pad_cons pd_int pad_nil)) (lenS (lenS len0))) pd_int)) (blkOk_by (own := [("_law_k", 4)]) (N := ["_law_cell", "_law_many", "_law_mode", "_law_asks", "_law_k", "_law_gives", "_law_steps", "_law_j", "_law_one", "_law_row"]) (by kernel_rfl)) (gd1 (i := 4) (by decide)) (fun _ _ _ _ _ => (pg_name (i := 4) sc_law_way_by.nd rfl (by first | exact Or.inl rfl | exact Or.inr rfl))) (fun _ _ _ _ _ => ptsd_nil) (fun _ _ _ _ _ => (pd_call (FnOk.weak (ok_law_row_by T B)) (hr.mono (by decide)) (by rfl) T.g_law_row_by T.F_law_row_by.kp T.b_law_row_by (pad_cons (dv 0) (pad_cons (pd_bin dAdd op_addD pd_int (dv 4)) (pad_cons (dv 1) pad_nil))) (lenS (lenS (lenS len0)))))))
      (sso_cons (by first | exact so_setLc (O := []) (i := 5) (own := [("_law_k", 4)]) rfl sc_law_way_by.nd rfl rfl (sw_true rfl rfl rfl (by decide +kernel)) (pid_range1 (by rfl) T.z_range (dv 1)) (blkOk_by (own := [("_law_k", 4)]) (N := ["_law_cell", "_law_many", "_law_mode", "_law_asks", "_law_k", "_law_gives", "_law_steps", "_law_j", "_law_one", "_law_row"]) (by kernel_rfl)) (gd1 (i := 4) (by decide)) (fun _ _ _ _ _ => (pg_name (i := 4) sc_law_way_by.nd rfl (by first | exact Or.inl rfl | exact Or.inr rfl))) (fun _ _ _ _ _ => ptsd_nil) (fun _ _ _ _ _ => (pd_call (FnOk.weak (ok_law_row_by T B)) (hr.mono (by decide)) (by rfl) T.g_law_row_by T.F_law_row_by.kp T.b_law_row_by (pad_cons (dv 0) (pad_cons (pd_bin dAdd op_addD pd_int (dv 4)) (pad_cons (dv 1) pad_nil))) (lenS (lenS (lenS len0))))) | exact so_set (O := []) (i := 5) (vw := false) sc_law_way_by.nd rfl (by first | exact Or.inl rfl | exact Or.inr rfl) (pd_lc (own := [("_law_k", 4)]) rfl sc_law_way_by.nd (pid_range1 (by rfl) T.z_range (dv 1)) (blkOk_by (own := [("_law_k", 4)]) (N := ["_law_cell", "_law_many", "_law_mode", "_law_asks", "_law_k", "_law_gives", "_law_steps", "_law_j", "_law_one", "_law_row"]) (by kernel_rfl)) (gd1 (i := 4) (by decide)) (fun _ _ _ _ _ => (pg_name (i := 4) sc_law_way_by.nd rfl (by first | exact Or.inl rfl | exact Or.inr rfl))) (fun _ _ _ _ _ => ptsd_nil) (fun _ _ _ _ _ => (pd_call (FnOk.weak (ok_law_row_by T B)) (hr.mono (by decide)) (by rfl) T.g_law_row_by T.F_law_row_by.kp T.b_law_row_by (pad_cons (dv 0) (pad_cons (pd_bin dAdd op_addD pd_int (dv 4)) (pad_cons (dv 1) pad_nil))) (lenS (lenS (lenS len0)))))))
      (sso_cons (by first | exact so_setLc (O := []) (i := 6) (own := [("_law_k", 4)]) rfl sc_law_way_by.nd rfl rfl (sw_true rfl rfl rfl (by decide +kernel)) (pid_range1 (by rfl) T.z_range (dv 1)) (blkOk_by (own := [("_law_k", 4)]) (N := ["_law_cell", "_law_many", "_law_mode", "_law_asks", "_law_k", "_law_gives", "_law_steps", "_law_j", "_law_one", "_law_row"]) (by kernel_rfl)) (gd1 (i := 4) (by decide)) (fun _ _ _ _ _ => (pg_name (i := 4) sc_law_way_by.nd rfl (by first | exact Or.inl rfl | exact Or.inr rfl))) (fun _ _ _ _ _ => ptsd_nil) (fun _ _ _ _ _ => (pd_bin dSub op_sub (pd_bin dMod op_mod (pd_call (FnOk.weak (ok_law_drawn T B)) (hr.mono (by decide)) (by rfl) T.g_law_drawn T.F_law_drawn.kp T.b_law_drawn (pad_cons (dv 0) (pad_cons (pd_bin dAdd op_addD pd_int (dv 4)) pad_nil)) (lenS (lenS len0))) pd_int) pd_int)) | exact so_set (O := []) (i := 6) (vw := false) sc_law_way_by.nd rfl (by first | exact Or.inl rfl | exact Or.inr rfl) (pd_lc (own := [("_law_k", 4)]) rfl sc_law_way_by.nd (pid_range1 (by rfl) T.z_range (dv 1)) (blkOk_by (own := [("_law_k", 4)]) (N := ["_law_cell", "_law_many", "_law_mode", "_law_asks", "_law_k", "_law_gives", "_law_steps", "_law_j", "_law_one", "_law_row"]) (by kernel_rfl)) (gd1 (i := 4) (by decide)) (fun _ _ _ _ _ => (pg_name (i := 4) sc_law_way_by.nd rfl (by first | exact Or.inl rfl | exact Or.inr rfl))) (fun _ _ _ _ _ => ptsd_nil) (fun _ _ _ _ _ => (pd_bin dSub op_sub (pd_bin dMod op_mod (pd_call (FnOk.weak (ok_law_drawn T B)) (hr.mono (by decide)) (by rfl) T.g_law_drawn T.F_law_drawn.kp T.b_law_drawn (pad_cons (dv 0) (pad_cons (pd_bin dAdd op_addD pd_int (dv 4)) pad_nil)) (lenS (lenS len0))) pd_int) pd_int))))
      (sso_cons (so_if (O := []) (ptd_w (pwd_or (ptd_cmp dEq (op_eqX hr.units) (nomark _) (dv 2) pd_int) (pwd_or1 (ptd_cmp dEq (op_eqX hr.units) (nomark _) (dv 2) pd_int))))
      (sso_one (by first | exact so_setLc (O := []) (i := 5) (own := [("_law_k", 4)]) rfl sc_law_way_by.nd rfl rfl (sw_true rfl rfl rfl (by decide +kernel)) (pid_range1 (by rfl) T.z_range (dv 1)) (blkOk_by (own := [("_law_k", 4)]) (N := ["_law_cell", "_law_many", "_law_mode", "_law_asks", "_law_k", "_law_gives", "_law_steps", "_law_j", "_law_one", "_law_row"]) (by kernel_rfl)) (gd1 (i := 4) (by decide)) (fun _ _ _ _ _ => (pg_name (i := 4) sc_law_way_by.nd rfl (by first | exact Or.inl rfl | exact Or.inr rfl))) (fun _ _ _ _ _ => ptsd_nil) (fun _ _ _ _ _ => (pd_bin dAdd op_addD (pd_lc (own := [("_law_j", 7)]) rfl sc_law_way_by.nd (pid_range1 (by rfl) T.z_range (dv 1)) (blkOk_by (own := [("_law_j", 7)]) (N := ["_law_cell", "_law_many", "_law_mode", "_law_asks", "_law_k", "_law_gives", "_law_steps", "_law_j", "_law_one", "_law_row"]) (by kernel_rfl)) (gd1 (i := 7) (by decide)) (fun _ _ _ _ _ => (pg_name (i := 7) sc_law_way_by.nd rfl (by first | exact Or.inl rfl | exact Or.inr rfl))) (fun _ _ _ _ _ => ptsd_nil) (fun _ _ _ _ _ => (pd_callTy dIntC call_int1 (by rfl) T.z_int (by decide +kernel) (pad_cons (pd_cmp dEq (op_eqX hr.units) (nomark _) (dv 7) (dv 4)) pad_nil)))) (pd_lst (pad_cons (pd_ix dIx ix_D (fun _ _ => rfl) (dv 6) (dv 4)) pad_nil) (lenL (lenS len0) (by decide))))) | exact so_set (O := []) (i := 5) (vw := false) sc_law_way_by.nd rfl (by first | exact Or.inl rfl | exact Or.inr rfl) (pd_lc (own := [("_law_k", 4)]) rfl sc_law_way_by.nd (pid_range1 (by rfl) T.z_range (dv 1)) (blkOk_by (own := [("_law_k", 4)]) (N := ["_law_cell", "_law_many", "_law_mode", "_law_asks", "_law_k", "_law_gives", "_law_steps", "_law_j", "_law_one", "_law_row"]) (by kernel_rfl)) (gd1 (i := 4) (by decide)) (fun _ _ _ _ _ => (pg_name (i := 4) sc_law_way_by.nd rfl (by first | exact Or.inl rfl | exact Or.inr rfl))) (fun _ _ _ _ _ => ptsd_nil) (fun _ _ _ _ _ => (pd_bin dAdd op_addD (pd_lc (own := [("_law_j", 7)]) rfl sc_law_way_by.nd (pid_range1 (by rfl) T.z_range (dv 1)) (blkOk_by (own := [("_law_j", 7)]) (N := ["_law_cell", "_law_many", "_law_mode", "_law_asks", "_law_k", "_law_gives", "_law_steps", "_law_j", "_law_one", "_law_row"]) (by kernel_rfl)) (gd1 (i := 7) (by decide)) (fun _ _ _ _ _ => (pg_name (i := 7) sc_law_way_by.nd rfl (by first | exact Or.inl rfl | exact Or.inr rfl))) (fun _ _ _ _ _ => ptsd_nil) (fun _ _ _ _ _ => (pd_callTy dIntC call_int1 (by rfl) T.z_int (by decide +kernel) (pad_cons (pd_cmp dEq (op_eqX hr.units) (nomark _) (dv 7) (dv 4)) pad_nil)))) (pd_lst (pad_cons (pd_ix dIx ix_D (fun _ _ => rfl) (dv 6) (dv 4)) pad_nil) (lenL (lenS len0) (by decide))))))))
      sso_nil)
      (sso_cons (so_if (O := []) (ptd_cmp dEq (op_eqX hr.units) (nomark _) (dv 2) pd_int)
      (sso_one (so_set (O := []) (i := 3) (vw := false) sc_law_way_by.nd rfl (by first | exact Or.inl rfl | exact Or.inr rfl) (pd_bin dAdd op_addD (dv 3) (pd_lst (pad_cons (pd_bin dAdd op_addD (pd_lc (own := [("_law_one", 8)]) rfl sc_law_way_by.nd (pid_list (dv 6)) (blkOk_by (own := [("_law_one", 8)]) (N := ["_law_cell", "_law_many", "_law_mode", "_law_asks", "_law_k", "_law_gives", "_law_steps", "_law_j", "_law_one", "_law_row"]) (by kernel_rfl)) (gd1 (i := 8) (by decide)) (fun _ _ _ _ _ => (pg_name (i := 8) sc_law_way_by.nd rfl (by first | exact Or.inl rfl | exact Or.inr rfl))) (fun _ _ _ _ _ => ptsd_nil) (fun _ _ _ _ _ => (pd_bin dSub op_sub pd_int (dv 8)))) (pd_lst (pad_cons (pd_bin dMod op_mod (pd_call (FnOk.weak (ok_law_drawn T B)) (hr.mono (by decide)) (by rfl) T.g_law_drawn T.F_law_drawn.kp T.b_law_drawn (pad_cons (dv 0) (pad_cons pd_int pad_nil)) (lenS (lenS len0))) pd_int) pad_nil) (lenL (lenS len0) (by decide)))) pad_nil) (lenL (lenS len0) (by decide))))))
      sso_nil)
      (sso_cons (so_if (O := []) (ptd_cmp dEq (op_eqX hr.units) (nomark _) (dv 2) pd_int)
      (sso_one (by first | exact so_setLc (O := []) (i := 5) (own := [("_law_row", 9)]) rfl sc_law_way_by.nd rfl rfl (sw_true rfl rfl rfl (by decide +kernel)) (pid_list (dv 5)) (blkOk_by (own := [("_law_row", 9)]) (N := ["_law_cell", "_law_many", "_law_mode", "_law_asks", "_law_k", "_law_gives", "_law_steps", "_law_j", "_law_one", "_law_row"]) (by kernel_rfl)) (gd1 (i := 9) (by decide)) (fun _ _ _ _ _ => (pg_name (i := 9) sc_law_way_by.nd rfl (by first | exact Or.inl rfl | exact Or.inr rfl))) (fun _ _ _ _ _ => ptsd_nil) (fun _ _ _ _ _ => (pd_bin dAdd op_addD (pd_bin dMul op_mulD (pd_lst (pad_cons pd_int pad_nil) (lenL (lenS len0) (by decide))) (dv 1)) (pd_slice (dv 9) (pod_some (dv 1)) pod_none))) | exact so_set (O := []) (i := 5) (vw := false) sc_law_way_by.nd rfl (by first | exact Or.inl rfl | exact Or.inr rfl) (pd_lc (own := [("_law_row", 9)]) rfl sc_law_way_by.nd (pid_list (dv 5)) (blkOk_by (own := [("_law_row", 9)]) (N := ["_law_cell", "_law_many", "_law_mode", "_law_asks", "_law_k", "_law_gives", "_law_steps", "_law_j", "_law_one", "_law_row"]) (by kernel_rfl)) (gd1 (i := 9) (by decide)) (fun _ _ _ _ _ => (pg_name (i := 9) sc_law_way_by.nd rfl (by first | exact Or.inl rfl | exact Or.inr rfl))) (fun _ _ _ _ _ => ptsd_nil) (fun _ _ _ _ _ => (pd_bin dAdd op_addD (pd_bin dMul op_mulD (pd_lst (pad_cons pd_int pad_nil) (lenL (lenS len0) (by decide))) (dv 1)) (pd_slice (dv 9) (pod_some (dv 1)) pod_none))))))
      sso_nil)
      (sso_one (so_ret (O := []) (pd_tup (pad_cons (dv 3) (pad_cons (dv 5) pad_nil)) (lenL (lenS (lenS len0)) (by decide))))))))))))
def m_law_far : SM := (sRet (dLc [1] (dLs (dVar 0)) (bd1 1) tYesD (dFn (g2 pMax) (dCons (dUn gNeg (dC (.int 1000))) (dCons (dFn (g2 pMin) (dCons (dC (.int 1000)) (dCons (dBin gMul (dC (.int 250)) (dVar 1)) dNil))) dNil)))))
abbrev M_law_far : List D → Option D := fnD 2 m_law_far
theorem ok_law_far {P : Program} {w : World} {K : PySem.W.Frag} {mg : Str → Option Value} {base : Heap} {A : Ad} (T : Txt K mg A) (B : B base mg A) : FnOk P w K mg base CX0 1 A.f_law_far A.fd_law_far ["_law_row"] (spPN K (tl A) false 1 M_law_far) :=
  T.F_law_far.okD (O' := []) (N := ["_law_row", "_law_one"]) (ps := ["_law_row"]) (k := 0) (nw := false) (m := m_law_far) sc_law_far fun A' outer s H E hr => by
    exact (sso_one (so_ret (O := []) (pd_lc (own := [("_law_one", 1)]) rfl sc_law_far.nd (pid_list (dv 0)) (blkOk_by (own := [("_law_one", 1)]) (N := ["_law_row", "_law_one"]) (by kernel_rfl)) (gd1 (i := 1) (by decide)) (fun _ _ _ _ _ => (pg_name (i := 1) sc_law_far.nd rfl (by first | exact Or.inl rfl | exact Or.inr rfl))) (fun _ _ _ _ _ => ptsd_nil) (fun _ _ _ _ _ => (pd_callB (d2 (p := pMax)) (call_max2 rfl) (by rfl) T.z_max (by decide +kernel) (pad_cons (pd_un dNeg un_neg pd_int) (pad_cons (pd_callB (d2 (p := pMin)) (call_min2 rfl) (by rfl) T.z_min (by decide +kernel) (pad_cons pd_int (pad_cons (pd_bin dMul op_mulD pd_int (dv 1)) pad_nil))) pad_nil)))))))
def m_law_loop_by : SM := (sSeq (sSet 2 (ev false [] (dFn M_law_cell_at (dCons (dVar 0) (dCons (dVar 1) dNil)))))
    (sSeq (sSet 3 (ev false [] (dBin gIx (dFn (fun ds => some (.lst ds)) (dCons (dC (.int 1)) (dCons (dC (.int 2)) (dCons (dC (.int 3)) (dCons (dC (.int 1)) (dCons (dC (.int 2)) (dCons (dC (.int 2)) (dCons (dC (.int 1)) (dCons (dC (.int 3)) dNil))))))))) (dBin gMod (dVar 2) (dC (.int 8))))))
    (sSeq (sSet 4 (ev false [] (dBin gIx (dFn (fun ds => some (.lst ds)) (dCons (dC (.int 1)) (dCons (dC (.int 2)) (dCons (dC (.int 1)) (dCons (dC (.int 1)) (dCons (dC (.int 2)) (dCons (dC (.int 1)) (dCons (dC (.int 3)) dNil)))))))) (dBin gMod (dBin gFdiv (dVar 2) (dC (.int 8))) (dC (.int 7))))))
    (sSeq (sSet 5 (ev false [] (dLc [6] (dRng1 (dVar 4)) (bd1 6) tYesD (dFn M_law_way_by (dCons (dFn M_law_cell_at (dCons (dVar 0) (dCons (dBin gAdd (dBin gAdd (dVar 1) (dC (.int 1))) (dVar 6)) dNil))) (dCons (dVar 3) dNil))))))
    (sSeq (sIf (dB (dBin (gEqv false) (dBin gMod (dBin gFdiv (dVar 2) (dC (.int 56))) (dC (.int 8))) (dC (.int 5)))) (sSeq (sLst 7 [] dNil)
    (sSeq (sFor [7] (dLs (dVar 5)) (bd2 8 9) (sApp 7 (ev false [7] (dFn (fun ds => some (.tup ds)) (dCons (dLc [10] (dLs (dVar 8)) (bd1 10) tYesD (dFn M_law_far (dCons (dVar 10) dNil))) (dCons (dLc [10] (dLs (dVar 9)) (bd1 10) tYesD (dFn M_law_far (dCons (dVar 10) dNil))) dNil))))))
    (sSet 5 (ev false [] (dVar 7))))) sNx)
    (sRet (dFn (fun ds => some (.tup ds)) (dCons (dVar 3) (dCons (dVar 5) dNil)))))))))
abbrev M_law_loop_by : List D → Option D := fnD 11 m_law_loop_by
theorem ok_law_loop_by {P : Program} {w : World} {K : PySem.W.Frag} {mg : Str → Option Value} {base : Heap} {A : Ad} (T : Txt K mg A) (B : B base mg A) : FnOk P w K mg base CX0 4 A.f_law_loop_by A.fd_law_loop_by ["_law_script", "_law_at"] (spPN K (tl A) false 2 M_law_loop_by) :=
  T.F_law_loop_by.okD (O' := []) (N := ["_law_script", "_law_at", "_law_first", "_law_many", "_law_size", "_law_ways", "_law_k", "_law_far_here", "_law_asks", "_law_gives", "_law_row"]) (ps := ["_law_script", "_law_at"]) (k := 3) (nw := false) (m := m_law_loop_by) sc_law_loop_by fun A' outer s H E hr => by
    exact (sso_cons (so_set (O := []) (i := 2) (vw := false) sc_law_loop_by.nd rfl (by first | exact Or.inl rfl | exact Or.inr rfl) (pd_call (FnOk.weak (ok_law_cell_at T B)) (hr.mono (by decide)) (by rfl) T.g_law_cell_at T.F_law_cell_at.kp T.b_law_cell_at (pad_cons (dv 0) (pad_cons (dv 1) pad_nil)) (lenS (lenS len0))))
      (sso_cons (so_set (O := []) (i := 3) (vw := false) sc_law_loop_by.nd rfl (by first | exact Or.inl rfl | exact Or.inr rfl) (pd_ix dIx ix_D (fun _ _ => rfl) (pd_lst (pad_cons pd_int (pad_cons pd_int (pad_cons pd_int (pad_cons pd_int (pad_cons pd_int (pad_cons pd_int (pad_cons pd_int (pad_cons pd_int pad_nil)))))))) (lenL (lenS (lenS (lenS (lenS (lenS (lenS (lenS (lenS len0)))))))) (by decide))) (pd_bin dMod op_mod (dv 2) pd_int)))
      (sso_cons (so_set (O := []) (i := 4) (vw := false) sc_law_loop_by.nd rfl (by first | exact Or.inl rfl | exact Or.inr rfl) (pd_ix dIx ix_D (fun _ _ => rfl) (pd_lst (pad_cons pd_int (pad_cons pd_int (pad_cons pd_int (pad_cons pd_int (pad_cons pd_int (pad_cons pd_int (pad_cons pd_int pad_nil))))))) (lenL (lenS (lenS (lenS (lenS (lenS (lenS (lenS len0))))))) (by decide))) (pd_bin dMod op_mod (pd_bin dFdiv op_fdivW (dv 2) pd_int) pd_int)))
      (sso_cons (by first | exact so_setLc (O := []) (i := 5) (own := [("_law_k", 6)]) rfl sc_law_loop_by.nd rfl rfl (sw_true rfl rfl rfl (by decide +kernel)) (pid_range1 (by rfl) T.z_range (dv 4)) (blkOk_by (own := [("_law_k", 6)]) (N := ["_law_script", "_law_at", "_law_first", "_law_many", "_law_size", "_law_ways", "_law_k", "_law_far_here", "_law_asks", "_law_gives", "_law_row"]) (by kernel_rfl)) (gd1 (i := 6) (by decide)) (fun _ _ _ _ _ => (pg_name (i := 6) sc_law_loop_by.nd rfl (by first | exact Or.inl rfl | exact Or.inr rfl))) (fun _ _ _ _ _ => ptsd_nil) (fun _ _ _ _ _ => (pd_call (FnOk.weak (ok_law_way_by T B)) (hr.mono (by decide)) (by rfl) T.g_law_way_by T.F_law_way_by.kp T.b_law_way_by (pad_cons (pd_call (FnOk.weak (ok_law_cell_at T B)) (hr.mono (by decide)) (by rfl) T.g_law_cell_at T.F_law_cell_at.kp T.b_law_cell_at (pad_cons (dv 0) (pad_cons (pd_bin dAdd op_addD (pd_bin dAdd op_addD (dv 1) pd_int) (dv 6)) pad_nil)) (lenS (lenS len0))) (pad_cons (dv 3) pad_nil)) (lenS (lenS len0)))) | exact so_set (O := []) (i := 5) (vw := false) sc_law_loop_by.nd rfl (by first | exact Or.inl rfl | exact Or.inr rfl) (pd_lc (own := [("_law_k", 6)]) rfl sc_law_loop_by.nd (pid_range1 (by rfl) T.z_range (dv 4)) (blkOk_by (own := [("_law_k", 6)]) (N := ["_law_script", "_law_at", "_law_first", "_law_many", "_law_size", "_law_ways", "_law_k", "_law_far_here", "_law_asks", "_law_gives", "_law_row"]) (by kernel_rfl)) (gd1 (i := 6) (by decide)) (fun _ _ _ _ _ => (pg_name (i := 6) sc_law_loop_by.nd rfl (by first | exact Or.inl rfl | exact Or.inr rfl))) (fun _ _ _ _ _ => ptsd_nil) (fun _ _ _ _ _ => (pd_call (FnOk.weak (ok_law_way_by T B)) (hr.mono (by decide)) (by rfl) T.g_law_way_by T.F_law_way_by.kp T.b_law_way_by (pad_cons (pd_call (FnOk.weak (ok_law_cell_at T B)) (hr.mono (by decide)) (by rfl) T.g_law_cell_at T.F_law_cell_at.kp T.b_law_cell_at (pad_cons (dv 0) (pad_cons (pd_bin dAdd op_addD (pd_bin dAdd op_addD (dv 1) pd_int) (dv 6)) pad_nil)) (lenS (lenS len0))) (pad_cons (dv 3) pad_nil)) (lenS (lenS len0))))))
      (sso_cons (so_if (O := []) (ptd_cmp dEq (op_eqX hr.units) (nomark _) (pd_bin dMod op_mod (pd_bin dFdiv op_fdivW (dv 2) pd_int) pd_int) pd_int)
      (sso_cons (so_lst (O := []) (i := 7) sc_law_loop_by.nd rfl (by first | exact Or.inl rfl | exact Or.inr rfl) pad_nil (lenL len0 (by decide)))
      (sso_cons (so_for (O := [(7, (.own .pl))]) (vs := [8, 9]) (gd2 (i := 8) (j := 9) (by decide) (by decide)) PassesOwn.never rfl (pid_list (dv 5)) (pg_tup rfl (pgs_cons (pg_name (i := 8) sc_law_loop_by.nd rfl (by first | exact Or.inl rfl | exact Or.inr rfl)) (pgs_cons (pg_name (i := 9) sc_law_loop_by.nd rfl (by first | exact Or.inl rfl | exact Or.inr rfl)) pgs_nil)))
      (sso_one (so_app (O := [(7, (.own .pl))]) (i := 7) (κ := (.own .pl)) (vw := false) (by decide) (by simp) rfl (pv 7) (pd_tup (pad_cons (pd_lc (own := [("_law_row", 10)]) rfl sc_law_loop_by.nd (pid_list (dv 8)) (blkOk_by (own := [("_law_row", 10)]) (N := ["_law_script", "_law_at", "_law_first", "_law_many", "_law_size", "_law_ways", "_law_k", "_law_far_here", "_law_asks", "_law_gives", "_law_row"]) (by kernel_rfl)) (gd1 (i := 10) (by decide)) (fun _ _ _ _ _ => (pg_name (i := 10) sc_law_loop_by.nd rfl (by first | exact Or.inl rfl | exact Or.inr rfl))) (fun _ _ _ _ _ => ptsd_nil) (fun _ _ _ _ _ => (pd_call (FnOk.weak (ok_law_far T B)) (hr.mono (by decide)) (by rfl) T.g_law_far T.F_law_far.kp T.b_law_far (pad_cons (dv 10) pad_nil) (lenS len0)))) (pad_cons (pd_lc (own := [("_law_row", 10)]) rfl sc_law_loop_by.nd (pid_list (dv 9)) (blkOk_by (own := [("_law_row", 10)]) (N := ["_law_script", "_law_at", "_law_first", "_law_many", "_law_size", "_law_ways", "_law_k", "_law_far_here", "_law_asks", "_law_gives", "_law_row"]) (by kernel_rfl)) (gd1 (i := 10) (by decide)) (fun _ _ _ _ _ => (pg_name (i := 10) sc_law_loop_by.nd rfl (by first | exact Or.inl rfl | exact Or.inr rfl))) (fun _ _ _ _ _ => ptsd_nil) (fun _ _ _ _ _ => (pd_call (FnOk.weak (ok_law_far T B)) (hr.mono (by decide)) (by rfl) T.g_law_far T.F_law_far.kp T.b_law_far (pad_cons (dv 10) pad_nil) (lenS len0)))) pad_nil)) (lenL (lenS (lenS len0)) (by decide))))) (by decide))
      (sso_frz (O2 := [])
      (sso_one (so_set (O := []) (i := 5) (vw := false) sc_law_loop_by.nd rfl (by first | exact Or.inl rfl | exact Or.inr rfl) (dv 7))) (by simp))))
      sso_nil)
      (sso_one (so_ret (O := []) (pd_tup (pad_cons (dv 3) (pad_cons (dv 5) pad_nil)) (lenL (lenS (lenS len0)) (by decide))))))))))
theorem ok_law_name_of {P : Program} {w : World} {K : PySem.W.Frag} {mg : Str → Option Value} {base : Heap} {A : Ad} (T : Txt K mg A) : FnP P w K mg base 2 A.f_law_name_of A.fd_law_name_of ["_law_error"] (spW A.cls errs tellE) := by
  refine T.F_law_name_of.okP (N := ["_law_error", "_law_found"]) (k := 1) sc_law_name_of (fun p vs H Q E h => by obtain ⟨n, _, rfl, _⟩ := h; rfl) fun p A' out s H vs Q E hr hsp => ?_
  obtain ⟨n, hn, rfl, hz, hf, q⟩ := hsp
  obtain ⟨pa, po⟩ := p
  have hp : (pa, po) ∈ (cxH CX0 P w K mg base ["_law_error", "_law_found"] "_law_name_of" (defScope s_law_name_of) A.f_law_name_of (.ref A.c_law_name_of) A' out s H E (pa, po)).pn := List.mem_singleton.mpr rfl
  exact ⟨_, pss_cons (ps_pv (pre := fun σ => σ = [some (.ref pa), none]) (i := 1) sc_law_name_of.nd rfl (Or.inl rfl) (pv_add (pv_lit (pre := fun σ => σ = [some (.ref pa), none]) (by rfl) T.z_int (pv_is (pre := fun σ => σ = [some (.ref pa), none]) hp (T.exC n hn) hz hf (fun σ e => by rw [e]; rfl) rfl (Or.inl rfl) (by rfl) T.z_isinstance (pe_glob (by rfl) T.gx_BadLoop (v := .ref A.x_BadLoop) rfl) (fun u h => h) (T.kit n hn "BadLoop" (by decide)))) (pv_lit (pre := fun σ => σ = [some (.ref pa), none]) (by rfl) T.z_int (pv_is (pre := fun σ => σ = [some (.ref pa), none]) hp (T.exC n hn) hz hf (fun σ e => by rw [e]; rfl) rfl (Or.inl rfl) (by rfl) T.z_isinstance (pe_glob (by rfl) T.gx_BadState (v := .ref A.x_BadState) rfl) (fun u h => h) (T.kit n hn "BadState" (by decide)))) (lens_le (by (constructor <;> (repeat first | exact sh_lit | apply sh_add))) (by decide))))
    (pss_cons (ps_pv (pre := fun σ => σ = [some (.ref pa), some (.str (lit "loop " (decide (n = ("BadLoop" : Str))) ++ lit "state " (decide (n = ("BadState" : Str)))))]) (i := 1) sc_law_name_of.nd rfl (Or.inl rfl) (pv_add (pv_add (pv_at (pre := fun σ => σ = [some (.ref pa), some (.str (lit "loop " (decide (n = ("BadLoop" : Str))) ++ lit "state " (decide (n = ("BadState" : Str)))))]) (i := 1) (fun σ e => by rw [e]; rfl) rfl (Or.inl rfl)) (pv_lit (pre := fun σ => σ = [some (.ref pa), some (.str (lit "loop " (decide (n = ("BadLoop" : Str))) ++ lit "state " (decide (n = ("BadState" : Str)))))]) (by rfl) T.z_int (pv_is (pre := fun σ => σ = [some (.ref pa), some (.str (lit "loop " (decide (n = ("BadLoop" : Str))) ++ lit "state " (decide (n = ("BadState" : Str)))))]) hp (T.exC n hn) hz hf (fun σ e => by rw [e]; rfl) rfl (Or.inl rfl) (by rfl) T.z_isinstance (pe_glob (by rfl) T.gx_BadCount (v := .ref A.x_BadCount) rfl) (fun u h => h) (T.kit n hn "BadCount" (by decide)))) (lens_le (by (constructor <;> (repeat first | exact sh_lit | apply sh_add))) (by decide))) (pv_lit (pre := fun σ => σ = [some (.ref pa), some (.str (lit "loop " (decide (n = ("BadLoop" : Str))) ++ lit "state " (decide (n = ("BadState" : Str)))))]) (by rfl) T.z_int (pv_is (pre := fun σ => σ = [some (.ref pa), some (.str (lit "loop " (decide (n = ("BadLoop" : Str))) ++ lit "state " (decide (n = ("BadState" : Str)))))]) hp (T.exC n hn) hz hf (fun σ e => by rw [e]; rfl) rfl (Or.inl rfl) (by rfl) T.z_isinstance (pe_glob (by rfl) T.gx_BadGauge (v := .ref A.x_BadGauge) rfl) (fun u h => h) (T.kit n hn "BadGauge" (by decide)))) (lens_le (by (constructor <;> (repeat first | exact sh_lit | apply sh_add))) (by decide))))
    (pss_cons (ps_pv (pre := fun σ => σ = [some (.ref pa), some (.str (((lit "loop " (decide (n = ("BadLoop" : Str))) ++ lit "state " (decide (n = ("BadState" : Str)))) ++ lit "count " (decide (n = ("BadCount" : Str)))) ++ lit "gauge " (decide (n = ("BadGauge" : Str)))))]) (i := 1) sc_law_name_of.nd rfl (Or.inl rfl) (pv_add (pv_add (pv_at (pre := fun σ => σ = [some (.ref pa), some (.str (((lit "loop " (decide (n = ("BadLoop" : Str))) ++ lit "state " (decide (n = ("BadState" : Str)))) ++ lit "count " (decide (n = ("BadCount" : Str)))) ++ lit "gauge " (decide (n = ("BadGauge" : Str)))))]) (i := 1) (fun σ e => by rw [e]; rfl) rfl (Or.inl rfl)) (pv_lit (pre := fun σ => σ = [some (.ref pa), some (.str (((lit "loop " (decide (n = ("BadLoop" : Str))) ++ lit "state " (decide (n = ("BadState" : Str)))) ++ lit "count " (decide (n = ("BadCount" : Str)))) ++ lit "gauge " (decide (n = ("BadGauge" : Str)))))]) (by rfl) T.z_int (pv_is (pre := fun σ => σ = [some (.ref pa), some (.str (((lit "loop " (decide (n = ("BadLoop" : Str))) ++ lit "state " (decide (n = ("BadState" : Str)))) ++ lit "count " (decide (n = ("BadCount" : Str)))) ++ lit "gauge " (decide (n = ("BadGauge" : Str)))))]) hp (T.exC n hn) hz hf (fun σ e => by rw [e]; rfl) rfl (Or.inl rfl) (by rfl) T.z_isinstance (pe_glob (by rfl) T.gx_BadTable (v := .ref A.x_BadTable) rfl) (fun u h => h) (T.kit n hn "BadTable" (by decide)))) (lens_le (by (constructor <;> (repeat first | exact sh_lit | apply sh_add))) (by decide))) (pv_lit (pre := fun σ => σ = [some (.ref pa), some (.str (((lit "loop " (decide (n = ("BadLoop" : Str))) ++ lit "state " (decide (n = ("BadState" : Str)))) ++ lit "count " (decide (n = ("BadCount" : Str)))) ++ lit "gauge " (decide (n = ("BadGauge" : Str)))))]) (by rfl) T.z_int (pv_is (pre := fun σ => σ = [some (.ref pa), some (.str (((lit "loop " (decide (n = ("BadLoop" : Str))) ++ lit "state " (decide (n = ("BadState" : Str)))) ++ lit "count " (decide (n = ("BadCount" : Str)))) ++ lit "gauge " (decide (n = ("BadGauge" : Str)))))]) hp (T.exC n hn) hz hf (fun σ e => by rw [e]; rfl) rfl (Or.inl rfl) (by rfl) T.z_isinstance (pe_glob (by rfl) T.gx_BadText (v := .ref A.x_BadText) rfl) (fun u h => h) (T.kit n hn "BadText" (by decide)))) (lens_le (by (constructor <;> (repeat first | exact sh_lit | apply sh_add))) (by decide))))
    (pss_one (ps_pick (pre := fun σ => σ = [some (.ref pa), some (.str (((((lit "loop " (decide (n = ("BadLoop" : Str))) ++ lit "state " (decide (n = ("BadState" : Str)))) ++ lit "count " (decide (n = ("BadCount" : Str)))) ++ lit "gauge " (decide (n = ("BadGauge" : Str)))) ++ lit "table " (decide (n = ("BadTable" : Str)))) ++ lit "text " (decide (n = ("BadText" : Str)))))]) (i := 1) (fun σ e => by rw [e]; rfl) rfl (Or.inl rfl) (by rfl) T.z_int (pv_is (pre := fun σ => σ = [some (.ref pa), some (.str (((((lit "loop " (decide (n = ("BadLoop" : Str))) ++ lit "state " (decide (n = ("BadState" : Str)))) ++ lit "count " (decide (n = ("BadCount" : Str)))) ++ lit "gauge " (decide (n = ("BadGauge" : Str)))) ++ lit "table " (decide (n = ("BadTable" : Str)))) ++ lit "text " (decide (n = ("BadText" : Str)))))]) hp (T.exC n hn) hz hf (fun σ e => by rw [e]; rfl) rfl (Or.inl rfl) (by rfl) T.z_isinstance (pe_bltn (v := .ty "ValueError") (by rfl) T.z_ValueError (by decide +kernel) rfl) (fun u h => h) (T.kitV n hn)))))), rfl, rfl, rfl, rfl, fun H' he => q H' he⟩
def m_law_copied (R : List D → Option D) : SM := (sSeq (sIf (dB (dUn (gInst "list") (dVar 0))) (sRet (dLc [1] (dLs (dVar 0)) (bd1 1) tYesD (dFn R (dCons (dVar 1) dNil)))) sNx)
    (sSeq (sIf (dB (dUn (gInst "tuple") (dVar 0))) (sRet (dFn gTuple (dCons (dLc [1] (dTu (dVar 0)) (bd1 1) tYesD (dFn R (dCons (dVar 1) dNil))) dNil))) sNx)
    (sRet (dVar 0))))
def M_law_copied_n : Nat → List D → Option D
  | 0 => fun _ => none
  | n + 1 => fnD 2 (m_law_copied (M_law_copied_n n))
abbrev M_law_copied : List D → Option D := M_law_copied_n 7
theorem okn_law_copied {P : Program} {w : World} {K : PySem.W.Frag} {mg : Str → Option Value} {base : Heap} {A : Ad} (T : Txt K mg A) (B : B base mg A) : ∀ n, FnOk P w K mg base CX0 (n + 1) A.f_law_copied A.fd_law_copied ["_law_thing"] (spPN K (tl A) false 1 (M_law_copied_n n))
  | 0 => ⟨fun vs H Q E ⟨G, ds, d, _, _, _, _, hg, _⟩ => (nomatch hg), fun A outer s H ar us vs Q E hr e0 hb r ⟨G, ds, d, _, _, _, _, hg, _⟩ => (nomatch hg)⟩
  | n + 1 => by
    have ih := okn_law_copied (P := P) (w := w) T B n
    exact T.F_law_copied.okD (O' := []) (N := ["_law_thing", "_law_part"]) (ps := ["_law_thing"]) (k := n + 1) (m := m_law_copied (M_law_copied_n n)) sc_law_copied fun A' outer s H E hr => by
      exact (sso_cons (so_if (O := []) (ptd_val (pd_isinst (by rfl) T.z_isinstance (by rfl) T.z_list (by decide +kernel) (by decide) (dv 0)))
      (sso_one (so_ret (O := []) (pd_lc (own := [("_law_part", 1)]) rfl sc_law_copied.nd (pid_list (dv 0)) (blkOk_by (own := [("_law_part", 1)]) (N := ["_law_thing", "_law_part"]) (by kernel_rfl)) (gd1 (i := 1) (by decide)) (fun _ _ _ _ _ => (pg_name (i := 1) sc_law_copied.nd rfl (by first | exact Or.inl rfl | exact Or.inr rfl))) (fun _ _ _ _ _ => ptsd_nil) (fun _ _ _ _ _ => (pd_call (FnOk.weak ih) (hr.mono (Nat.le_refl _)) (by rfl) T.g_law_copied T.F_law_copied.kp T.b_law_copied (pad_cons (dv 1) pad_nil) (lenS len0))))))
      sso_nil)
      (sso_cons (so_if (O := []) (ptd_val (pd_isinst (by rfl) T.z_isinstance (by rfl) T.z_tuple (by decide +kernel) (by decide) (dv 0)))
      (sso_one (so_ret (O := []) (pd_callTy dTupleC call_tuple_of (by rfl) T.z_tuple (by decide +kernel) (pad_cons (pd_lc (own := [("_law_part", 1)]) rfl sc_law_copied.nd (pid_tup (dv 0)) (blkOk_by (own := [("_law_part", 1)]) (N := ["_law_thing", "_law_part"]) (by kernel_rfl)) (gd1 (i := 1) (by decide)) (fun _ _ _ _ _ => (pg_name (i := 1) sc_law_copied.nd rfl (by first | exact Or.inl rfl | exact Or.inr rfl))) (fun _ _ _ _ _ => ptsd_nil) (fun _ _ _ _ _ => (pd_call (FnOk.weak ih) (hr.mono (Nat.le_refl _)) (by rfl) T.g_law_copied T.F_law_copied.kp T.b_law_copied (pad_cons (dv 1) pad_nil) (lenS len0)))) pad_nil))))
      sso_nil)
      (sso_one (so_ret (O := []) (dv 0)))))
theorem ok_law_copied {P : Program} {w : World} {K : PySem.W.Frag} {mg : Str → Option Value} {base : Heap} {A : Ad} (T : Txt K mg A) (B : B base mg A) : FnOk P w K mg base CX0 8 A.f_law_copied A.fd_law_copied ["_law_thing"] (spPN K (tl A) false 1 M_law_copied) := okn_law_copied T B 7
def m_law_asked : SM := (sSeq (sIf (dB (dBin (gEqv false) (dVar 0) (dC (.int 0)))) (xRet (dCons (dVar 1) dNil) M_need_loop) sNx)
    (sSeq (sIf (dB (dBin (gEqv false) (dVar 0) (dC (.int 1)))) (xRet (dCons (dVar 1) (dCons (dC .non) (dCons (dC (.int 5)) dNil))) M_after) sNx)
    (sSeq (sIf (dB (dBin (gEqv false) (dVar 0) (dC (.int 2)))) (xRet (dCons (dVar 1) (dCons (dC .non) (dCons (dUn gNeg (dC (.int 1))) dNil))) M_run) sNx)
    (sSeq (sIf (dB (dBin (gEqv false) (dVar 0) (dC (.int 3)))) (xRet (dCons (dVar 1) dNil) M_told) sNx)
    (sSeq (sIf (dB (dBin (gEqv false) (dVar 0) (dC (.int 4)))) (xRet (dCons (dVar 1) (dCons (dC .non) (dCons (dC (.int 5)) dNil))) M_is_reason) sNx)
    (sSeq (sIf (dB (dBin (gEqv false) (dVar 0) (dC (.int 5)))) (xRet (dCons (dVar 1) (dCons (dC .non) dNil)) M_are_spots) sNx)
    (sSeq (sIf (dB (dBin (gEqv false) (dVar 0) (dC (.int 6)))) (xRet (dCons (dVar 1) (dCons (dC .non) (dCons (dC (.int 5)) dNil))) M_most_turns) sNx)
    (xRet (dCons (dVar 1) dNil) M_written))))))))
abbrev M_law_asked : List D → Option Res := fnR 2 m_law_asked
theorem ok_law_asked {P : Program} {w : World} {K : PySem.W.Frag} {mg : Str → Option Value} {base : Heap} {A : Ad} (T : Txt K mg A) (B : B base mg A) : FnOk P w K mg base (L2.CX P w) 12 A.f_law_asked A.fd_law_asked ["_law_which", "_law_thing"] (spR K (tl A) false A.cls 2 M_law_asked) :=
  T.F_law_asked.okR (O' := []) (N := ["_law_which", "_law_thing"]) (ps := ["_law_which", "_law_thing"]) (k := 11) (nw := false) (m := m_law_asked) sc_law_asked fun A' outer s H E hr => by
    exact (sso_cons (so_if (O := []) (ptd_cmp dEq (op_eqX hr.units) (nomark _) (dv 0) pd_int)
      (sso_one (so_retX (O := []) (by decide) (ok_need_loop T B) (hr.mono (by decide)) (takes_of rfl rfl rfl rfl) (by rfl) T.g_need_loop T.F_need_loop.kp T.b_need_loop (pad_cons (dv 1) pad_nil) (lenS len0)))
      sso_nil)
      (sso_cons (so_if (O := []) (ptd_cmp dEq (op_eqX hr.units) (nomark _) (dv 0) pd_int)
      (sso_one (so_retX (O := []) (by decide) (ok_after T B) (hr.mono (by decide)) (takes_of rfl rfl rfl rfl) (by rfl) T.g_after T.F_after.kp T.b_after (pad_cons (dv 1) (pad_cons pd_non (pad_cons pd_int pad_nil))) (lenS (lenS (lenS len0)))))
      sso_nil)
      (sso_cons (so_if (O := []) (ptd_cmp dEq (op_eqX hr.units) (nomark _) (dv 0) pd_int)
      (sso_one (so_retX (O := []) (by decide) (ok_run T B) (hr.mono (by decide)) (takes_of rfl rfl rfl rfl) (by rfl) T.g_run T.F_run.kp T.b_run (pad_cons (dv 1) (pad_cons pd_non (pad_cons (pd_un dNeg un_neg pd_int) pad_nil))) (lenS (lenS (lenS len0)))))
      sso_nil)
      (sso_cons (so_if (O := []) (ptd_cmp dEq (op_eqX hr.units) (nomark _) (dv 0) pd_int)
      (sso_one (so_retX (O := []) (by decide) (ok_told T B) (hr.mono (by decide)) (takes_of rfl rfl rfl rfl) (by rfl) T.g_told T.F_told.kp T.b_told (pad_cons (dv 1) pad_nil) (lenS len0)))
      sso_nil)
      (sso_cons (so_if (O := []) (ptd_cmp dEq (op_eqX hr.units) (nomark _) (dv 0) pd_int)
      (sso_one (so_retX (O := []) (by decide) (ok_is_reason T B) (hr.mono (by decide)) (takes_of rfl rfl rfl rfl) (by rfl) T.g_is_reason T.F_is_reason.kp T.b_is_reason (pad_cons (dv 1) (pad_cons pd_non (pad_cons pd_int pad_nil))) (lenS (lenS (lenS len0)))))
      sso_nil)
      (sso_cons (so_if (O := []) (ptd_cmp dEq (op_eqX hr.units) (nomark _) (dv 0) pd_int)
      (sso_one (so_retX (O := []) (by decide) (ok_are_spots T B) (hr.mono (by decide)) (takes_of rfl rfl rfl rfl) (by rfl) T.g_are_spots T.F_are_spots.kp T.b_are_spots (pad_cons (dv 1) (pad_cons pd_non pad_nil)) (lenS (lenS len0))))
      sso_nil)
      (sso_cons (so_if (O := []) (ptd_cmp dEq (op_eqX hr.units) (nomark _) (dv 0) pd_int)
      (sso_one (so_retX (O := []) (by decide) (ok_most_turns T B) (hr.mono (by decide)) (takes_of rfl rfl rfl rfl) (by rfl) T.g_most_turns T.F_most_turns.kp T.b_most_turns (pad_cons (dv 1) (pad_cons pd_non (pad_cons pd_int pad_nil))) (lenS (lenS (lenS len0)))))
      sso_nil)
      (sso_one (so_retX (O := []) (by decide) (ok_written T B) (hr.mono (by decide)) (takes_of rfl rfl rfl rfl) (by rfl) T.g_written T.F_written.kp T.b_written (pad_cons (dv 1) pad_nil) (lenS len0))))))))))
def m_law_word : SM := (sSeq (sTry errs (xEx (dCons (dVar 0) (dCons (dVar 1) dNil)) M_law_asked) tellE)
    (sRet (dC (.str ""))))
abbrev M_law_word : List D → Option D := fnD 3 m_law_word
theorem ok_law_word {P : Program} {w : World} {K : PySem.W.Frag} {mg : Str → Option Value} {base : Heap} {A : Ad} (T : Txt K mg A) (B : B base mg A) : FnOk P w K mg base CX0 13 A.f_law_word A.fd_law_word ["_law_which", "_law_thing"] (spPN K (tl A) false 2 M_law_word) :=
  T.F_law_word.okD (O' := []) (N := ["_law_which", "_law_thing", "_law_error"]) (ps := ["_law_which", "_law_thing"]) (k := 12) (nw := false) (m := m_law_word) sc_law_word fun A' outer s H E hr => by
    exact (sso_cons (so_tryWord (O := []) (cls := A.cls) (names := errs) (i := 2) (ok_law_name_of T) (hr.mono (by decide)) (by rfl) T.g_law_name_of T.F_law_name_of.kp T.b_law_name_of rfl rfl sc_law_word.nd rfl rfl ⟨rfl, by decide, Or.inl T.gx_LoopError⟩ takes0 T.exm (fun W pn xe tk _ => sso_one (so_exprX (O := []) (ok_law_asked T B) (hr.mono (by decide)) tk (by rfl) T.g_law_asked T.F_law_asked.kp T.b_law_asked (pad_cons (dv 0) (pad_cons (dv 1) pad_nil)) (lenS (lenS len0)))) (fun _ _ => pv 2) (fun _ _ => by rfl))
      (sso_one (so_ret (O := []) pd_str)))
def m_law_put : SM := (sSeq (sIf (dB (dBin (gEqv false) (dVar 0) (dFn (fun ds => some (.lst ds)) dNil))) (sRet (dFn (fun ds => some (.lst ds)) (dCons (dVar 2) dNil))) sNx)
    (sRet (dBin gAdd (dBin gAdd (dSl (dVar 0) dNoP (dPart (dBin gMod (dVar 1) (dFn gLen (dCons (dVar 0) dNil))))) (dFn (fun ds => some (.lst ds)) (dCons (dVar 2) dNil))) (dSl (dVar 0) (dPart (dBin gAdd (dBin gMod (dVar 1) (dFn gLen (dCons (dVar 0) dNil))) (dC (.int 1)))) dNoP))))
abbrev M_law_put : List D → Option D := fnD 3 m_law_put
theorem ok_law_put {P : Program} {w : World} {K : PySem.W.Frag} {mg : Str → Option Value} {base : Heap} {A : Ad} (T : Txt K mg A) (B : B base mg A) : FnOk P w K mg base CX0 1 A.f_law_put A.fd_law_put ["_law_row", "_law_at", "_law_thing"] (spPN K (tl A) false 3 M_law_put) :=
  T.F_law_put.okD (O' := []) (N := ["_law_row", "_law_at", "_law_thing"]) (ps := ["_law_row", "_law_at", "_law_thing"]) (k := 0) (nw := false) (m := m_law_put) sc_law_put fun A' outer s H E hr => by
    exact (sso_cons (so_if (O := []) (ptd_cmp dEq (op_eqX hr.units) (nomark _) (dv 0) (pd_lst pad_nil (lenL len0 (by decide))))
      (sso_one (so_ret (O := []) (pd_lst (pad_cons (dv 2) pad_nil) (lenL (lenS len0) (by decide)))))
      sso_nil)
      (sso_one (so_ret (O := []) (pd_bin dAdd op_addD (pd_bin dAdd op_addD (pd_slice (dv 0) pod_none (pod_some (pd_bin dMod op_mod (dv 1) (pd_callB dLen call_lenD (by rfl) T.z_len PySem.boot_len (pad_cons (dv 0) pad_nil))))) (pd_lst (pad_cons (dv 2) pad_nil) (lenL (lenS len0) (by decide)))) (pd_slice (dv 0) (pod_some (pd_bin dAdd op_addD (pd_bin dMod op_mod (dv 1) (pd_callB dLen call_lenD (by rfl) T.z_len PySem.boot_len (pad_cons (dv 0) pad_nil))) pd_int)) pod_none)))))
def m_law_row_bent : SM := (sSeq (sSet 3 (ev false [] (dIf (dB (dBin (gEqv true) (dVar 0) (dFn (fun ds => some (.lst ds)) dNil))) (dBin gIx (dVar 0) (dBin gMod (dVar 2) (dFn gLen (dCons (dVar 0) dNil)))) (dFn (fun ds => some (.lst ds)) (dCons (dC (.int 0)) dNil)))))
    (sSeq (sSet 4 (ev false [] (dBin gIx (dFn (fun ds => some (.lst ds)) (dCons (dC (.int 1001)) (dCons (dUn gNeg (dC (.int 1001))) (dCons (dC (.bl true)) (dCons (dC .non) (dCons (dC (.str "1")) (dCons (dFn (fun ds => some (.lst ds)) (dCons (dC (.int 0)) dNil)) (dCons (dC (.bl false)) (dCons (dBin gPow (dC (.int 10)) (dC (.int 20))) (dCons (dC (.int 1000)) (dCons (dUn gNeg (dC (.int 1000))) dNil))))))))))) (dBin gMod (dBin gFdiv (dVar 1) (dC (.int 16))) (dC (.int 10))))))
    (sSeq (sSet 5 (ev false [] (dBin gIx (dFn (fun ds => some (.lst ds)) (dCons (dSl (dVar 3) (dPart (dC (.int 1))) dNoP) (dCons (dBin gAdd (dVar 3) (dFn (fun ds => some (.lst ds)) (dCons (dC (.int 0)) dNil))) (dCons (dFn gTuple (dCons (dVar 3) dNil)) (dCons (dC .non) (dCons (dC (.int 5)) (dCons (dFn (fun ds => some (.lst ds)) dNil) (dCons (dC (.str "0")) (dCons (dC .dct) (dCons (dFn (fun ds => some (.lst ds)) (dCons (dVar 3) dNil)) dNil)))))))))) (dBin gMod (dBin gFdiv (dVar 1) (dC (.int 16))) (dC (.int 9))))))
    (sSeq (sSet 6 (ev false [] (dBin gIx (dFn (fun ds => some (.lst ds)) (dCons (dFn M_law_put (dCons (dVar 3) (dCons (dBin gFdiv (dVar 2) (dC (.int 4))) (dCons (dVar 4) dNil)))) (dCons (dVar 5) dNil))) (dBin gMod (dBin gFdiv (dVar 1) (dC (.int 8))) (dC (.int 2))))))
    (sRet (dFn M_law_put (dCons (dVar 0) (dCons (dVar 2) (dCons (dVar 6) dNil)))))))))
abbrev M_law_row_bent : List D → Option D := fnD 7 m_law_row_bent
theorem ok_law_row_bent {P : Program} {w : World} {K : PySem.W.Frag} {mg : Str → Option Value} {base : Heap} {A : Ad} (T : Txt K mg A) (B : B base mg A) : FnOk P w K mg base CX0 2 A.f_law_row_bent A.fd_law_row_bent ["_law_rows", "_law_cell", "_law_at"] (spPN K (tl A) false 3 M_law_row_bent) :=
  T.F_law_row_bent.okD (O' := []) (N := ["_law_rows", "_law_cell", "_law_at", "_law_row", "_law_odd", "_law_some", "_law_thing"]) (ps := ["_law_rows", "_law_cell", "_law_at"]) (k := 1) (nw := false) (m := m_law_row_bent) sc_law_row_bent fun A' outer s H E hr => by
    exact (sso_cons (so_set (O := []) (i := 3) (vw := false) sc_law_row_bent.nd rfl (by first | exact Or.inl rfl | exact Or.inr rfl) (pd_ifExp (ptd_cmp dNe (op_neX hr.units) (nomark _) (dv 0) (pd_lst pad_nil (lenL len0 (by decide)))) (pd_ix dIx ix_D (fun _ _ => rfl) (dv 0) (pd_bin dMod op_mod (dv 2) (pd_callB dLen call_lenD (by rfl) T.z_len PySem.boot_len (pad_cons (dv 0) pad_nil)))) (pd_lst (pad_cons pd_int pad_nil) (lenL (lenS len0) (by decide)))))
      (sso_cons (so_set (O := []) (i := 4) (vw := false) sc_law_row_bent.nd rfl (by first | exact Or.inl rfl | exact Or.inr rfl) (pd_ix dIx ix_D (fun _ _ => rfl) (pd_lst (pad_cons pd_int (pad_cons (pd_un dNeg un_neg pd_int) (pad_cons pd_bl (pad_cons pd_non (pad_cons pd_str (pad_cons (pd_lst (pad_cons pd_int pad_nil) (lenL (lenS len0) (by decide))) (pad_cons pd_bl (pad_cons (pd_bin dPow op_pow pd_int pd_int) (pad_cons pd_int (pad_cons (pd_un dNeg un_neg pd_int) pad_nil)))))))))) (lenL (lenS (lenS (lenS (lenS (lenS (lenS (lenS (lenS (lenS (lenS len0)))))))))) (by decide))) (pd_bin dMod op_mod (pd_bin dFdiv op_fdivW (dv 1) pd_int) pd_int)))
      (sso_cons (so_set (O := []) (i := 5) (vw := false) sc_law_row_bent.nd rfl (by first | exact Or.inl rfl | exact Or.inr rfl) (pd_ix dIx ix_D (fun _ _ => rfl) (pd_lst (pad_cons (pd_slice (dv 3) (pod_some pd_int) pod_none) (pad_cons (pd_bin dAdd op_addD (dv 3) (pd_lst (pad_cons pd_int pad_nil) (lenL (lenS len0) (by decide)))) (pad_cons (pd_callTy dTupleC call_tuple_of (by rfl) T.z_tuple (by decide +kernel) (pad_cons (dv 3) pad_nil)) (pad_cons pd_non (pad_cons pd_int (pad_cons (pd_lst pad_nil (lenL len0 (by decide))) (pad_cons pd_str (pad_cons pd_dct (pad_cons (pd_lst (pad_cons (dv 3) pad_nil) (lenL (lenS len0) (by decide))) pad_nil))))))))) (lenL (lenS (lenS (lenS (lenS (lenS (lenS (lenS (lenS (lenS len0))))))))) (by decide))) (pd_bin dMod op_mod (pd_bin dFdiv op_fdivW (dv 1) pd_int) pd_int)))
      (sso_cons (so_set (O := []) (i := 6) (vw := false) sc_law_row_bent.nd rfl (by first | exact Or.inl rfl | exact Or.inr rfl) (pd_ix dIx ix_D (fun _ _ => rfl) (pd_lst (pad_cons (pd_call (FnOk.weak (ok_law_put T B)) (hr.mono (by decide)) (by rfl) T.g_law_put T.F_law_put.kp T.b_law_put (pad_cons (dv 3) (pad_cons (pd_bin dFdiv op_fdivW (dv 2) pd_int) (pad_cons (dv 4) pad_nil))) (lenS (lenS (lenS len0)))) (pad_cons (dv 5) pad_nil)) (lenL (lenS (lenS len0)) (by decide))) (pd_bin dMod op_mod (pd_bin dFdiv op_fdivW (dv 1) pd_int) pd_int)))
      (sso_one (so_ret (O := []) (pd_call (FnOk.weak (ok_law_put T B)) (hr.mono (by decide)) (by rfl) T.g_law_put T.F_law_put.kp T.b_law_put (pad_cons (dv 0) (pad_cons (dv 2) (pad_cons (dv 6) pad_nil))) (lenS (lenS (lenS len0))))))))))
def m_law_bent : SM := (sSeq (sAsg [] (bd2 3 4) (dVar 0))
    (sSeq (sSet 5 (ev false [] (dBin gMod (dVar 2) (dFn gLen (dCons (dVar 4) dNil)))))
    (sSeq (sAsg [] (bd2 6 7) (dBin gIx (dVar 4) (dVar 5)))
    (sSeq (sIf (dB (dBin (gI pLt) (dBin gMod (dVar 1) (dC (.int 8))) (dC (.int 2)))) (sSet 8 (ev false [] (dFn (fun ds => some (.tup ds)) (dCons (dFn M_law_row_bent (dCons (dVar 6) (dCons (dVar 1) (dCons (dBin gFdiv (dVar 2) (dC (.int 3))) dNil)))) (dCons (dVar 7) dNil))))) (sIf (dB (dBin (gI pLt) (dBin gMod (dVar 1) (dC (.int 8))) (dC (.int 4)))) (sSet 8 (ev false [] (dFn (fun ds => some (.tup ds)) (dCons (dVar 6) (dCons (dFn M_law_row_bent (dCons (dVar 7) (dCons (dVar 1) (dCons (dBin gFdiv (dVar 2) (dC (.int 3))) dNil)))) dNil))))) (sIf (dB (dBin (gEqv false) (dBin gMod (dVar 1) (dC (.int 8))) (dC (.int 4)))) (sSeq (sSet 9 (ev false [] (dBin gAdd (dVar 6) (dBin gMul (dFn (fun ds => some (.lst ds)) (dCons (dBin gMul (dFn (fun ds => some (.lst ds)) (dCons (dC (.int 0)) dNil)) (dBin gAdd (dVar 3) (dC (.int 1)))) dNil)) (dBin gSub (dC (.int 5)) (dFn gLen (dCons (dVar 6) dNil)))))))
    (sSet 8 (ev false [] (dFn (fun ds => some (.tup ds)) (dCons (dBin gIx (dFn (fun ds => some (.lst ds)) (dCons (dC .non) (dCons (dFn gTuple (dCons (dVar 6) dNil)) (dCons (dVar 9) (dCons (dC (.int 5)) (dCons (dVar 9) (dCons (dC (.str "")) (dCons (dSl (dVar 6) dNoP (dPart (dC (.int 1)))) (dCons (dVar 9) dNil))))))))) (dBin gMod (dBin gFdiv (dVar 1) (dC (.int 8))) (dC (.int 8)))) (dCons (dVar 7) dNil)))))) (sIf (dB (dBin (gEqv false) (dBin gMod (dVar 1) (dC (.int 8))) (dC (.int 5)))) (sSet 8 (ev false [] (dFn (fun ds => some (.tup ds)) (dCons (dVar 6) (dCons (dBin gIx (dFn (fun ds => some (.lst ds)) (dCons (dC .non) (dCons (dFn gTuple (dCons (dVar 7) dNil)) (dCons (dSl (dVar 7) (dPart (dC (.int 1))) dNoP) (dCons (dBin gAdd (dVar 7) (dFn (fun ds => some (.lst ds)) (dCons (dBin gIx (dVar 7) (dC (.int 0))) dNil))) (dCons (dC (.int 5)) (dCons (dFn (fun ds => some (.lst ds)) dNil) (dCons (dC .dct) dNil)))))))) (dBin gMod (dBin gFdiv (dVar 1) (dC (.int 8))) (dC (.int 7)))) dNil))))) (sIf (dB (dBin (gEqv false) (dBin gMod (dVar 1) (dC (.int 8))) (dC (.int 6)))) (sSet 8 (ev false [] (dBin gIx (dFn (fun ds => some (.lst ds)) (dCons (dFn (fun ds => some (.lst ds)) (dCons (dVar 6) (dCons (dVar 7) dNil))) (dCons (dFn (fun ds => some (.tup ds)) (dCons (dVar 6) dNil)) (dCons (dFn (fun ds => some (.tup ds)) (dCons (dVar 6) (dCons (dVar 7) (dCons (dFn (fun ds => some (.lst ds)) dNil) dNil)))) (dCons (dC .non) (dCons (dC (.str "way")) (dCons (dC (.int 5)) (dCons (dFn (fun ds => some (.tup ds)) (dCons (dVar 7) (dCons (dVar 6) dNil))) (dCons (dFn (fun ds => some (.tup ds)) dNil) dNil))))))))) (dBin gMod (dBin gFdiv (dVar 1) (dC (.int 8))) (dC (.int 8)))))) (sSeq (sSet 10 (ev false [] (dFn (fun ds => some (.lst ds)) (dCons (dFn (fun ds => some (.lst ds)) (dCons (dVar 3) (dCons (dVar 4) dNil))) (dCons (dFn (fun ds => some (.tup ds)) (dCons (dVar 3) dNil)) (dCons (dFn (fun ds => some (.tup ds)) (dCons (dVar 3) (dCons (dVar 4) (dCons (dC (.int 0)) dNil)))) (dCons (dC .non) (dCons (dFn (fun ds => some (.tup ds)) (dCons (dC (.int 0)) (dCons (dVar 4) dNil))) (dCons (dFn (fun ds => some (.tup ds)) (dCons (dC (.int 4)) (dCons (dVar 4) dNil))) (dCons (dFn (fun ds => some (.tup ds)) (dCons (dC (.bl true)) (dCons (dVar 4) dNil))) (dCons (dFn (fun ds => some (.tup ds)) (dCons (dBin gAdd (dVar 3) (dC (.int 1))) (dCons (dVar 4) dNil))) dNil)))))))))))
    (sSeq (sSet 10 (ev false [] (dBin gAdd (dVar 10) (dFn (fun ds => some (.lst ds)) (dCons (dFn (fun ds => some (.tup ds)) (dCons (dVar 3) (dCons (dFn (fun ds => some (.lst ds)) dNil) dNil))) (dCons (dFn (fun ds => some (.tup ds)) (dCons (dVar 3) (dCons (dBin gMul (dVar 4) (dC (.int 4))) dNil))) (dCons (dFn (fun ds => some (.tup ds)) (dCons (dVar 3) (dCons (dFn gTuple (dCons (dVar 4) dNil)) dNil))) (dCons (dFn (fun ds => some (.tup ds)) (dCons (dFn gStr (dCons (dVar 3) dNil)) (dCons (dVar 4) dNil))) (dCons (dFn (fun ds => some (.tup ds)) (dCons (dVar 3) (dCons (dC .non) dNil))) (dCons (dC (.str "loop")) (dCons (dC (.int 5)) dNil)))))))))))
    (sRet (dBin gIx (dVar 10) (dBin gMod (dBin gFdiv (dVar 1) (dC (.int 8))) (dC (.int 15))))))))))))
    (sRet (dFn (fun ds => some (.tup ds)) (dCons (dVar 3) (dCons (dBin gAdd (dBin gAdd (dSl (dVar 4) dNoP (dPart (dVar 5))) (dFn (fun ds => some (.lst ds)) (dCons (dVar 8) dNil))) (dSl (dVar 4) (dPart (dBin gAdd (dVar 5) (dC (.int 1)))) dNoP)) dNil))))))))
abbrev M_law_bent : List D → Option D := fnD 11 m_law_bent
theorem ok_law_bent {P : Program} {w : World} {K : PySem.W.Frag} {mg : Str → Option Value} {base : Heap} {A : Ad} (T : Txt K mg A) (B : B base mg A) : FnOk P w K mg base CX0 3 A.f_law_bent A.fd_law_bent ["_law_loop", "_law_cell", "_law_at"] (spPN K (tl A) false 3 M_law_bent) :=
  T.F_law_bent.okD (O' := []) (N := ["_law_loop", "_law_cell", "_law_at", "_law_many", "_law_ways", "_law_k", "_law_asks", "_law_gives", "_law_way", "_law_five", "_law_whole"]) (ps := ["_law_loop", "_law_cell", "_law_at"]) (k := 2) (nw := false) (m := m_law_bent) sc_law_bent fun A' outer s H E hr => by
    exact (sso_cons (so_asg (O := []) (vs := [3, 4]) (gd2 (i := 3) (j := 4) (by decide) (by decide)) (dv 0) (pg_tup rfl (pgs_cons (pg_name (i := 3) sc_law_bent.nd rfl (by first | exact Or.inl rfl | exact Or.inr rfl)) (pgs_cons (pg_name (i := 4) sc_law_bent.nd rfl (by first | exact Or.inl rfl | exact Or.inr rfl)) pgs_nil))) (by decide))
      (sso_cons (so_set (O := []) (i := 5) (vw := false) sc_law_bent.nd rfl (by first | exact Or.inl rfl | exact Or.inr rfl) (pd_bin dMod op_mod (dv 2) (pd_callB dLen call_lenD (by rfl) T.z_len PySem.boot_len (pad_cons (dv 4) pad_nil))))
      (sso_cons (so_asg (O := []) (vs := [6, 7]) (gd2 (i := 6) (j := 7) (by decide) (by decide)) (pd_ix dIx ix_D (fun _ _ => rfl) (dv 4) (dv 5)) (pg_tup rfl (pgs_cons (pg_name (i := 6) sc_law_bent.nd rfl (by first | exact Or.inl rfl | exact Or.inr rfl)) (pgs_cons (pg_name (i := 7) sc_law_bent.nd rfl (by first | exact Or.inl rfl | exact Or.inr rfl)) pgs_nil))) (by decide))
      (sso_cons (so_if (O := []) (ptd_cmp (dI (p := pLt)) op_lt (nomark _) (pd_bin dMod op_mod (dv 1) pd_int) pd_int)
      (sso_one (so_set (O := []) (i := 8) (vw := false) sc_law_bent.nd rfl (by first | exact Or.inl rfl | exact Or.inr rfl) (pd_tup (pad_cons (pd_call (FnOk.weak (ok_law_row_bent T B)) (hr.mono (by decide)) (by rfl) T.g_law_row_bent T.F_law_row_bent.kp T.b_law_row_bent (pad_cons (dv 6) (pad_cons (dv 1) (pad_cons (pd_bin dFdiv op_fdivW (dv 2) pd_int) pad_nil))) (lenS (lenS (lenS len0)))) (pad_cons (dv 7) pad_nil)) (lenL (lenS (lenS len0)) (by decide)))))
      (sso_one (so_if (O := []) (ptd_cmp (dI (p := pLt)) op_lt (nomark _) (pd_bin dMod op_mod (dv 1) pd_int) pd_int)
      (sso_one (so_set (O := []) (i := 8) (vw := false) sc_law_bent.nd rfl (by first | exact Or.inl rfl | exact Or.inr rfl) (pd_tup (pad_cons (dv 6) (pad_cons (pd_call (FnOk.weak (ok_law_row_bent T B)) (hr.mono (by decide)) (by rfl) T.g_law_row_bent T.F_law_row_bent.kp T.b_law_row_bent (pad_cons (dv 7) (pad_cons (dv 1) (pad_cons (pd_bin dFdiv op_fdivW (dv 2) pd_int) pad_nil))) (lenS (lenS (lenS len0)))) pad_nil)) (lenL (lenS (lenS len0)) (by decide)))))
      (sso_one (so_if (O := []) (ptd_cmp dEq (op_eqX hr.units) (nomark _) (pd_bin dMod op_mod (dv 1) pd_int) pd_int)
      (sso_cons (so_set (O := []) (i := 9) (vw := false) sc_law_bent.nd rfl (by first | exact Or.inl rfl | exact Or.inr rfl) (pd_bin dAdd op_addD (dv 6) (pd_bin dMul op_mulD (pd_lst (pad_cons (pd_bin dMul op_mulD (pd_lst (pad_cons pd_int pad_nil) (lenL (lenS len0) (by decide))) (pd_bin dAdd op_addD (dv 3) pd_int)) pad_nil) (lenL (lenS len0) (by decide))) (pd_bin dSub op_sub pd_int (pd_callB dLen call_lenD (by rfl) T.z_len PySem.boot_len (pad_cons (dv 6) pad_nil))))))
      (sso_one (so_set (O := []) (i := 8) (vw := false) sc_law_bent.nd rfl (by first | exact Or.inl rfl | exact Or.inr rfl) (pd_tup (pad_cons (pd_ix dIx ix_D (fun _ _ => rfl) (pd_lst (pad_cons pd_non (pad_cons (pd_callTy dTupleC call_tuple_of (by rfl) T.z_tuple (by decide +kernel) (pad_cons (dv 6) pad_nil)) (pad_cons (dv 9) (pad_cons pd_int (pad_cons (dv 9) (pad_cons pd_str (pad_cons (pd_slice (dv 6) pod_none (pod_some pd_int)) (pad_cons (dv 9) pad_nil)))))))) (lenL (lenS (lenS (lenS (lenS (lenS (lenS (lenS (lenS len0)))))))) (by decide))) (pd_bin dMod op_mod (pd_bin dFdiv op_fdivW (dv 1) pd_int) pd_int)) (pad_cons (dv 7) pad_nil)) (lenL (lenS (lenS len0)) (by decide))))))
      (sso_one (so_if (O := []) (ptd_cmp dEq (op_eqX hr.units) (nomark _) (pd_bin dMod op_mod (dv 1) pd_int) pd_int)
      (sso_one (so_set (O := []) (i := 8) (vw := false) sc_law_bent.nd rfl (by first | exact Or.inl rfl | exact Or.inr rfl) (pd_tup (pad_cons (dv 6) (pad_cons (pd_ix dIx ix_D (fun _ _ => rfl) (pd_lst (pad_cons pd_non (pad_cons (pd_callTy dTupleC call_tuple_of (by rfl) T.z_tuple (by decide +kernel) (pad_cons (dv 7) pad_nil)) (pad_cons (pd_slice (dv 7) (pod_some pd_int) pod_none) (pad_cons (pd_bin dAdd op_addD (dv 7) (pd_lst (pad_cons (pd_ix dIx ix_D (fun _ _ => rfl) (dv 7) pd_int) pad_nil) (lenL (lenS len0) (by decide)))) (pad_cons pd_int (pad_cons (pd_lst pad_nil (lenL len0 (by decide))) (pad_cons pd_dct pad_nil))))))) (lenL (lenS (lenS (lenS (lenS (lenS (lenS (lenS len0))))))) (by decide))) (pd_bin dMod op_mod (pd_bin dFdiv op_fdivW (dv 1) pd_int) pd_int)) pad_nil)) (lenL (lenS (lenS len0)) (by decide)))))
      (sso_one (so_if (O := []) (ptd_cmp dEq (op_eqX hr.units) (nomark _) (pd_bin dMod op_mod (dv 1) pd_int) pd_int)
      (sso_one (so_set (O := []) (i := 8) (vw := false) sc_law_bent.nd rfl (by first | exact Or.inl rfl | exact Or.inr rfl) (pd_ix dIx ix_D (fun _ _ => rfl) (pd_lst (pad_cons (pd_lst (pad_cons (dv 6) (pad_cons (dv 7) pad_nil)) (lenL (lenS (lenS len0)) (by decide))) (pad_cons (pd_tup (pad_cons (dv 6) pad_nil) (lenL (lenS len0) (by decide))) (pad_cons (pd_tup (pad_cons (dv 6) (pad_cons (dv 7) (pad_cons (pd_lst pad_nil (lenL len0 (by decide))) pad_nil))) (lenL (lenS (lenS (lenS len0))) (by decide))) (pad_cons pd_non (pad_cons pd_str (pad_cons pd_int (pad_cons (pd_tup (pad_cons (dv 7) (pad_cons (dv 6) pad_nil)) (lenL (lenS (lenS len0)) (by decide))) (pad_cons (pd_tup pad_nil (lenL len0 (by decide))) pad_nil)))))))) (lenL (lenS (lenS (lenS (lenS (lenS (lenS (lenS (lenS len0)))))))) (by decide))) (pd_bin dMod op_mod (pd_bin dFdiv op_fdivW (dv 1) pd_int) pd_int))))
      (sso_cons (so_set (O := []) (i := 10) (vw := false) sc_law_bent.nd rfl (by first | exact Or.inl rfl | exact Or.inr rfl) (pd_lst (pad_cons (pd_lst (pad_cons (dv 3) (pad_cons (dv 4) pad_nil)) (lenL (lenS (lenS len0)) (by decide))) (pad_cons (pd_tup (pad_cons (dv 3) pad_nil) (lenL (lenS len0) (by decide))) (pad_cons (pd_tup (pad_cons (dv 3) (pad_cons (dv 4) (pad_cons pd_int pad_nil))) (lenL (lenS (lenS (lenS len0))) (by decide))) (pad_cons pd_non (pad_cons (pd_tup (pad_cons pd_int (pad_cons (dv 4) pad_nil)) (lenL (lenS (lenS len0)) (by decide))) (pad_cons (pd_tup (pad_cons pd_int (pad_cons (dv 4) pad_nil)) (lenL (lenS (lenS len0)) (by decide))) (pad_cons (pd_tup (pad_cons pd_bl (pad_cons (dv 4) pad_nil)) (lenL (lenS (lenS len0)) (by decide))) (pad_cons (pd_tup (pad_cons (pd_bin dAdd op_addD (dv 3) pd_int) (pad_cons (dv 4) pad_nil)) (lenL (lenS (lenS len0)) (by decide))) pad_nil)))))))) (lenL (lenS (lenS (lenS (lenS (lenS (lenS (lenS (lenS len0)))))))) (by decide))))
      (sso_cons (so_set (O := []) (i := 10) (vw := false) sc_law_bent.nd rfl (by first | exact Or.inl rfl | exact Or.inr rfl) (pd_bin dAdd op_addD (dv 10) (pd_lst (pad_cons (pd_tup (pad_cons (dv 3) (pad_cons (pd_lst pad_nil (lenL len0 (by decide))) pad_nil)) (lenL (lenS (lenS len0)) (by decide))) (pad_cons (pd_tup (pad_cons (dv 3) (pad_cons (pd_bin dMul op_mulD (dv 4) pd_int) pad_nil)) (lenL (lenS (lenS len0)) (by decide))) (pad_cons (pd_tup (pad_cons (dv 3) (pad_cons (pd_callTy dTupleC call_tuple_of (by rfl) T.z_tuple (by decide +kernel) (pad_cons (dv 4) pad_nil)) pad_nil)) (lenL (lenS (lenS len0)) (by decide))) (pad_cons (pd_tup (pad_cons (pd_callTy dStrC call_str_int (by rfl) T.z_str (by decide +kernel) (pad_cons (dv 3) pad_nil)) (pad_cons (dv 4) pad_nil)) (lenL (lenS (lenS len0)) (by decide))) (pad_cons (pd_tup (pad_cons (dv 3) (pad_cons pd_non pad_nil)) (lenL (lenS (lenS len0)) (by decide))) (pad_cons pd_str (pad_cons pd_int pad_nil))))))) (lenL (lenS (lenS (lenS (lenS (lenS (lenS (lenS len0))))))) (by decide)))))
      (sso_one (so_ret (O := []) (pd_ix dIx ix_D (fun _ _ => rfl) (dv 10) (pd_bin dMod op_mod (pd_bin dFdiv op_fdivW (dv 1) pd_int) pd_int)))))))))))))))
      (sso_one (so_ret (O := []) (pd_tup (pad_cons (dv 3) (pad_cons (pd_bin dAdd op_addD (pd_bin dAdd op_addD (pd_slice (dv 4) pod_none (pod_some (dv 5))) (pd_lst (pad_cons (dv 8) pad_nil) (lenL (lenS len0) (by decide)))) (pd_slice (dv 4) (pod_some (pd_bin dAdd op_addD (dv 5) pd_int)) pod_none)) pad_nil)) (lenL (lenS (lenS len0)) (by decide)))))))))
def m_law_is_row : SM := (sSeq (sIf (tOrD (tNotD (dB (dUn (gInst "list") (dVar 0)))) (dB (dBin (gEqv true) (dFn gLen (dCons (dVar 0) dNil)) (dBin gAdd (dVar 1) (dC (.int 1)))))) (sRet (dC (.bl false))) sNx)
    (sSeq (sFor [] (dLs (dVar 0)) (bd1 2) (sIf (tOrD (tNotD (dB (dUn (gInst "int") (dVar 2)))) (tOrD (dB (dUn (gInst "bool") (dVar 2))) (tNotD (dB (dChain (gI pLe) (gI pLe) (dUn gNeg (dC (.int 1000))) (dVar 2) (dC (.int 1000))))))) (sRet (dC (.bl false))) sNx))
    (sRet (dC (.bl true)))))
abbrev M_law_is_row : List D → Option D := fnD 3 m_law_is_row
theorem ok_law_is_row {P : Program} {w : World} {K : PySem.W.Frag} {mg : Str → Option Value} {base : Heap} {A : Ad} (T : Txt K mg A) (B : B base mg A) : FnOk P w K mg base CX0 1 A.f_law_is_row A.fd_law_is_row ["_law_thing", "_law_many"] (spPN K (tl A) false 2 M_law_is_row) :=
  T.F_law_is_row.okD (O' := []) (N := ["_law_thing", "_law_many", "_law_one"]) (ps := ["_law_thing", "_law_many"]) (k := 0) (nw := false) (m := m_law_is_row) sc_law_is_row fun A' outer s H E hr => by
    exact (sso_cons (so_if (O := []) (ptd_w (pwd_or (ptd_not (ptd_val (pd_isinst (by rfl) T.z_isinstance (by rfl) T.z_list (by decide +kernel) (by decide) (dv 0)))) (pwd_or1 (ptd_cmp dNe (op_neX hr.units) (nomark _) (pd_callB dLen call_lenD (by rfl) T.z_len PySem.boot_len (pad_cons (dv 0) pad_nil)) (pd_bin dAdd op_addD (dv 1) pd_int)))))
      (sso_one (so_ret (O := []) pd_bl))
      sso_nil)
      (sso_cons (so_for (O := []) (vs := [2]) (gd1 (i := 2) (by decide)) PassesOwn.never rfl (pid_list (dv 0)) (pg_name (i := 2) sc_law_is_row.nd rfl (by first | exact Or.inl rfl | exact Or.inr rfl))
      (sso_one (so_if (O := []) (ptd_w (pwd_or (ptd_not (ptd_val (pd_isinst (by rfl) T.z_isinstance (by rfl) T.z_int (by decide +kernel) (by decide) (dv 2)))) (pwd_or (ptd_val (pd_isinst (by rfl) T.z_isinstance (by rfl) T.z_bool (by decide +kernel) (by decide) (dv 2))) (pwd_or1 (ptd_not (ptd_chain (dI (p := pLe)) (dI (p := pLe)) op_le op_le (pd_un dNeg un_neg pd_int) (dv 2) pd_int))))))
      (sso_one (so_ret (O := []) pd_bl))
      sso_nil)) (by decide))
      (sso_one (so_ret (O := []) pd_bl))))
def m_law_is_loop : SM := (sSeq (sIf (tOrD (tNotD (dB (dUn (gInst "tuple") (dVar 0)))) (tOrD (dB (dBin (gEqv true) (dFn gLen (dCons (dVar 0) dNil)) (dC (.int 2)))) (tNotD (dB (dUn (gInst "list") (dBin gIx (dVar 0) (dC (.int 1)))))))) (sRet (dC (.bl false))) sNx)
    (sSeq (sAsg [] (bd2 1 2) (dVar 0))
    (sSeq (sIf (tOrD (tNotD (dB (dUn (gInst "int") (dVar 1)))) (tOrD (dB (dUn (gInst "bool") (dVar 1))) (tOrD (tNotD (dB (dChain (gI pLe) (gI pLe) (dC (.int 1)) (dVar 1) (dC (.int 3))))) (tNotD (dB (dChain (gI pLe) (gI pLe) (dC (.int 1)) (dFn gLen (dCons (dVar 2) dNil)) (dC (.int 3)))))))) (sRet (dC (.bl false))) sNx)
    (sSeq (sFor [] (dLs (dVar 2)) (bd1 3) (sSeq (sIf (tOrD (tNotD (dB (dUn (gInst "tuple") (dVar 3)))) (tOrD (dB (dBin (gEqv true) (dFn gLen (dCons (dVar 3) dNil)) (dC (.int 2)))) (tOrD (tNotD (dB (dUn (gInst "list") (dBin gIx (dVar 3) (dC (.int 0)))))) (tNotD (dB (dUn (gInst "list") (dBin gIx (dVar 3) (dC (.int 1))))))))) (sRet (dC (.bl false))) sNx)
    (sIf (tOrD (dB (dBin (gI pGt) (dFn gLen (dCons (dBin gIx (dVar 3) (dC (.int 0))) dNil)) (dC (.int 4)))) (tOrD (dB (dBin (gEqv true) (dFn gLen (dCons (dBin gIx (dVar 3) (dC (.int 1))) dNil)) (dVar 1))) (tNotD (dB (dFn gAllL (dCons (dLc [4] (dLs (dBin gAdd (dBin gIx (dVar 3) (dC (.int 0))) (dBin gIx (dVar 3) (dC (.int 1))))) (bd1 4) tYesD (dFn M_law_is_row (dCons (dVar 4) (dCons (dVar 1) dNil)))) dNil)))))) (sRet (dC (.bl false))) sNx)))
    (sRet (dC (.bl true)))))))
abbrev M_law_is_loop : List D → Option D := fnD 5 m_law_is_loop
theorem ok_law_is_loop {P : Program} {w : World} {K : PySem.W.Frag} {mg : Str → Option Value} {base : Heap} {A : Ad} (T : Txt K mg A) (B : B base mg A) : FnOk P w K mg base CX0 2 A.f_law_is_loop A.fd_law_is_loop ["_law_thing"] (spPN K (tl A) false 1 M_law_is_loop) :=
  T.F_law_is_loop.okD (O' := []) (N := ["_law_thing", "_law_many", "_law_ways", "_law_way", "_law_row"]) (ps := ["_law_thing"]) (k := 1) (nw := false) (m := m_law_is_loop) sc_law_is_loop fun A' outer s H E hr => by
    exact (sso_cons (so_if (O := []) (ptd_w (pwd_or (ptd_not (ptd_val (pd_isinst (by rfl) T.z_isinstance (by rfl) T.z_tuple (by decide +kernel) (by decide) (dv 0)))) (pwd_or (ptd_cmp dNe (op_neX hr.units) (nomark _) (pd_callB dLen call_lenD (by rfl) T.z_len PySem.boot_len (pad_cons (dv 0) pad_nil)) pd_int) (pwd_or1 (ptd_not (ptd_val (pd_isinst (by rfl) T.z_isinstance (by rfl) T.z_list (by decide +kernel) (by decide) (pd_ix dIx ix_D (fun _ _ => rfl) (dv 0) pd_int))))))))
      (sso_one (so_ret (O := []) pd_bl))
      sso_nil)
      (sso_cons (so_asg (O := []) (vs := [1, 2]) (gd2 (i := 1) (j := 2) (by decide) (by decide)) (dv 0) (pg_tup rfl (pgs_cons (pg_name (i := 1) sc_law_is_loop.nd rfl (by first | exact Or.inl rfl | exact Or.inr rfl)) (pgs_cons (pg_name (i := 2) sc_law_is_loop.nd rfl (by first | exact Or.inl rfl | exact Or.inr rfl)) pgs_nil))) (by decide))
      (sso_cons (so_if (O := []) (ptd_w (pwd_or (ptd_not (ptd_val (pd_isinst (by rfl) T.z_isinstance (by rfl) T.z_int (by decide +kernel) (by decide) (dv 1)))) (pwd_or (ptd_val (pd_isinst (by rfl) T.z_isinstance (by rfl) T.z_bool (by decide +kernel) (by decide) (dv 1))) (pwd_or (ptd_not (ptd_chain (dI (p := pLe)) (dI (p := pLe)) op_le op_le pd_int (dv 1) pd_int)) (pwd_or1 (ptd_not (ptd_chain (dI (p := pLe)) (dI (p := pLe)) op_le op_le pd_int (pd_callB dLen call_lenD (by rfl) T.z_len PySem.boot_len (pad_cons (dv 2) pad_nil)) pd_int)))))))
      (sso_one (so_ret (O := []) pd_bl))
      sso_nil)
      (sso_cons (so_for (O := []) (vs := [3]) (gd1 (i := 3) (by decide)) PassesOwn.never rfl (pid_list (dv 2)) (pg_name (i := 3) sc_law_is_loop.nd rfl (by first | exact Or.inl rfl | exact Or.inr rfl))
      (sso_cons (so_if (O := []) (ptd_w (pwd_or (ptd_not (ptd_val (pd_isinst (by rfl) T.z_isinstance (by rfl) T.z_tuple (by decide +kernel) (by decide) (dv 3)))) (pwd_or (ptd_cmp dNe (op_neX hr.units) (nomark _) (pd_callB dLen call_lenD (by rfl) T.z_len PySem.boot_len (pad_cons (dv 3) pad_nil)) pd_int) (pwd_or (ptd_not (ptd_val (pd_isinst (by rfl) T.z_isinstance (by rfl) T.z_list (by decide +kernel) (by decide) (pd_ix dIx ix_D (fun _ _ => rfl) (dv 3) pd_int)))) (pwd_or1 (ptd_not (ptd_val (pd_isinst (by rfl) T.z_isinstance (by rfl) T.z_list (by decide +kernel) (by decide) (pd_ix dIx ix_D (fun _ _ => rfl) (dv 3) pd_int)))))))))
      (sso_one (so_ret (O := []) pd_bl))
      sso_nil)
      (sso_one (so_if (O := []) (ptd_w (pwd_or (ptd_cmp (dI (p := pGt)) op_gt (nomark _) (pd_callB dLen call_lenD (by rfl) T.z_len PySem.boot_len (pad_cons (pd_ix dIx ix_D (fun _ _ => rfl) (dv 3) pd_int) pad_nil)) pd_int) (pwd_or (ptd_cmp dNe (op_neX hr.units) (nomark _) (pd_callB dLen call_lenD (by rfl) T.z_len PySem.boot_len (pad_cons (pd_ix dIx ix_D (fun _ _ => rfl) (dv 3) pd_int) pad_nil)) (dv 1)) (pwd_or1 (ptd_not (ptd_val (pd_callB dAllL (cr_all rfl) (by rfl) T.z_all (by decide +kernel) (pad_cons (pd_lc (own := [("_law_row", 4)]) rfl sc_law_is_loop.nd (pid_list (pd_bin dAdd op_addD (pd_ix dIx ix_D (fun _ _ => rfl) (dv 3) pd_int) (pd_ix dIx ix_D (fun _ _ => rfl) (dv 3) pd_int))) (blkOk_by (own := [("_law_row", 4)]) (N := ["_law_thing", "_law_many", "_law_ways", "_law_way", "_law_row"]) (by kernel_rfl)) (gd1 (i := 4) (by decide)) (fun _ _ _ _ _ => (pg_name (i := 4) sc_law_is_loop.nd rfl (by first | exact Or.inl rfl | exact Or.inr rfl))) (fun _ _ _ _ _ => ptsd_nil) (fun _ _ _ _ _ => (pd_call (FnOk.weak (ok_law_is_row T B)) (hr.mono (by decide)) (by rfl) T.g_law_is_row T.F_law_is_row.kp T.b_law_is_row (pad_cons (dv 4) (pad_cons (dv 1) pad_nil)) (lenS (lenS len0))))) pad_nil))))))))
      (sso_one (so_ret (O := []) pd_bl))
      sso_nil))) (by decide))
      (sso_one (so_ret (O := []) pd_bl))))))
def m_law : SM := (sSeq (sSet 1 (ev false [] (dFn M_law_loop_by (dCons (dVar 0) (dCons (dC (.int 3)) dNil)))))
    (sSeq (sSet 2 (ev false [] (dFn M_law_cell_at (dCons (dVar 0) (dCons (dC (.int 0)) dNil)))))
    (sSeq (sSet 3 (ev false [] (dVar 1)))
    (sSeq (sIf (dB (dBin (gI pGt) (dBin gMod (dVar 2) (dC (.int 6))) (dC (.int 0)))) (sSet 3 (ev false [] (dFn M_law_bent (dCons (dVar 1) (dCons (dBin gFdiv (dVar 2) (dC (.int 6))) (dCons (dFn M_law_cell_at (dCons (dVar 0) (dCons (dC (.int 1)) dNil))) dNil)))))) sNx)
    (sSeq (sSet 4 (ev false [] (dFn M_law_copied (dCons (dVar 3) dNil))))
    (sSeq (sSet 5 (ev false [] (dFn M_law_is_loop (dCons (dVar 3) dNil))))
    (sSeq (sIf (tOrD (dB (dBin (gEqv true) (dFn M_law_word (dCons (dC (.int 0)) (dCons (dVar 3) dNil))) (dBin gIx (dFn (fun ds => some (.lst ds)) (dCons (dC (.str "loop ")) (dCons (dC (.str "")) dNil))) (dFn gInt (dCons (dVar 5) dNil))))) (dB (dBin (gEqv true) (dVar 3) (dVar 4)))) (sRet (dC (.bl false))) sNx)
    (sSeq (sIf (dTr (dVar 5)) (sRet (dAnd (dBin (gIsN false) (dFn (okOf M_need_loop) (dCons (dVar 3) dNil)) (dC .non)) (dAnd (dBin (gEqv false) (dFn M_law_word (dCons (dC (.int 7)) (dCons (dVar 3) dNil))) (dC (.str ""))) (dBin (gEqv false) (dVar 3) (dVar 4))))) sNx)
    (sRet (dAnd (dBin (gEqv false) (dFn M_law_word (dCons (dBin gAdd (dC (.int 1)) (dBin gMod (dFn M_law_cell_at (dCons (dVar 0) (dCons (dC (.int 2)) dNil))) (dC (.int 7)))) (dCons (dVar 3) dNil))) (dC (.str "loop "))) (dBin (gEqv false) (dVar 3) (dVar 4))))))))))))
abbrev M_law : List D → Option D := fnD 6 m_law
theorem ok_law {P : Program} {w : World} {K : PySem.W.Frag} {mg : Str → Option Value} {base : Heap} {A : Ad} (T : Txt K mg A) (B : B base mg A) : FnOk P w K mg base CX0 14 A.f_law A.fd_law ["_law_script"] (spPN K (tl A) false 1 M_law) :=
  T.F_law.okD (O' := []) (N := ["_law_script", "_law_loop", "_law_cell", "_law_thing", "_law_kept", "_law_good"]) (ps := ["_law_script"]) (k := 13) (nw := false) (m := m_law) sc_law fun A' outer s H E hr => by
    exact (sso_cons (so_set (O := []) (i := 1) (vw := false) sc_law.nd rfl (by first | exact Or.inl rfl | exact Or.inr rfl) (pd_call (FnOk.weak (ok_law_loop_by T B)) (hr.mono (by decide)) (by rfl) T.g_law_loop_by T.F_law_loop_by.kp T.b_law_loop_by (pad_cons (dv 0) (pad_cons pd_int pad_nil)) (lenS (lenS len0))))
      (sso_cons (so_set (O := []) (i := 2) (vw := false) sc_law.nd rfl (by first | exact Or.inl rfl | exact Or.inr rfl) (pd_call (FnOk.weak (ok_law_cell_at T B)) (hr.mono (by decide)) (by rfl) T.g_law_cell_at T.F_law_cell_at.kp T.b_law_cell_at (pad_cons (dv 0) (pad_cons pd_int pad_nil)) (lenS (lenS len0))))
      (sso_cons (so_set (O := []) (i := 3) (vw := false) sc_law.nd rfl (by first | exact Or.inl rfl | exact Or.inr rfl) (dv 1))
      (sso_cons (so_if (O := []) (ptd_cmp (dI (p := pGt)) op_gt (nomark _) (pd_bin dMod op_mod (dv 2) pd_int) pd_int)
      (sso_one (so_set (O := []) (i := 3) (vw := false) sc_law.nd rfl (by first | exact Or.inl rfl | exact Or.inr rfl) (pd_call (FnOk.weak (ok_law_bent T B)) (hr.mono (by decide)) (by rfl) T.g_law_bent T.F_law_bent.kp T.b_law_bent (pad_cons (dv 1) (pad_cons (pd_bin dFdiv op_fdivW (dv 2) pd_int) (pad_cons (pd_call (FnOk.weak (ok_law_cell_at T B)) (hr.mono (by decide)) (by rfl) T.g_law_cell_at T.F_law_cell_at.kp T.b_law_cell_at (pad_cons (dv 0) (pad_cons pd_int pad_nil)) (lenS (lenS len0))) pad_nil))) (lenS (lenS (lenS len0))))))
      sso_nil)
      (sso_cons (so_set (O := []) (i := 4) (vw := false) sc_law.nd rfl (by first | exact Or.inl rfl | exact Or.inr rfl) (pd_call (FnOk.weak (ok_law_copied T B)) (hr.mono (by decide)) (by rfl) T.g_law_copied T.F_law_copied.kp T.b_law_copied (pad_cons (dv 3) pad_nil) (lenS len0)))
      (sso_cons (so_set (O := []) (i := 5) (vw := false) sc_law.nd rfl (by first | exact Or.inl rfl | exact Or.inr rfl) (pd_call (FnOk.weak (ok_law_is_loop T B)) (hr.mono (by decide)) (by rfl) T.g_law_is_loop T.F_law_is_loop.kp T.b_law_is_loop (pad_cons (dv 3) pad_nil) (lenS len0)))
      (sso_cons (so_if (O := []) (ptd_w (pwd_or (ptd_cmp dNe (op_neX hr.units) (nomark _) (pd_call (FnOk.weak (ok_law_word T B)) (hr.mono (by decide)) (by rfl) T.g_law_word T.F_law_word.kp T.b_law_word (pad_cons pd_int (pad_cons (dv 3) pad_nil)) (lenS (lenS len0))) (pd_ix dIx ix_D (fun _ _ => rfl) (pd_lst (pad_cons pd_str (pad_cons pd_str pad_nil)) (lenL (lenS (lenS len0)) (by decide))) (pd_callTy dIntC call_int1 (by rfl) T.z_int (by decide +kernel) (pad_cons (dv 5) pad_nil)))) (pwd_or1 (ptd_cmp dNe (op_neX hr.units) (nomark _) (dv 3) (dv 4)))))
      (sso_one (so_ret (O := []) pd_bl))
      sso_nil)
      (sso_cons (so_if (O := []) (ptd_tr (dv 5))
      (sso_one (so_ret (O := []) (pd_and (pd_cmp dIsN op_isN (nomark _) (pd_call (FnOk.weak (FnOk.calm (ok_need_loop T B))) (hr.mono (by decide)) (by rfl) T.g_need_loop T.F_need_loop.kp T.b_need_loop (pad_cons (dv 3) pad_nil) (lenS len0)) pd_non) (pd_and (pd_cmp dEq (op_eqX hr.units) (nomark _) (pd_call (FnOk.weak (ok_law_word T B)) (hr.mono (by decide)) (by rfl) T.g_law_word T.F_law_word.kp T.b_law_word (pad_cons pd_int (pad_cons (dv 3) pad_nil)) (lenS (lenS len0))) pd_str) (pd_one (pd_cmp dEq (op_eqX hr.units) (nomark _) (dv 3) (dv 4)))))))
      sso_nil)
      (sso_one (so_ret (O := []) (pd_and (pd_cmp dEq (op_eqX hr.units) (nomark _) (pd_call (FnOk.weak (ok_law_word T B)) (hr.mono (by decide)) (by rfl) T.g_law_word T.F_law_word.kp T.b_law_word (pad_cons (pd_bin dAdd op_addD pd_int (pd_bin dMod op_mod (pd_call (FnOk.weak (ok_law_cell_at T B)) (hr.mono (by decide)) (by rfl) T.g_law_cell_at T.F_law_cell_at.kp T.b_law_cell_at (pad_cons (dv 0) (pad_cons pd_int pad_nil)) (lenS (lenS len0))) pd_int)) (pad_cons (dv 3) pad_nil)) (lenS (lenS len0))) pd_str) (pd_one (pd_cmp dEq (op_eqX hr.units) (nomark _) (dv 3) (dv 4))))))))))))))
end K01

set_option Elab.async false
set_option linter.all false
set_option maxRecDepth 100000
set_option maxHeartbeats 400000
/-! What the mirrors come to, step by step. -/
namespace DN
open PySem PySem.Spec PyProof.Rows L2
section
variable {ρ ρ1 ρ2 : Env} {m a b c : DM} {d e f x y z : D} {s t : SM} {o : Out} {k l : Bool} {i j : Nat} {g : D → D → Option D}
theorem e_seq (h : s ρ = some (.nx ρ1)) (h2 : t ρ1 = some o) : sSeq s t ρ = some o := by unfold sSeq; rw [h]; exact h2
theorem e_seqR (h : s ρ = some (.rt d)) : sSeq s t ρ = some (.rt d) := by unfold sSeq; rw [h]; rfl
theorem e_seqX {n : Str} (h : s ρ = some (.ex n)) : sSeq s t ρ = some (.ex n) := by unfold sSeq; rw [h]; rfl
theorem e_set (h : m ρ = some d) : sSet i (ev false [] m) ρ = some (.nx (ρ.set i (some d))) := by unfold sSet ev; simp only [Bool.false_eq_true, if_false]; rw [show wipeD ρ [] = ρ from rfl, h]; rfl
theorem e_new (h : m ρ = some d) (hf : Flat d = true) : sNew i m ρ = some (.nx (ρ.set i (some d))) := by unfold sNew; rw [h]; simp [hf]
theorem e_ret (h : m ρ = some d) : sRet m ρ = some (.rt d) := by unfold sRet; rw [h]; rfl
theorem e_if {c : Env → Option Bool} (h : c ρ = some k) (h2 : (if k = true then s ρ else t ρ) = some o) : sIf c s t ρ = some o := by unfold sIf; rw [h]; exact h2
theorem e_ifT {c : Env → Option Bool} (h : c ρ = some true) (h2 : s ρ = some o) : sIf c s t ρ = some o := e_if h h2
theorem e_ifF {c : Env → Option Bool} (h : c ρ = some false) (h2 : t ρ = some o) : sIf c s t ρ = some o := e_if h h2
theorem e_asg {bd : D → Env → Option Env} (h : m ρ = some d) (h2 : bd d ρ = some ρ1) : sAsg [] bd m ρ = some (.nx ρ1) := by unfold sAsg; rw [show wipeD ρ [] = ρ from rfl, h]; simp [h2, mrg]
theorem e_bin (h : a ρ = some x) (h2 : b ρ = some y) (h3 : g x y = some z) : dBin g a b ρ = some z := by unfold dBin; rw [h, h2]; exact h3
theorem e_un {u : D → Option D} (h : a ρ = some x) (h2 : u x = some z) : dUn u a ρ = some z := by unfold dUn; rw [h]; exact h2
theorem e_fn {u : List D → Option D} {as : Env → Option (List D)} {ds : List D} (h : as ρ = some ds) (h2 : u ds = some z) : dFn u as ρ = some z := by unfold dFn; rw [h]; exact h2
theorem e_nil : dNil ρ = some [] := rfl
theorem e_cons {as : Env → Option (List D)} {ds : List D} (h : a ρ = some x) (h2 : as ρ = some ds) : dCons a as ρ = some (x :: ds) := by unfold dCons; rw [h, h2]; rfl
theorem e_c : dC d ρ = some d := rfl
theorem e_b (h : m ρ = some (.bl k)) : dB m ρ = some k := by unfold dB; rw [h]; rfl
theorem e_notT {c : Env → Option Bool} (h : c ρ = some k) : tNotD c ρ = some (!k) := by unfold tNotD; rw [h]; rfl
theorem e_not (h : m ρ = some (.bl k)) : dNot m ρ = some (.bl (!k)) := by unfold dNot; rw [e_b h]; rfl
theorem e_and (h : a ρ = some (.bl k)) (h2 : k = true → b ρ = some (.bl l)) : dAnd a b ρ = some (.bl (k && l)) := by
  unfold dAnd; rw [e_b h]
  cases k with
  | true => simp only [Option.bind_some, if_true]; rw [e_b (h2 rfl)]; rfl
  | false => rfl
theorem e_or (h : a ρ = some (.bl k)) (h2 : k = false → b ρ = some (.bl l)) : dOr a b ρ = some (.bl (k || l)) := by
  unfold dOr; rw [e_b h]
  cases k with
  | false => simp only [Option.bind_some, Bool.false_eq_true, if_false]; rw [e_b (h2 rfl)]; rfl
  | true => rfl
theorem e_andT {c c' : Env → Option Bool} (h : c ρ = some k) (h2 : k = true → c' ρ = some l) : tAndD c c' ρ = some (k && l) := by
  unfold tAndD; rw [h]
  cases k with
  | true => exact h2 rfl
  | false => rfl
theorem e_orT {c c' : Env → Option Bool} (h : c ρ = some k) (h2 : k = false → c' ρ = some l) : tOrD c c' ρ = some (k || l) := by
  unfold tOrD; rw [h]
  cases k with
  | false => exact h2 rfl
  | true => rfl
theorem e_chain {g' : D → D → Option D} {r : Bool} (h : a ρ = some x) (h2 : b ρ = some y) (h3 : g x y = some (.bl k)) (h4 : k = true → c ρ = some z) (h5 : k = true → g' y z = some (.bl r)) : dChain g g' a b c ρ = some (.bl (k && r)) := by
  unfold dChain; rw [h, h2]
  simp only [Option.bind_some, h3, toB]
  cases k with
  | true => rw [if_pos rfl, h4 rfl]; exact h5 rfl
  | false => rfl
theorem e_ls {ds : List D} (h : m ρ = some (.lst ds)) : dLs m ρ = some ds := by unfold dLs; rw [h]; rfl
theorem e_tu {ds : List D} (h : m ρ = some (.tup ds)) : dTu m ρ = some ds := by unfold dTu; rw [h]; rfl
theorem e_scr {ns : List Int} (h : m ρ = some (.scr ns)) : dLs m ρ = some (ns.map .int) := by unfold dLs; rw [h]; rfl
def rng (n : Nat) : List D := (List.range n).map fun k => .int (k : Nat)
theorem rng_eq (n : Nat) : rangeD 0 n = rng n := by
  unfold rangeD rng
  simp
theorem rng_bnd (n : Nat) (hn : n ≤ 1000000) : (-(2 ^ 62 : Int) ≤ (n : Int) ∧ (n : Int) < 2 ^ 62) := by omega
theorem e_rngJ {j : Int} (h : m ρ = some (.int j)) (hb : -(2 ^ 62 : Int) ≤ j ∧ j < 2 ^ 62) : dRng1 m ρ = some (rangeD 0 j) := by
  unfold dRng1
  rw [h]
  simp only [Option.bind_some]
  exact if_pos hb
theorem e_rng {n : Nat} (h : m ρ = some (.int (n : Nat))) (hn : n ≤ 1000000) : dRng1 m ρ = some (rng n) := (e_rngJ h (rng_bnd n hn)).trans (congrArg some (rng_eq n))
/-! comprehensions -/
theorem lcGo_map {α : Type} {i : Nat} {f : α → D} {emb : α → D} : ∀ {l : List α}, (∀ x ∈ l, m (ρ.set i (some (emb x))) = some (f x)) → lcGo (bd1 i) tYesD m ρ (l.map emb) = some (l.map f)
  | [], _ => rfl
  | x :: l, h => by
    rw [List.map_cons, lcGo]
    have h1 := h x List.mem_cons_self
    have h2 := lcGo_map (l := l) fun y hy => h y (List.mem_cons_of_mem _ hy)
    simp only [bd1, tYesD, Option.bind_some, if_true, h1, h2, List.map_cons]
theorem e_lc {α : Type} {f : α → D} {emb : α → D} {l : List α} {mi : Env → Option (List D)} (h : mi ρ = some (l.map emb)) (hl : l.length < 1000000) (hm : ∀ x ∈ l, m ((ρ.set i none).set i (some (emb x))) = some (f x)) : dLc [i] mi (bd1 i) tYesD m ρ = some (.lst (l.map f)) := by
  unfold dLc; rw [h]
  simp only [Option.bind_some]
  rw [show wipeD ρ [i] = ρ.set i none from rfl, lcGo_map hm]
  simp [hl]
theorem lcGo_all {i : Nat} {tt : Env → Option Bool} : ∀ {ds : List D}, (∀ x ∈ ds, tt (ρ.set i (some x)) = some true ∧ m (ρ.set i (some x)) = some x) → lcGo (bd1 i) tt m ρ ds = some ds
  | [], _ => rfl
  | x :: l, h => by
    rw [lcGo]
    have h1 := h x List.mem_cons_self
    have h2 := lcGo_all (ds := l) fun y hy => h y (List.mem_cons_of_mem _ hy)
    simp only [bd1, Option.bind_some, h1.1, if_true, h1.2, h2]
theorem e_lcAll {tt : Env → Option Bool} {ds : List D} {mi : Env → Option (List D)} (h : mi ρ = some ds) (hl : ds.length < 1000000) (hm : ∀ x ∈ ds, tt ((ρ.set i none).set i (some x)) = some true ∧ m ((ρ.set i none).set i (some x)) = some x) : dLc [i] mi (bd1 i) tt m ρ = some (.lst ds) := by
  unfold dLc; rw [h]
  simp only [Option.bind_some]
  rw [show wipeD ρ [i] = ρ.set i none from rfl, lcGo_all hm]
  simp [hl]
/-! all, sum -/
theorem anyGo_all {α : Type} {i : Nat} {p : α → Bool} {emb : α → D} : ∀ {l : List α}, (∀ x ∈ l, m (ρ.set i (some (emb x))) = some (.bl (p x))) → anyGo true (bd1 i) tYesD m ρ (l.map emb) = some (.bl (l.all p))
  | [], _ => rfl
  | x :: l, h => by
    rw [List.map_cons, anyGo]
    have h1 := e_b (h x List.mem_cons_self)
    have h2 := anyGo_all (l := l) fun y hy => h y (List.mem_cons_of_mem _ hy)
    simp only [bd1, tYesD, Option.bind_some, if_true, h1, h2, List.all_cons]
    cases p x <;> simp
theorem e_all {α : Type} {n : Nat} {is : List Nat} {p : α → Bool} {emb : α → D} {l : List α} {mi : Env → Option (List D)} (h : mi ρ = some (l.map emb)) (hm : ∀ x ∈ l, m ((captD ρ n is).set i (some (emb x))) = some (.bl (p x))) : dQ true n is mi (bd1 i) tYesD m ρ = some (.bl (l.all p)) := by
  unfold dQ; rw [h]; exact anyGo_all hm
/-! loops -/
theorem e_for {mi : Env → Option (List D)} {bd : D → Env → Option Env} {ds : List D} (h : mi ρ = some ds) (h2 : forGo [] bd s ds ρ = some o) : sFor [] mi bd s ρ = some o := by
  unfold sFor; rw [show wipeD ρ [] = ρ from rfl, h]; exact h2
theorem for_cons {bd : D → Env → Option Env} {ds : List D} (h : bd d ρ = some ρ1) (h2 : s ρ1 = some (.nx ρ2)) (h3 : forGo [] bd s ds ρ2 = some o) : forGo [] bd s (d :: ds) ρ = some o := by
  rw [forGo, show wipeD ρ [] = ρ from rfl, h]
  simp only [Option.bind_some, mrg, h2]
  exact h3
theorem for_rt {bd : D → Env → Option Env} {ds : List D} (h : bd d ρ = some ρ1) (h2 : s ρ1 = some (.rt e)) : forGo [] bd s (d :: ds) ρ = some (.rt e) := by
  rw [forGo, show wipeD ρ [] = ρ from rfl, h]
  simp only [Option.bind_some, mrg, h2]
/-- by an invariant -/
theorem for_inv {bd : D → Env → Option Env} {P : Env → Prop} : ∀ {ds : List D} {ρ : Env}, P ρ → (∀ d ∈ ds, ∀ ρ, P ρ → ∃ ρ1 ρ2, bd d ρ = some ρ1 ∧ s ρ1 = some (.nx ρ2) ∧ P ρ2) → ∃ ρ', forGo [] bd s ds ρ = some (.nx ρ') ∧ P ρ'
  | [], ρ, h, _ => ⟨ρ, rfl, h⟩
  | d :: ds, ρ, h, hb => by
    obtain ⟨ρ1, ρ2, h1, h2, h3⟩ := hb d List.mem_cons_self ρ h
    obtain ⟨ρ', h4, h5⟩ := for_inv h3 fun e he => hb e (List.mem_cons_of_mem _ he)
    exact ⟨ρ', for_cons h1 h2 h4, h5⟩
end
/-! operators -/
theorem o_add {a b : Int} : gAdd (.int a) (.int b) = some (.int (a + b)) := rfl
theorem o_cat {a b : List D} (h : a.length + b.length ≤ 1000000) : gAdd (.lst a) (.lst b) = some (.lst (a ++ b)) := if_pos h
theorem o_sub {a b : Int} : gSub (.int a) (.int b) = some (.int (a - b)) := rfl
theorem o_mulR {a b : Int} (h : b.natAbs < 18446744073709551616) : gMul (.int a) (.int b) = some (.int (a * b)) := by
  unfold gMul mulOk; simp [h]
theorem o_mulL {a b : Int} (h : a.natAbs < 18446744073709551616) : gMul (.int a) (.int b) = some (.int (a * b)) := by
  unfold gMul mulOk; simp [h]
theorem o_rep {ds : List D} {n : Nat} (h : n < 1000) (h2 : ds.length * n ≤ 1000000) : gMul (.lst ds) (.int (n : Nat)) = some (.lst (List.replicate n ds).flatten) := by
  show (if _ then _ else _) = _
  rw [if_pos ⟨by omega, by omega, by simpa using h2⟩]
  simp
theorem o_div {a b : Int} (h : 0 < b) (h2 : b.natAbs.log2 < 9000) : gFdiv (.int a) (.int b) = some (.int (a / b)) := if_pos ⟨h, h2⟩
theorem o_mod {a b : Int} (h : 0 < b) : gMod (.int a) (.int b) = some (.int (a % b)) := if_pos h
theorem o_eqI {a b : Int} : gEqv false (.int a) (.int b) = some (.bl (a == b)) := by
  apply eqv_0; unfold gEqv0; simp [toPy, SeqAt.shaped, PyData.canLay0, PyData.depth, PyData.eqv]
theorem o_neI {a b : Int} : gEqv true (.int a) (.int b) = some (.bl (!(a == b))) := by
  apply eqv_0; unfold gEqv0; simp [toPy, SeqAt.shaped, PyData.canLay0, PyData.depth, PyData.eqv]
/-- data that may be compared with itself -/
def EqOk (n : Nat) (d : D) : Prop := ∃ p, toPy d = some p ∧ p.canLay0 = true ∧ p.depth ≤ n
theorem eq_int {n : Nat} {i : Int} : EqOk n (.int i) := ⟨_, rfl, by simp [PyData.canLay0], by simp [PyData.depth]⟩
theorem eq_non {n : Nat} : EqOk n .non := ⟨_, rfl, by simp [PyData.canLay0], by simp [PyData.depth]⟩
theorem eq_all {n : Nat} : ∀ {ds : List D}, (∀ d ∈ ds, EqOk n d) → ∃ ps, toPys ds = some ps ∧ PyData.canLayAll0 ps = true ∧ PyData.depthAll ps ≤ n
  | [], _ => ⟨[], by simp [toPys], by simp [PyData.canLayAll0], by simp [PyData.depthAll]⟩
  | d :: ds, h => by
    obtain ⟨p, h1, h2, h3⟩ := h d List.mem_cons_self
    obtain ⟨ps, h4, h5, h6⟩ := eq_all (ds := ds) fun e he => h e (List.mem_cons_of_mem _ he)
    exact ⟨p :: ps, by simp [toPys, h1, h4], by simp [PyData.canLayAll0, h2, h5], by simp only [PyData.depthAll]; omega⟩
theorem eq_lst {n : Nat} {ds : List D} (h : ∀ d ∈ ds, EqOk n d) : EqOk (n + 1) (.lst ds) := by
  obtain ⟨ps, h1, h2, h3⟩ := eq_all h
  exact ⟨.list ps, by simp [toPy, h1], by simpa [PyData.canLay0] using h2, by simp only [PyData.depth]; omega⟩
theorem eq_tup {n : Nat} {ds : List D} (h : ∀ d ∈ ds, EqOk n d) : EqOk (n + 1) (.tup ds) := by
  obtain ⟨ps, h1, h2, h3⟩ := eq_all h
  exact ⟨.tuple ps, by simp [toPy, h1], by simpa [PyData.canLay0] using h2, by simp only [PyData.depth]; omega⟩
theorem o_self {n : Nat} {d : D} (h : EqOk n d) (hn : n ≤ 64) (neg : Bool) : gEqv neg d d = some (.bl (!neg)) := by
  obtain ⟨p, h1, h2, h3⟩ := h
  have hs : SeqAt.shaped p = true := by
    unfold SeqAt.shaped
    rw [h2, decide_eq_true (Nat.le_trans h3 hn)]
    rfl
  have he : PyData.eqv p p = true := SeqAt.eqv_refl p h2
  apply eqv_0
  unfold gEqv0
  rw [h1]
  simp only [Option.bind_some, hs, and_self, if_true, he]
  cases neg <;> rfl
theorem at_nat {α : Type} {xs : List α} {k : Nat} {x : α} (h : xs[k]? = some x) : L2.atI xs (k : Nat) = some x := by
  have hl : k < xs.length := (List.getElem?_eq_some_iff.mp h).1
  unfold L2.atI ixN
  rw [if_pos (by omega), if_pos (by omega)]
  simpa using h
theorem at_mod {α : Type} {xs : List α} {a : Int} {n : Nat} (hn : xs.length = n) (h0 : 0 < n) : ∃ k x, k < n ∧ a % (n : Int) = (k : Nat) ∧ xs[k]? = some x ∧ L2.atI xs (a % (n : Int)) = some x := by
  have h1 := Int.emod_nonneg a (show (n : Int) ≠ 0 by omega)
  have h2 := Int.emod_lt_of_pos a (show (0 : Int) < n by omega)
  have hk : (a % (n : Int)).toNat < xs.length := by omega
  refine ⟨(a % (n : Int)).toNat, xs[(a % (n : Int)).toNat], by omega, by omega, List.getElem?_eq_getElem hk, ?_⟩
  have e : a % (n : Int) = (((a % (n : Int)).toNat : Nat) : Int) := by omega
  exact (congrArg (L2.atI xs) e).trans (at_nat (List.getElem?_eq_getElem hk))
end DN
namespace DN
open PySem PySem.Spec PyProof.Rows L2
theorem e_var {ρ : Env} {i : Nat} {d : D} (h : ρ[i]? = some (some d)) : dVar i ρ = some d := by unfold dVar; rw [h]; rfl
theorem o_I {p : Int → Int → Bool} {a b : Int} : gI p (.int a) (.int b) = some (.bl (p a b)) := rfl
theorem o_neg {a : Int} : gNeg (.int a) = some (.int (-a)) := rfl
theorem o_lst {ds : List D} : (fun ds => some (D.lst ds)) ds = some (.lst ds) := rfl
theorem o_tup {ds : List D} : (fun ds => some (D.tup ds)) ds = some (.tup ds) := rfl
theorem o_lenL {ds : List D} : gLen [.lst ds] = some (.int ds.length) := rfl
theorem o_lenT {ds : List D} : gLen [.tup ds] = some (.int ds.length) := rfl
theorem o_lenS {ns : List Int} : gLen [.scr ns] = some (.int ns.length) := rfl
theorem o_isN {d : D} : gIsN false d .non = some (.bl (isNon d)) := by cases d <;> rfl
theorem o_notN {d : D} : gIsN true d .non = some (.bl (!isNon d)) := by cases d <;> rfl
theorem o_ty {T : String} {d : D} (h : isOb d = false := by rfl) : gTy false T d = some (.bl (decide (tyName d = T))) := by unfold gTy; rw [h]; rfl
theorem o_inst {T : String} {d : D} (h : isOb d = false := by rfl) : gInst T d = some (.bl (isTy (tyName d) T)) := by unfold gInst; rw [h]; rfl
/-- loops over range -/
theorem for_rng {s : SM} {bd : D → Env → Option Env} {P : Nat → Env → Prop} {n : Nat} {ρ : Env} (h0 : P 0 ρ) (hs : ∀ k, k < n → ∀ ρ, P k ρ → ∃ ρ1 ρ2, bd (.int (k : Nat)) ρ = some ρ1 ∧ s ρ1 = some (.nx ρ2) ∧ P (k + 1) ρ2) : ∃ ρ', forGo [] bd s (rng n) ρ = some (.nx ρ') ∧ P n ρ' := by
  have key : ∀ (m k : Nat) (ρ : Env), k + m = n → P k ρ → ∃ ρ', forGo [] bd s ((List.range' k m).map fun j => D.int (j : Nat)) ρ = some (.nx ρ') ∧ P n ρ' := by
    intro m
    induction m with
    | zero => intro k ρ e h; exact ⟨ρ, rfl, by rw [← e]; exact h⟩
    | succ m ih =>
      intro k ρ e h
      obtain ⟨ρ1, ρ2, h1, h2, h3⟩ := hs k (by omega) ρ h
      obtain ⟨ρ', h4, h5⟩ := ih (k + 1) ρ2 (by omega) h3
      exact ⟨ρ', by rw [List.range'_succ, List.map_cons]; exact for_cons h1 h2 h4, h5⟩
  have := key n 0 ρ (by omega) h0
  unfold rng
  rw [List.range_eq_range']
  exact this
end DN
namespace DN
open PySem PySem.Spec PyProof.Rows L2
theorem fn_rt {N : Nat} {m : SM} {ds : List D} {ρ : Env} {d : D} (h : startD N ds = ρ) (k : m ρ = some (.rt d)) : fnD N m ds = some d := by unfold fnD; rw [h, k]; rfl
theorem fr_rt {N : Nat} {m : SM} {ds : List D} {ρ : Env} {d : D} (h : startD N ds = ρ) (k : m ρ = some (.rt d)) : fnR N m ds = some (.ok d) := by unfold fnR; rw [h, k]; rfl
theorem fr_nx {N : Nat} {m : SM} {ds : List D} {ρ ρ1 : Env} (h : startD N ds = ρ) (k : m ρ = some (.nx ρ1)) : fnR N m ds = some (.ok .non) := by unfold fnR; rw [h, k]; rfl
theorem fr_ex {N : Nat} {m : SM} {ds : List D} {ρ : Env} {n : Str} (h : startD N ds = ρ) (k : m ρ = some (.ex n)) : fnR N m ds = some (.er n) := by unfold fnR; rw [h, k]; rfl
theorem e_ifSet {ρ : Env} {i : Nat} {m : DM} {c : Env → Option Bool} {k : Bool} {d : D} (h : c ρ = some k) (h2 : k = true → m ρ = some d) (h3 : k = false → ρ[i]? = some (some d)) : sIf c (sSet i (ev false [] m)) sNx ρ = some (.nx (ρ.set i (some d))) := by
  refine e_if h ?_
  cases k with
  | true => exact e_set (h2 rfl)
  | false =>
    have e := h3 rfl
    have hl : i < ρ.length := (List.getElem?_eq_some_iff.mp e).1
    have e2 : ρ.set i (some d) = ρ := by
      apply List.ext_getElem?
      intro j
      by_cases hj : i = j
      · subst hj; rw [List.getElem?_set_self hl, e]
      · rw [List.getElem?_set_ne hj]
    rw [e2]
    rfl
theorem e_nx {ρ : Env} : sNx ρ = some (.nx ρ) := rfl
theorem e_x {ρ : Env} {as : Env → Option (List D)} {g : List D → Option Res} {ds : List D} {d : D} (h : as ρ = some ds) (k : g ds = some (.ok d)) : xEx as g ρ = some (.nx ρ) := by unfold xEx; rw [h]; simp only [Option.bind_some]; rw [k]; rfl
theorem e_xE {ρ : Env} {as : Env → Option (List D)} {g : List D → Option Res} {ds : List D} {n : Str} (h : as ρ = some ds) (k : g ds = some (.er n)) : xEx as g ρ = some (.ex n) := by unfold xEx; rw [h]; simp only [Option.bind_some]; rw [k]; rfl
theorem e_try {ρ : Env} {names : List Str} {b : SM} {h : Str → Str} {n : Str} (hb : b ρ = some (.ex n)) (hn : n ∈ names) : sTry names b h ρ = some (.rt (.str (h n))) := by unfold sTry; rw [hb]; simp [hn]
theorem e_app {ρ : Env} {i : Nat} {O : List Nat} {m : DM} {d : D} {ds : List D} (h : m (wipeD ρ O) = some d) (hi : ρ[i]? = some (some (.lst ds))) (hl : ds.length < 1000000) : sApp i (ev false O m) ρ = some (.nx (ρ.set i (some (.lst (ds ++ [d]))))) := by
  unfold sApp ev
  simp only [Bool.false_eq_true, if_false]
  rw [h, hi]
  simp [hl]
/-! ints -/
def LI (l : List Int) : D := .lst (l.map .int)
def LR (l : List (List Int)) : D := .lst (l.map LI)
theorem e_lcR {ρ : Env} {i n : Nat} {m : DM} {mi : Env → Option (List D)} {g : Nat → Int} (h : mi ρ = some (rng n)) (hn : n < 1000000) (hm : ∀ j, j < n → m ((ρ.set i none).set i (some (.int (j : Nat)))) = some (.int (g j))) : dLc [i] mi (bd1 i) tYesD m ρ = some (LI ((List.range n).map g)) := by
  have := e_lc (f := fun j => D.int (g j)) (emb := fun j : Nat => D.int (j : Nat)) (l := List.range n) h (by simpa using hn) fun j hj => hm j (List.mem_range.mp hj)
  rw [this]
  unfold LI
  rw [List.map_map]
  rfl
theorem e_lcRR {ρ : Env} {i n : Nat} {m : DM} {mi : Env → Option (List D)} {g : Nat → List Int} (h : mi ρ = some (rng n)) (hn : n < 1000000) (hm : ∀ j, j < n → m ((ρ.set i none).set i (some (.int (j : Nat)))) = some (LI (g j))) : dLc [i] mi (bd1 i) tYesD m ρ = some (LR ((List.range n).map g)) := by
  have := e_lc (f := fun j => LI (g j)) (emb := fun j : Nat => D.int (j : Nat)) (l := List.range n) h (by simpa using hn) fun j hj => hm j (List.mem_range.mp hj)
  rw [this]
  unfold LR
  rw [List.map_map]
  rfl
theorem e_lcI {ρ : Env} {i : Nat} {m : DM} {mi : Env → Option (List D)} {l : List Int} {g : Int → Int} (h : mi ρ = some (l.map .int)) (hn : l.length < 1000000) (hm : ∀ x ∈ l, m ((ρ.set i none).set i (some (.int x))) = some (.int (g x))) : dLc [i] mi (bd1 i) tYesD m ρ = some (LI (l.map g)) := by
  have := e_lc (f := fun j => D.int (g j)) (emb := D.int) (l := l) h hn hm
  rw [this]
  unfold LI
  rw [List.map_map]
  rfl
theorem e_lcL {ρ : Env} {i : Nat} {m : DM} {mi : Env → Option (List D)} {l : List (List Int)} {g : List Int → Int} (h : mi ρ = some (l.map LI)) (hn : l.length < 1000000) (hm : ∀ x ∈ l, m ((ρ.set i none).set i (some (LI x))) = some (.int (g x))) : dLc [i] mi (bd1 i) tYesD m ρ = some (LI (l.map g)) := by
  have := e_lc (f := fun j => D.int (g j)) (emb := LI) (l := l) h hn hm
  rw [this]
  unfold LI
  rw [List.map_map]
  rfl
theorem e_lcLL {ρ : Env} {i : Nat} {m : DM} {mi : Env → Option (List D)} {l : List (List Int)} {g : List Int → List Int} (h : mi ρ = some (l.map LI)) (hn : l.length < 1000000) (hm : ∀ x ∈ l, m ((ρ.set i none).set i (some (LI x))) = some (LI (g x))) : dLc [i] mi (bd1 i) tYesD m ρ = some (LR (l.map g)) := by
  have := e_lc (f := fun j => LI (g j)) (emb := LI) (l := l) h hn hm
  rw [this]
  unfold LR
  rw [List.map_map]
  rfl
theorem o_catI {a b : List Int} (h : a.length + b.length ≤ 1000000) : gAdd (LI a) (LI b) = some (LI (a ++ b)) := by
  unfold LI
  rw [o_cat (by simpa using h), List.map_append]
theorem o_catR {a b : List (List Int)} (h : a.length + b.length ≤ 1000000) : gAdd (LR a) (LR b) = some (LR (a ++ b)) := by
  unfold LR
  rw [o_cat (by simpa using h), List.map_append]
theorem o_zeros {n : Nat} (h : n < 1000) : gMul (.lst [.int 0]) (.int (n : Nat)) = some (LI (List.replicate n 0)) := by
  rw [o_rep h (by simp; omega)]
  unfold LI
  simp [List.flatten_replicate_singleton]
theorem o_ixI {l : List Int} {k : Nat} {x : Int} (h : l[k]? = some x) : gIx (LI l) (.int (k : Nat)) = some (.int x) := at_nat (by rw [List.getElem?_map, h]; rfl)
theorem o_ix {l : List D} {k : Nat} {x : D} (h : l[k]? = some x) : gIx (.lst l) (.int (k : Nat)) = some x := at_nat h
theorem o_ixT {l : List D} {k : Nat} {x : D} (h : l[k]? = some x) : gIx (.tup l) (.int (k : Nat)) = some x := at_nat h
theorem at_last {α : Type} {l : List α} {x : α} (h : l.getLast? = some x) : L2.atI l (-1) = some x := by
  have hl : l ≠ [] := fun z => by rw [z] at h; cases h
  have hp : 0 < l.length := List.length_pos_iff.mpr hl
  rw [List.getLast?_eq_getElem?] at h
  unfold L2.atI ixN
  rw [if_neg (by omega), if_pos (by omega)]
  have e : (-1 + (l.length : Int)).toNat = l.length - 1 := by omega
  simp only [Option.bind_some, e]
  exact h
theorem o_lastI {l : List Int} {x : Int} (h : l.getLast? = some x) : gIx (LI l) (.int (-1)) = some (.int x) := at_last (by rw [List.getLast?_map, h]; rfl)
theorem o_lenI {l : List Int} : gLen [LI l] = some (.int l.length) := by unfold LI; rw [o_lenL, List.length_map]
theorem o_lenR {l : List (List Int)} : gLen [LR l] = some (.int l.length) := by unfold LR; rw [o_lenL, List.length_map]
theorem e_lsI {ρ : Env} {m : DM} {l : List Int} (h : m ρ = some (LI l)) : dLs m ρ = some (l.map .int) := e_ls h
theorem e_lsR {ρ : Env} {m : DM} {l : List (List Int)} (h : m ρ = some (LR l)) : dLs m ρ = some (l.map LI) := e_ls h
theorem eq_LI {n : Nat} {l : List Int} : EqOk (n + 1) (LI l) := eq_lst fun d hd => by
  obtain ⟨x, _, rfl⟩ := List.mem_map.mp hd
  exact eq_int
theorem eq_LR {n : Nat} {l : List (List Int)} : EqOk (n + 2) (LR l) := eq_lst fun d hd => by
  obtain ⟨x, _, rfl⟩ := List.mem_map.mp hd
  exact eq_LI
theorem flat_LI {l : List Int} : Flat (LI l) = true := by
  unfold LI Flat
  simp [Scal]
/-- sums over pairs -/
theorem sum_pairs {ρ : Env} {m : DM} : ∀ {r s : List Int} {acc : Int}, (∀ x ∈ r, ∀ y ∈ s, m ((ρ.set 0 (some (.int x))).set 1 (some (.int y))) = some (.int (x * y))) → sumGo (bd2 0 1) tYesD m ρ acc (zipD (r.map .int) (s.map .int)) = some (.int (acc + (List.zipWith (· * ·) r s).sum))
  | [], s, acc, _ => by
    rw [List.map_nil]
    show sumGo (bd2 0 1) tYesD m ρ acc [] = _
    simp [sumGo]
  | _ :: _, [], acc, _ => by
    rw [List.map_nil, List.map_cons]
    show sumGo (bd2 0 1) tYesD m ρ acc [] = _
    simp [sumGo]
  | x :: r, y :: s, acc, h => by
    rw [List.map_cons, List.map_cons, zipD, sumGo]
    have h1 := h x List.mem_cons_self y List.mem_cons_self
    have h2 := sum_pairs (ρ := ρ) (m := m) (r := r) (s := s) (acc := acc + x * y) fun a ha b hb => h a (List.mem_cons_of_mem _ ha) b (List.mem_cons_of_mem _ hb)
    simp only [bd2, tYesD, Option.bind_some, if_true, dI0, h1, toI, h2, List.zipWith_cons_cons, List.sum_cons]
    rw [Int.add_assoc]
end DN
namespace DN
open PySem PySem.Spec PyProof.Rows L2
theorem e_sl {ρ : Env} {m : DM} {lo hi : Env → Option (Option Int)} {x z : D} {l h : Option Int} (h1 : m ρ = some x) (h2 : lo ρ = some l) (h3 : hi ρ = some h) (h4 : gSl x l h = some z) : dSl m lo hi ρ = some z := by unfold dSl; rw [h1, h2, h3]; exact h4
theorem e_part {ρ : Env} {m : DM} {i : Int} (h : m ρ = some (.int i)) : dPart m ρ = some (some i) := by unfold dPart; rw [h]; rfl
end DN

set_option Elab.async false
set_option linter.all false
set_option maxRecDepth 100000
set_option maxHeartbeats 400000
namespace DN
open PySem PySem.Spec PyProof.Rows L2
section
variable {ρ ρ1 ρ2 : Env} {m : DM} {d : D} {s t : SM} {o : Out} {i j : Nat}
theorem e_retF (h : m ρ = some d) (hf : Flat d = true) : sRetF m ρ = some (.rt d) := by unfold sRetF; rw [h]; simp [hf]
theorem e_lstN (h : m ρ = some d) (hf : Flat d = true) : sLstN i m ρ = some (.nx (ρ.set i (some (.lst [d])))) := by unfold sLstN; rw [h]; simp [hf]
theorem e_setW (h : m ρ = some d) : sSet i m ρ = some (.nx (ρ.set i (some d))) := by unfold sSet; rw [h]; rfl
theorem e_ev {O : List Nat} (h : m (wipeD ρ O) = some d) : ev false O m ρ = some d := by unfold ev; simp only [Bool.false_eq_true, if_false]; exact h
theorem e_appS {ds : List D} (h : m ρ = some d) (hs : Scal d = true) (hi : ρ[i]? = some (some (.lst ds))) (hl : ds.length < 1000000) : sAppS i m ρ = some (.nx (ρ.set i (some (.lst (ds ++ [d]))))) := by
  unfold sAppS
  rw [h, hi]
  simp [hs, hl]
theorem e_appO {ds : List D} (hj : ρ[j]? = some (some d)) (hi : ρ[i]? = some (some (.lst ds))) (hl : ds.length < 1000000) : sAppO i j ρ = some (.nx ((ρ.set j none).set i (some (.lst (ds ++ [d]))))) := by
  unfold sAppO
  rw [hj, hi]
  simp [hl]
theorem e_forO {O : List Nat} {mi : Env → Option (List D)} {bd : D → Env → Option Env} {ds : List D} (h : mi (wipeD ρ O) = some ds) (h2 : forGo O bd s ds ρ = some o) : sFor O mi bd s ρ = some o := by
  unfold sFor; rw [h]; exact h2
theorem forO_cons {O : List Nat} {bd : D → Env → Option Env} {ds : List D} (h : bd d (wipeD ρ O) = some ρ1) (h2 : s (mrg O ρ ρ1) = some (.nx ρ2)) (h3 : forGo O bd s ds ρ2 = some o) : forGo O bd s (d :: ds) ρ = some o := by
  rw [forGo, h]
  simp only [Option.bind_some, h2]
  exact h3
theorem forO_rt {O : List Nat} {bd : D → Env → Option Env} {ds : List D} {e : D} (h : bd d (wipeD ρ O) = some ρ1) (h2 : s (mrg O ρ ρ1) = some (.rt e)) : forGo O bd s (d :: ds) ρ = some (.rt e) := by
  rw [forGo, h]
  simp only [Option.bind_some, h2]
theorem wh_end {c : Env → Option Bool} {n : Nat} (h : c ρ = some false) : whGo c s (n + 1) ρ = some (.nx ρ) := by unfold whGo; rw [h]; rfl
theorem wh_nx {c : Env → Option Bool} {n : Nat} (h : c ρ = some true) (h2 : s ρ = some (.nx ρ1)) (h3 : whGo c s n ρ1 = some o) : whGo c s (n + 1) ρ = some o := by
  unfold whGo
  rw [h]
  simp only [Option.bind_some, if_true]
  rw [h2]
  exact h3
theorem wh_rt {c : Env → Option Bool} {n : Nat} (h : c ρ = some true) (h2 : s ρ = some (.rt d)) : whGo c s (n + 1) ρ = some (.rt d) := by
  unfold whGo
  rw [h]
  simp only [Option.bind_some, if_true]
  rw [h2]
  rfl
theorem lcGo_filter {tt : Env → Option Bool} {p : D → Bool} : ∀ {ds : List D}, (∀ x ∈ ds, tt (ρ.set i (some x)) = some (p x) ∧ m (ρ.set i (some x)) = some x) → lcGo (bd1 i) tt m ρ ds = some (ds.filter p)
  | [], _ => rfl
  | x :: l, h => by
    rw [lcGo]
    obtain ⟨h1, h1'⟩ := h x List.mem_cons_self
    have h2 := lcGo_filter (ds := l) fun y hy => h y (List.mem_cons_of_mem _ hy)
    simp only [bd1, Option.bind_some, h1, List.filter_cons]
    cases p x with
    | true => simp [h1', h2]
    | false => simp [h2]
theorem e_filter {tt : Env → Option Bool} {p : D → Bool} {ds : List D} {mi : Env → Option (List D)} (h : mi ρ = some ds) (hl : ds.length < 1000000) (hm : ∀ x ∈ ds, tt ((ρ.set i none).set i (some x)) = some (p x) ∧ m ((ρ.set i none).set i (some x)) = some x) : dLc [i] mi (bd1 i) tt m ρ = some (.lst (ds.filter p)) := by
  unfold dLc; rw [h]
  simp only [Option.bind_some]
  rw [show wipeD ρ [i] = ρ.set i none from rfl, lcGo_filter hm]
  simp [hl]
/-- a list against the empty one -/
theorem o_nil {n : Nat} {ds : List D} {neg : Bool} (h : EqOk n (.lst ds)) (hn : n ≤ 64) : gEqv neg (.lst ds) (.lst []) = some (.bl (if neg = true then !ds.isEmpty else ds.isEmpty)) := by
  obtain ⟨p, h1, h2, h3⟩ := h
  have hs : SeqAt.shaped p = true := by
    unfold SeqAt.shaped
    rw [h2, decide_eq_true (Nat.le_trans h3 hn)]
    rfl
  have hn : SeqAt.shaped (.list []) = true := by decide
  unfold toPy at h1
  apply eqv_0
  unfold gEqv0
  cases q : toPys ds with
  | none => rw [q] at h1; cases h1
  | some ps =>
    rw [q] at h1
    cases h1
    have e1 : toPy (.lst ds) = some (.list ps) := by unfold toPy; rw [q]; rfl
    have e2 : toPy (.lst []) = some (.list []) := by unfold toPy toPys; rfl
    have e3 : PyData.eqv (.list ps) (.list []) = ds.isEmpty := by
      cases ds with
      | nil =>
        unfold toPys at q
        cases q
        simp [PyData.eqv, PyData.eqvAll]
      | cons d ds =>
        unfold toPys at q
        cases q1 : toPy d with
        | none => rw [q1] at q; cases q
        | some p1 =>
          cases q2 : toPys ds with
          | none => rw [q1, q2] at q; cases q
          | some p2 =>
            rw [q1, q2] at q
            cases q
            simp [PyData.eqv, PyData.eqvAll]
    rw [e1, e2]
    simp only [Option.bind_some, hs, hn, and_self, if_true, e3]
end
end DN
namespace DN
open PySem PySem.Spec PyProof.Rows L2
mutual
theorem same_self : ∀ {n : Nat} {d : D}, okS n d = true → sameD d d = true
  | _, .non, _ => by unfold sameD; rfl
  | _, .bl _, _ => by unfold sameD; simp
  | _, .int _, _ => by unfold sameD; simp
  | _, .str _, _ => by unfold sameD; simp
  | _, .dct, _ => by unfold sameD; rfl
  | n + 1, .lst ds, h => by unfold okS at h; unfold sameD; exact sames_self h
  | n + 1, .tup ds, h => by unfold okS at h; unfold sameD; exact sames_self h
  | 0, .lst ds, h => by unfold okS at h; cases h
  | 0, .tup ds, h => by unfold okS at h; cases h
  | _, .scr ds, h => by unfold okS at h; cases h
  | _, .obj _ _ ds, h => by unfold okS at h; cases h
theorem sames_self : ∀ {n : Nat} {ds : List D}, okSs n ds = true → sameDs ds ds = true
  | _, [], _ => by unfold sameDs; rfl
  | n, d :: ds, h => by
    unfold okSs at h
    rw [Bool.and_eq_true] at h
    unfold sameDs
    rw [same_self h.1, sames_self h.2]
    rfl
end
mutual
theorem okS_mono : ∀ {n : Nat} {d : D} {m : Nat}, n ≤ m → okS n d = true → okS m d = true
  | _, .non, _, _, _ => by unfold okS; rfl
  | _, .bl _, _, _, _ => by unfold okS; rfl
  | _, .int _, _, _, _ => by unfold okS; rfl
  | _, .str _, _, _, _ => by unfold okS; rfl
  | _, .dct, _, _, _ => by unfold okS; rfl
  | n + 1, .lst ds, m, hm, h => by
    obtain ⟨m, rfl⟩ : ∃ k, m = k + 1 := ⟨m - 1, by omega⟩
    unfold okS at h ⊢
    exact okSs_mono (by omega) h
  | n + 1, .tup ds, m, hm, h => by
    obtain ⟨m, rfl⟩ : ∃ k, m = k + 1 := ⟨m - 1, by omega⟩
    unfold okS at h ⊢
    exact okSs_mono (by omega) h
  | 0, .lst ds, _, _, h => by unfold okS at h; cases h
  | 0, .tup ds, _, _, h => by unfold okS at h; cases h
  | _, .scr ds, _, _, h => by unfold okS at h; cases h
  | _, .obj _ _ ds, _, _, h => by unfold okS at h; cases h
theorem okSs_mono : ∀ {n : Nat} {ds : List D} {m : Nat}, n ≤ m → okSs n ds = true → okSs m ds = true
  | _, [], _, _, _ => by unfold okSs; rfl
  | n, d :: ds, m, hm, h => by
    unfold okSs at h ⊢
    rw [Bool.and_eq_true] at h
    rw [okS_mono hm h.1, okSs_mono hm h.2]
    rfl
end
/-- a thing against itself, empty dicts in it too -/
theorem o_selfX {n : Nat} {d : D} (h : okS n d = true) (hn : n ≤ 60) (hs : seqD d = true) (neg : Bool) : gEqv neg d d = some (.bl (!neg)) := by
  cases h0 : gEqv0 neg d d with
  | none =>
    unfold gEqv
    rw [h0]
    simp [same_self h, okS_mono hn h, hs]
  | some r =>
    rw [eqv_0 h0]
    unfold gEqv0 at h0
    cases h1 : toPy d with
    | none => rw [h1] at h0; cases h0
    | some p =>
      rw [h1] at h0
      simp only [Option.bind_some, Option.ite_none_right_eq_some, Option.some.injEq, and_self] at h0
      obtain ⟨s1, rfl⟩ := h0
      have he : PyData.eqv p p = true := SeqAt.eqv_refl p (by
        unfold SeqAt.shaped at s1
        simp only [Bool.and_eq_true] at s1
        exact s1.1)
      rw [he]
      cases neg <;> rfl
theorem okSs_of {n : Nat} : ∀ {ds : List D}, (∀ d ∈ ds, okS n d = true) → okSs n ds = true
  | [], _ => by unfold okSs; rfl
  | d :: ds, h => by
    unfold okSs
    rw [h d List.mem_cons_self, okSs_of fun e he => h e (List.mem_cons_of_mem _ he)]
    rfl
theorem okS_lst {n : Nat} {ds : List D} (h : ∀ d ∈ ds, okS n d = true) : okS (n + 1) (.lst ds) = true := by unfold okS; exact okSs_of h
theorem okS_tup {n : Nat} {ds : List D} (h : ∀ d ∈ ds, okS n d = true) : okS (n + 1) (.tup ds) = true := by unfold okS; exact okSs_of h
theorem o_mulB {a b : Int} {m n : Nat} (ha : a.natAbs < 2 ^ m) (hb : b.natAbs < 2 ^ n) (h : m + n ≤ 999999) : gMul (.int a) (.int b) = some (.int (a * b)) := by
  have l2 : ∀ {x k : Nat}, x < 2 ^ k → x.log2 ≤ k := fun {x k} hx => by
    rcases Nat.eq_zero_or_pos x with h0 | hp
    · rw [h0]; exact Nat.zero_le _
    · exact Nat.le_of_lt ((Nat.log2_lt (Nat.ne_of_gt hp)).mpr hx)
  have h1 := l2 ha
  have h2 := l2 hb
  unfold gMul mulOk
  have : decide (a.natAbs.log2 + b.natAbs.log2 < 1000000) = true := decide_eq_true (by omega)
  simp [this]
theorem e_tr {ρ : Env} {m : DM} {d : D} {k : Bool} (h : m ρ = some d) (h2 : truD d = some k) : dTr m ρ = some k := by unfold dTr; rw [h]; exact h2
theorem intsD_map : ∀ l : List Int, intsD (l.map .int) = some l
  | [] => rfl
  | x :: l => by simp [intsD, intsD_map l]
theorem blsD_map : ∀ l : List Bool, blsD (l.map .bl) = some l
  | [] => rfl
  | x :: l => by simp [blsD, blsD_map l]
theorem o_sumL {l : List Int} : gSumL [LI l] = some (.int l.sum) := by
  show (intsD (l.map .int)).bind _ = _
  rw [intsD_map]; rfl
theorem o_allL {l : List Bool} : gAllL [.lst (l.map .bl)] = some (.bl (l.all id)) := by
  show (blsD (l.map .bl)).bind _ = _
  rw [blsD_map]; rfl
theorem o_minL {x : Int} {l : List Int} : gMinL [LI (x :: l)] = some (.int (minI x l)) := by
  show (intsD ((x :: l).map .int)).bind _ = _
  rw [intsD_map]; rfl
theorem o_maxL {x : Int} {l : List Int} : gMaxL [LI (x :: l)] = some (.int (maxI x l)) := by
  show (intsD ((x :: l).map .int)).bind _ = _
  rw [intsD_map]; rfl
/-- sums over pairs, of any numbers -/
theorem sum_pairsB {ρ : Env} {m : DM} : ∀ {r s : List Int} {acc : Int}, (∀ x ∈ r, ∀ y ∈ s, m ((ρ.set 0 (some (.int x))).set 1 (some (.int y))) = some (.int (x * y))) → sumGo (bd2 0 1) tYesD m ρ acc (zipD (r.map .int) (s.map .int)) = some (.int (acc + (List.zipWith (· * ·) r s).sum)) := sum_pairs
end DN

set_option Elab.async false
set_option linter.all false
set_option maxRecDepth 100000
set_option maxHeartbeats 400000
namespace DN
open PySem PySem.Spec PyProof.Rows L2
section
variable {ρ ρ1 ρ2 : Env} {m a b : DM} {d : D} {s t : SM} {o : Out} {i j : Nat}
theorem e_dIfT {c : Env → Option Bool} (h : c ρ = some true) (h2 : a ρ = some d) : dIf c a b ρ = some d := by unfold dIf; rw [h]; exact h2
theorem e_dIfF {c : Env → Option Bool} (h : c ρ = some false) (h2 : b ρ = some d) : dIf c a b ρ = some d := by unfold dIf; rw [h]; exact h2
/-- a loop that ends with False at the first that fails -/
theorem for_false {p : D → Bool} {e : D} : ∀ {ds : List D} {ρ : Env}, (∀ d ∈ ds, s (ρ.set i (some d)) = some (if p d = true then .nx (ρ.set i (some d)) else .rt e)) → (ds.all p = true → ∃ ρ', forGo [] (bd1 i) s ds ρ = some (.nx ρ')) ∧ (ds.all p = false → forGo [] (bd1 i) s ds ρ = some (.rt e))
  | [], ρ, _ => ⟨fun _ => ⟨ρ, rfl⟩, fun h => nomatch h⟩
  | d :: ds, ρ, h => by
    have h1 := h d List.mem_cons_self
    have hb : bd1 i d ρ = some (ρ.set i (some d)) := rfl
    by_cases hp : p d = true
    · rw [if_pos hp] at h1
      have ih := for_false (p := p) (e := e) (ds := ds) (ρ := ρ.set i (some d)) fun d' hd' => by
        have := h d' (List.mem_cons_of_mem _ hd')
        rw [List.set_set]
        exact this
      rw [List.all_cons, hp, Bool.true_and]
      refine ⟨fun ha => ?_, fun ha => ?_⟩
      · obtain ⟨ρ', e1⟩ := ih.1 ha
        exact ⟨ρ', for_cons hb h1 e1⟩
      · exact for_cons hb h1 (ih.2 ha)
    · rw [if_neg hp] at h1
      have hp' : p d = false := by simpa using hp
      rw [List.all_cons, hp', Bool.false_and]
      exact ⟨fun z => (nomatch z), fun _ => for_rt hb h1⟩
/-- the same, as one statement with what follows it -/
theorem e_forF {p : D → Bool} {ds : List D} {mi : Env → Option (List D)} (h : mi ρ = some ds) (hs : ∀ d ∈ ds, s (ρ.set i (some d)) = some (if p d = true then .nx (ρ.set i (some d)) else .rt (.bl false))) (ht : ∀ ρ, t ρ = some (.rt (.bl true))) : sSeq (sFor [] mi (bd1 i) s) t ρ = some (.rt (.bl (ds.all p))) := by
  obtain ⟨h1, h2⟩ := for_false (e := .bl false) hs
  cases e : ds.all p with
  | true =>
    obtain ⟨ρ', h3⟩ := h1 e
    exact e_seq (e_for h h3) (ht ρ')
  | false => exact e_seqR (e_for h (h2 e))
theorem e_tryOk {names : List Str} {b : SM} {h : Str → Str} {ρ' : Env} (hb : b ρ = some (.nx ρ')) : sTry names b h ρ = some (.nx ρ') := by unfold sTry; rw [hb]; rfl
theorem e_ls2 {ds : List D} (h : m ρ = some (.lst ds)) : dLs m ρ = some ds := e_ls h
end
theorem cutD_mem {α : Type} {l : List α} {lo hi : Option Int} {x : α} (h : x ∈ cutD l lo hi) : x ∈ l := List.mem_of_mem_drop (List.mem_of_mem_take h)
theorem cutD_len {α : Type} (l : List α) (lo hi : Option Int) : (cutD l lo hi).length ≤ l.length := by
  unfold DN.cutD
  rw [List.length_take, List.length_drop]
  omega
theorem cutD_map {α β : Type} (f : α → β) (l : List α) (lo hi : Option Int) : cutD (l.map f) lo hi = (cutD l lo hi).map f := by
  unfold DN.cutD
  rw [List.length_map, ← List.map_drop, ← List.map_take]
theorem slI {l : List Int} {lo hi : Option Int} : gSl (LI l) lo hi = some (LI (cutD l lo hi)) := by
  show some (D.lst (cutD (l.map D.int) lo hi)) = _
  rw [cutD_map]; rfl
theorem slR {l : List (List Int)} {lo hi : Option Int} : gSl (LR l) lo hi = some (LR (cutD l lo hi)) := by
  show some (D.lst (cutD (l.map LI) lo hi)) = _
  rw [cutD_map]; rfl
theorem slL {ds : List D} {lo hi : Option Int} : gSl (.lst ds) lo hi = some (.lst (cutD ds lo hi)) := rfl
theorem memAt {α : Type} {xs : List α} {n : Nat} {x : α} (h : xs[n]? = some x) : x ∈ xs := List.mem_of_getElem? h
end DN

set_option Elab.async false
set_option linter.all false
set_option maxRecDepth 100000
set_option maxHeartbeats 400000
namespace K01
open PySem PySem.Spec PyProof.Rows L2 DN
/-! ### what the law's helpers come to -/
def drawn (s k : Int) : Int := ((s + 101 * k + 7) * 48271 % 2147483647 / 7 + k) * 16807 % 2147483647 / 64
theorem drawn_eq {s k : Int} : M_law_drawn [.int s, .int k] = some (.int (drawn s k)) := by
  refine fn_rt (ρ := [some (.int s), some (.int k), none]) rfl ?_
  unfold m_law_drawn
  apply e_seq
  · (repeat' (first | (with_reducible first | exact DN.e_c | exact DN.e_nil | apply DN.e_set | apply DN.e_ret | apply DN.e_bin | apply DN.e_un | apply DN.e_fn | apply DN.e_cons | apply DN.e_b | apply DN.e_notT | apply DN.e_not | apply DN.e_and | apply DN.e_or | apply DN.e_andT | apply DN.e_orT | apply DN.e_chain | apply DN.e_asg | exact DN.o_add | exact DN.o_sub | exact DN.o_eqI | exact DN.o_neI | exact DN.o_I | exact DN.o_neg | exact DN.o_lst | exact DN.o_tup | exact DN.o_isN | exact DN.o_notN | exact DN.o_ty (by rfl) | exact DN.o_inst (by rfl)) | ((with_reducible apply DN.e_var); exact rfl) | exact DN.o_mulL (by decide) | exact DN.o_mulR (by decide) | exact DN.o_div (by decide) (by decide) | exact DN.o_mod (by decide) | exact DN.o_lenL | exact DN.o_lenT | exact DN.o_lenS))
  · (repeat' (first | (with_reducible first | exact DN.e_c | exact DN.e_nil | apply DN.e_set | apply DN.e_ret | apply DN.e_bin | apply DN.e_un | apply DN.e_fn | apply DN.e_cons | apply DN.e_b | apply DN.e_notT | apply DN.e_not | apply DN.e_and | apply DN.e_or | apply DN.e_andT | apply DN.e_orT | apply DN.e_chain | apply DN.e_asg | exact DN.o_add | exact DN.o_sub | exact DN.o_eqI | exact DN.o_neI | exact DN.o_I | exact DN.o_neg | exact DN.o_lst | exact DN.o_tup | exact DN.o_isN | exact DN.o_notN | exact DN.o_ty (by rfl) | exact DN.o_inst (by rfl)) | ((with_reducible apply DN.e_var); exact rfl) | exact DN.o_mulL (by decide) | exact DN.o_mulR (by decide) | exact DN.o_div (by decide) (by decide) | exact DN.o_mod (by decide) | exact DN.o_lenL | exact DN.o_lenT | exact DN.o_lenS))
def cell (ns : List Int) (k : Nat) : Int := (ns[k]?).getD 0
theorem cell_eq {ns : List Int} {k : Nat} : M_law_cell_at [.scr ns, .int (k : Nat)] = some (.int (cell ns k)) := by
  refine fn_rt (ρ := [some (.scr ns), some (.int (k : Nat))]) rfl ?_
  unfold m_law_cell_at cell
  by_cases h : k < ns.length
  · apply e_seqR
    apply e_ifT
    · have e : pLt (k : Nat) (ns.length : Nat) = true := decide_eq_true (by omega)
      rw [← e]
      (repeat' (first | (with_reducible first | exact DN.e_c | exact DN.e_nil | apply DN.e_set | apply DN.e_ret | apply DN.e_bin | apply DN.e_un | apply DN.e_fn | apply DN.e_cons | apply DN.e_b | apply DN.e_notT | apply DN.e_not | apply DN.e_and | apply DN.e_or | apply DN.e_andT | apply DN.e_orT | apply DN.e_chain | apply DN.e_asg | exact DN.o_add | exact DN.o_sub | exact DN.o_eqI | exact DN.o_neI | exact DN.o_I | exact DN.o_neg | exact DN.o_lst | exact DN.o_tup | exact DN.o_isN | exact DN.o_notN | exact DN.o_ty (by rfl) | exact DN.o_inst (by rfl)) | ((with_reducible apply DN.e_var); exact rfl) | exact DN.o_mulL (by decide) | exact DN.o_mulR (by decide) | exact DN.o_div (by decide) (by decide) | exact DN.o_mod (by decide) | exact DN.o_lenL | exact DN.o_lenT | exact DN.o_lenS))
    · (repeat' (first | (with_reducible first | exact DN.e_c | exact DN.e_nil | apply DN.e_set | apply DN.e_ret | apply DN.e_bin | apply DN.e_un | apply DN.e_fn | apply DN.e_cons | apply DN.e_b | apply DN.e_notT | apply DN.e_not | apply DN.e_and | apply DN.e_or | apply DN.e_andT | apply DN.e_orT | apply DN.e_chain | apply DN.e_asg | exact DN.o_add | exact DN.o_sub | exact DN.o_eqI | exact DN.o_neI | exact DN.o_I | exact DN.o_neg | exact DN.o_lst | exact DN.o_tup | exact DN.o_isN | exact DN.o_notN | exact DN.o_ty (by rfl) | exact DN.o_inst (by rfl)) | ((with_reducible apply DN.e_var); exact rfl) | exact DN.o_mulL (by decide) | exact DN.o_mulR (by decide) | exact DN.o_div (by decide) (by decide) | exact DN.o_mod (by decide) | exact DN.o_lenL | exact DN.o_lenT | exact DN.o_lenS))
      rw [List.getElem?_eq_getElem h]
      show (L2.atI ns (k : Nat)).map D.int = _
      rw [at_nat (List.getElem?_eq_getElem h)]
      rfl
  · apply e_seq
    · apply e_ifF
      · have e : pLt (k : Nat) (ns.length : Nat) = false := decide_eq_false (by omega)
        rw [← e]
        (repeat' (first | (with_reducible first | exact DN.e_c | exact DN.e_nil | apply DN.e_set | apply DN.e_ret | apply DN.e_bin | apply DN.e_un | apply DN.e_fn | apply DN.e_cons | apply DN.e_b | apply DN.e_notT | apply DN.e_not | apply DN.e_and | apply DN.e_or | apply DN.e_andT | apply DN.e_orT | apply DN.e_chain | apply DN.e_asg | exact DN.o_add | exact DN.o_sub | exact DN.o_eqI | exact DN.o_neI | exact DN.o_I | exact DN.o_neg | exact DN.o_lst | exact DN.o_tup | exact DN.o_isN | exact DN.o_notN | exact DN.o_ty (by rfl) | exact DN.o_inst (by rfl)) | ((with_reducible apply DN.e_var); exact rfl) | exact DN.o_mulL (by decide) | exact DN.o_mulR (by decide) | exact DN.o_div (by decide) (by decide) | exact DN.o_mod (by decide) | exact DN.o_lenL | exact DN.o_lenT | exact DN.o_lenS))
      · exact e_nx
    · rw [List.getElem?_eq_none (by omega)]
      exact e_ret rfl
def RowOk (m : Nat) (r : List Int) : Prop := r.length = m + 1 ∧ ∀ x ∈ r, -1000 ≤ x ∧ x ≤ 1000
def rowF (c k : Int) (m : Nat) : List Int := if drawn c (10 * k + 9) % 8 = 3 then (List.range (m + 1)).map fun j => drawn c (10 * k + (j : Nat)) % 2001 - 1000 else ((List.range m).map fun j => drawn c (10 * k + (j : Nat)) % 5 - 2) ++ [drawn c (10 * k + 7) % 13 - 6]
theorem rowF_ok (c k : Int) (m : Nat) : RowOk m (rowF c k m) := by
  unfold rowF
  by_cases h : drawn c (10 * k + 9) % 8 = 3
  · rw [if_pos h]
    refine ⟨by simp, fun x hx => ?_⟩
    obtain ⟨j, _, rfl⟩ := List.mem_map.mp hx
    omega
  · rw [if_neg h]
    refine ⟨by simp, fun x hx => ?_⟩
    rcases List.mem_append.mp hx with hx | hx
    · obtain ⟨j, _, rfl⟩ := List.mem_map.mp hx
      omega
    · rw [List.mem_singleton.mp hx]
      omega
theorem row_eq {c k : Int} {m : Nat} (hm : m ≤ 100) : M_law_row_by [.int c, .int k, .int (m : Nat)] = some (LI (rowF c k m)) := by
  refine fn_rt (ρ := [some (.int c), some (.int k), some (.int (m : Nat)), none]) rfl ?_
  unfold m_law_row_by rowF
  by_cases h : drawn c (10 * k + 9) % 8 = 3
  · rw [if_pos h]
    apply e_seqR
    refine e_if (k := (drawn c (10 * k + 9) % 8 == 3)) ?_ ?_
    · (repeat' (first | (with_reducible first | exact DN.e_c | exact DN.e_nil | apply DN.e_set | apply DN.e_ret | apply DN.e_bin | apply DN.e_un | apply DN.e_fn | apply DN.e_cons | apply DN.e_b | apply DN.e_notT | apply DN.e_not | apply DN.e_and | apply DN.e_or | apply DN.e_andT | apply DN.e_orT | apply DN.e_chain | apply DN.e_asg | exact DN.o_add | exact DN.o_sub | exact DN.o_eqI | exact DN.o_neI | exact DN.o_I | exact DN.o_neg | exact DN.o_lst | exact DN.o_tup | exact DN.o_isN | exact DN.o_notN | exact DN.o_ty (by rfl) | exact DN.o_inst (by rfl)) | ((with_reducible apply DN.e_var); exact rfl) | exact DN.o_mulL (by decide) | exact DN.o_mulR (by decide) | exact DN.o_div (by decide) (by decide) | exact DN.o_mod (by decide) | exact DN.o_lenL | exact DN.o_lenT | exact DN.o_lenS | exact drawn_eq))
    · rw [if_pos (by simpa using h)]
      apply e_ret
      refine e_lcR (e_rng (n := m + 1) ?_ (by omega)) (by omega) fun j hj => ?_
      · (repeat' (first | (with_reducible first | exact DN.e_c | exact DN.e_nil | apply DN.e_set | apply DN.e_ret | apply DN.e_bin | apply DN.e_un | apply DN.e_fn | apply DN.e_cons | apply DN.e_b | apply DN.e_notT | apply DN.e_not | apply DN.e_and | apply DN.e_or | apply DN.e_andT | apply DN.e_orT | apply DN.e_chain | apply DN.e_asg | exact DN.o_add | exact DN.o_sub | exact DN.o_eqI | exact DN.o_neI | exact DN.o_I | exact DN.o_neg | exact DN.o_lst | exact DN.o_tup | exact DN.o_isN | exact DN.o_notN | exact DN.o_ty (by rfl) | exact DN.o_inst (by rfl)) | ((with_reducible apply DN.e_var); exact rfl) | exact DN.o_mulL (by decide) | exact DN.o_mulR (by decide) | exact DN.o_div (by decide) (by decide) | exact DN.o_mod (by decide) | exact DN.o_lenL | exact DN.o_lenT | exact DN.o_lenS | exact (show gAdd (.int (m : Nat)) (.int 1) = some (.int ((m + 1 : Nat) : Int)) from rfl)))
      · (repeat' (first | (with_reducible first | exact DN.e_c | exact DN.e_nil | apply DN.e_set | apply DN.e_ret | apply DN.e_bin | apply DN.e_un | apply DN.e_fn | apply DN.e_cons | apply DN.e_b | apply DN.e_notT | apply DN.e_not | apply DN.e_and | apply DN.e_or | apply DN.e_andT | apply DN.e_orT | apply DN.e_chain | apply DN.e_asg | exact DN.o_add | exact DN.o_sub | exact DN.o_eqI | exact DN.o_neI | exact DN.o_I | exact DN.o_neg | exact DN.o_lst | exact DN.o_tup | exact DN.o_isN | exact DN.o_notN | exact DN.o_ty (by rfl) | exact DN.o_inst (by rfl)) | ((with_reducible apply DN.e_var); exact rfl) | exact DN.o_mulL (by decide) | exact DN.o_mulR (by decide) | exact DN.o_div (by decide) (by decide) | exact DN.o_mod (by decide) | exact DN.o_lenL | exact DN.o_lenT | exact DN.o_lenS | exact drawn_eq))
  · rw [if_neg h]
    apply e_seq
    · refine e_if (k := (drawn c (10 * k + 9) % 8 == 3)) ?_ ?_
      · (repeat' (first | (with_reducible first | exact DN.e_c | exact DN.e_nil | apply DN.e_set | apply DN.e_ret | apply DN.e_bin | apply DN.e_un | apply DN.e_fn | apply DN.e_cons | apply DN.e_b | apply DN.e_notT | apply DN.e_not | apply DN.e_and | apply DN.e_or | apply DN.e_andT | apply DN.e_orT | apply DN.e_chain | apply DN.e_asg | exact DN.o_add | exact DN.o_sub | exact DN.o_eqI | exact DN.o_neI | exact DN.o_I | exact DN.o_neg | exact DN.o_lst | exact DN.o_tup | exact DN.o_isN | exact DN.o_notN | exact DN.o_ty (by rfl) | exact DN.o_inst (by rfl)) | ((with_reducible apply DN.e_var); exact rfl) | exact DN.o_mulL (by decide) | exact DN.o_mulR (by decide) | exact DN.o_div (by decide) (by decide) | exact DN.o_mod (by decide) | exact DN.o_lenL | exact DN.o_lenT | exact DN.o_lenS | exact drawn_eq))
      · rw [if_neg (by simpa using h)]
        exact e_nx
    · apply e_ret
      apply e_bin
      · refine e_lcR (g := fun j => drawn c (10 * k + (j : Nat)) % 5 - 2) (e_rng (n := m) ?_ (by omega)) (by omega) fun j hj => ?_
        · (repeat' (first | (with_reducible first | exact DN.e_c | exact DN.e_nil | apply DN.e_set | apply DN.e_ret | apply DN.e_bin | apply DN.e_un | apply DN.e_fn | apply DN.e_cons | apply DN.e_b | apply DN.e_notT | apply DN.e_not | apply DN.e_and | apply DN.e_or | apply DN.e_andT | apply DN.e_orT | apply DN.e_chain | apply DN.e_asg | exact DN.o_add | exact DN.o_sub | exact DN.o_eqI | exact DN.o_neI | exact DN.o_I | exact DN.o_neg | exact DN.o_lst | exact DN.o_tup | exact DN.o_isN | exact DN.o_notN | exact DN.o_ty (by rfl) | exact DN.o_inst (by rfl)) | ((with_reducible apply DN.e_var); exact rfl) | exact DN.o_mulL (by decide) | exact DN.o_mulR (by decide) | exact DN.o_div (by decide) (by decide) | exact DN.o_mod (by decide) | exact DN.o_lenL | exact DN.o_lenT | exact DN.o_lenS))
        · (repeat' (first | (with_reducible first | exact DN.e_c | exact DN.e_nil | apply DN.e_set | apply DN.e_ret | apply DN.e_bin | apply DN.e_un | apply DN.e_fn | apply DN.e_cons | apply DN.e_b | apply DN.e_notT | apply DN.e_not | apply DN.e_and | apply DN.e_or | apply DN.e_andT | apply DN.e_orT | apply DN.e_chain | apply DN.e_asg | exact DN.o_add | exact DN.o_sub | exact DN.o_eqI | exact DN.o_neI | exact DN.o_I | exact DN.o_neg | exact DN.o_lst | exact DN.o_tup | exact DN.o_isN | exact DN.o_notN | exact DN.o_ty (by rfl) | exact DN.o_inst (by rfl)) | ((with_reducible apply DN.e_var); exact rfl) | exact DN.o_mulL (by decide) | exact DN.o_mulR (by decide) | exact DN.o_div (by decide) (by decide) | exact DN.o_mod (by decide) | exact DN.o_lenL | exact DN.o_lenT | exact DN.o_lenS | exact drawn_eq))
      · (repeat' (first | (with_reducible first | exact DN.e_c | exact DN.e_nil | apply DN.e_set | apply DN.e_ret | apply DN.e_bin | apply DN.e_un | apply DN.e_fn | apply DN.e_cons | apply DN.e_b | apply DN.e_notT | apply DN.e_not | apply DN.e_and | apply DN.e_or | apply DN.e_andT | apply DN.e_orT | apply DN.e_chain | apply DN.e_asg | exact DN.o_add | exact DN.o_sub | exact DN.o_eqI | exact DN.o_neI | exact DN.o_I | exact DN.o_neg | exact DN.o_lst | exact DN.o_tup | exact DN.o_isN | exact DN.o_notN | exact DN.o_ty (by rfl) | exact DN.o_inst (by rfl)) | ((with_reducible apply DN.e_var); exact rfl) | exact DN.o_mulL (by decide) | exact DN.o_mulR (by decide) | exact DN.o_div (by decide) (by decide) | exact DN.o_mod (by decide) | exact DN.o_lenL | exact DN.o_lenT | exact DN.o_lenS | exact drawn_eq))
      · exact o_catI (a := (List.range m).map fun j => drawn c (10 * k + (j : Nat)) % 5 - 2) (b := [_]) (by simp; omega)
structure Way where
  asks : List (List Int)
  gives : List (List Int)
def dW (w : Way) : D := .tup [LR w.asks, LR w.gives]
def WayOk (m : Nat) (w : Way) : Prop := w.asks.length ≤ 4 ∧ (∀ r ∈ w.asks, RowOk m r) ∧ w.gives.length = m ∧ ∀ r ∈ w.gives, RowOk m r
def stepF (c : Int) (k : Nat) : Int := drawn c (100 + (k : Nat)) % 7 - 3
def gives1 (c : Int) (m : Nat) : List (List Int) := if drawn c 3 % 4 = 1 ∨ drawn c 3 % 4 = 2 then (List.range m).map fun k : Nat => ((List.range m).map fun j : Nat => if (j : Int) = (k : Int) then 1 else 0) ++ [stepF c k] else (List.range m).map fun k => rowF c (6 + (k : Nat)) m
def asks1 (c : Int) (m : Nat) : List (List Int) := if drawn c 3 % 4 = 2 then ((List.range (drawn c 4 % 4).toNat).map fun k => rowF c (2 + (k : Nat)) m) ++ [(((List.range m).map (stepF c)).map fun x => 0 - x) ++ [drawn c 110 % 9]] else (List.range (drawn c 4 % 4).toNat).map fun k => rowF c (2 + (k : Nat)) m
def gives2 (c : Int) (m : Nat) : List (List Int) := if drawn c 3 % 4 = 3 then (gives1 c m).map fun r => List.replicate m 0 ++ DN.cutD r (some (m : Nat)) none else gives1 c m
def wayF (c : Int) (m : Nat) : Way := ⟨asks1 c m, gives2 c m⟩
theorem gives1_ok (c : Int) (m : Nat) : (gives1 c m).length = m ∧ ∀ r ∈ gives1 c m, RowOk m r := by
  unfold gives1
  split
  · refine ⟨by simp, fun r hr => ?_⟩
    obtain ⟨k, _, rfl⟩ := List.mem_map.mp hr
    refine ⟨by simp, fun x hx => ?_⟩
    rcases List.mem_append.mp hx with hx | hx
    · obtain ⟨j, _, rfl⟩ := List.mem_map.mp hx
      split <;> omega
    · rw [List.mem_singleton.mp hx]
      unfold stepF
      omega
  · refine ⟨by simp, fun r hr => ?_⟩
    obtain ⟨k, _, rfl⟩ := List.mem_map.mp hr
    exact rowF_ok _ _ _
theorem cut_last {α : Type} {r : List α} {m : Nat} (h : r.length = m + 1) : DN.cutD r (some (m : Nat)) none = r.drop m := by
  unfold DN.cutD
  rw [HT.sIx_nat, HT.sIx_none, h, Nat.min_eq_left (by omega)]
  exact List.take_of_length_le (by rw [List.length_drop, h]; omega)
theorem gives2_ok (c : Int) (m : Nat) : (gives2 c m).length = m ∧ ∀ r ∈ gives2 c m, RowOk m r := by
  obtain ⟨h1, h2⟩ := gives1_ok c m
  unfold gives2
  split
  · refine ⟨by rw [List.length_map, h1], fun r hr => ?_⟩
    obtain ⟨q, hq, rfl⟩ := List.mem_map.mp hr
    obtain ⟨q1, q2⟩ := h2 q hq
    rw [cut_last q1]
    refine ⟨by rw [List.length_append, List.length_replicate, List.length_drop, q1]; omega, fun x hx => ?_⟩
    rcases List.mem_append.mp hx with hx | hx
    · rw [List.eq_of_mem_replicate hx]; omega
    · exact q2 x (List.mem_of_mem_drop hx)
  · exact ⟨h1, h2⟩
theorem asks1_ok (c : Int) (m : Nat) : (asks1 c m).length ≤ 4 ∧ ∀ r ∈ asks1 c m, RowOk m r := by
  have h0 : (drawn c 4 % 4).toNat ≤ 3 := by omega
  unfold asks1
  split
  · refine ⟨by simp; omega, fun r hr => ?_⟩
    rcases List.mem_append.mp hr with hr | hr
    · obtain ⟨k, _, rfl⟩ := List.mem_map.mp hr
      exact rowF_ok _ _ _
    · rw [List.mem_singleton.mp hr]
      refine ⟨by simp, fun x hx => ?_⟩
      rcases List.mem_append.mp hx with hx | hx
      · obtain ⟨y, hy, rfl⟩ := List.mem_map.mp hx
        obtain ⟨j, _, rfl⟩ := List.mem_map.mp hy
        unfold stepF
        omega
      · rw [List.mem_singleton.mp hx]
        omega
  · refine ⟨by simp; omega, fun r hr => ?_⟩
    obtain ⟨k, _, rfl⟩ := List.mem_map.mp hr
    exact rowF_ok _ _ _
theorem wayF_ok (c : Int) (m : Nat) : WayOk m (wayF c m) := ⟨(asks1_ok c m).1, (asks1_ok c m).2, (gives2_ok c m).1, (gives2_ok c m).2⟩
theorem beq_or (a b c : Int) : ((a == b) || (a == c)) = decide (a = b ∨ a = c) := by
  by_cases h1 : a = b <;> by_cases h2 : a = c <;> simp [h1, h2]
theorem way_eq {c : Int} {m : Nat} (hm : m ≤ 100) : M_law_way_by [.int c, .int (m : Nat)] = some (dW (wayF c m)) := by
  have h0 : (drawn c 4 % 4).toNat ≤ 3 := by omega
  have h0' : drawn c 4 % 4 = (((drawn c 4 % 4).toNat : Nat) : Int) := by omega
  refine fn_rt (ρ := [some (.int c), some (.int (m : Nat)), none, none, none, none, none, none, none, none]) rfl ?_
  unfold m_law_way_by
  -- mode
  apply e_seq
  · (repeat' (first | (with_reducible first | exact DN.e_c | exact DN.e_nil | apply DN.e_set | apply DN.e_ret | apply DN.e_bin | apply DN.e_un | apply DN.e_fn | apply DN.e_cons | apply DN.e_b | apply DN.e_notT | apply DN.e_not | apply DN.e_and | apply DN.e_or | apply DN.e_andT | apply DN.e_orT | apply DN.e_chain | apply DN.e_asg | exact DN.o_add | exact DN.o_sub | exact DN.o_eqI | exact DN.o_neI | exact DN.o_I | exact DN.o_neg | exact DN.o_lst | exact DN.o_tup | exact DN.o_isN | exact DN.o_notN | exact DN.o_ty (by rfl) | exact DN.o_inst (by rfl)) | ((with_reducible apply DN.e_var); exact rfl) | exact DN.o_mulL (by decide) | exact DN.o_mulR (by decide) | exact DN.o_div (by decide) (by decide) | exact DN.o_mod (by decide) | exact DN.o_lenL | exact DN.o_lenT | exact DN.o_lenS | exact drawn_eq))
  -- asks
  apply e_seq
  · apply e_set
    refine e_lcRR (g := fun k => rowF c (2 + (k : Nat)) m) (e_rng (n := (drawn c 4 % 4).toNat) ?_ (by omega)) (by omega) fun j hj => ?_
    · rw [← h0']
      (repeat' (first | (with_reducible first | exact DN.e_c | exact DN.e_nil | apply DN.e_set | apply DN.e_ret | apply DN.e_bin | apply DN.e_un | apply DN.e_fn | apply DN.e_cons | apply DN.e_b | apply DN.e_notT | apply DN.e_not | apply DN.e_and | apply DN.e_or | apply DN.e_andT | apply DN.e_orT | apply DN.e_chain | apply DN.e_asg | exact DN.o_add | exact DN.o_sub | exact DN.o_eqI | exact DN.o_neI | exact DN.o_I | exact DN.o_neg | exact DN.o_lst | exact DN.o_tup | exact DN.o_isN | exact DN.o_notN | exact DN.o_ty (by rfl) | exact DN.o_inst (by rfl)) | ((with_reducible apply DN.e_var); exact rfl) | exact DN.o_mulL (by decide) | exact DN.o_mulR (by decide) | exact DN.o_div (by decide) (by decide) | exact DN.o_mod (by decide) | exact DN.o_lenL | exact DN.o_lenT | exact DN.o_lenS | exact drawn_eq))
    · (repeat' (first | (with_reducible first | exact DN.e_c | exact DN.e_nil | apply DN.e_set | apply DN.e_ret | apply DN.e_bin | apply DN.e_un | apply DN.e_fn | apply DN.e_cons | apply DN.e_b | apply DN.e_notT | apply DN.e_not | apply DN.e_and | apply DN.e_or | apply DN.e_andT | apply DN.e_orT | apply DN.e_chain | apply DN.e_asg | exact DN.o_add | exact DN.o_sub | exact DN.o_eqI | exact DN.o_neI | exact DN.o_I | exact DN.o_neg | exact DN.o_lst | exact DN.o_tup | exact DN.o_isN | exact DN.o_notN | exact DN.o_ty (by rfl) | exact DN.o_inst (by rfl)) | ((with_reducible apply DN.e_var); exact rfl) | exact DN.o_mulL (by decide) | exact DN.o_mulR (by decide) | exact DN.o_div (by decide) (by decide) | exact DN.o_mod (by decide) | exact DN.o_lenL | exact DN.o_lenT | exact DN.o_lenS | exact row_eq hm))
  -- gives
  apply e_seq
  · apply e_set
    refine e_lcRR (g := fun k => rowF c (6 + (k : Nat)) m) (e_rng (n := m) ?_ (by omega)) (by omega) fun j hj => ?_
    · (repeat' (first | (with_reducible first | exact DN.e_c | exact DN.e_nil | apply DN.e_set | apply DN.e_ret | apply DN.e_bin | apply DN.e_un | apply DN.e_fn | apply DN.e_cons | apply DN.e_b | apply DN.e_notT | apply DN.e_not | apply DN.e_and | apply DN.e_or | apply DN.e_andT | apply DN.e_orT | apply DN.e_chain | apply DN.e_asg | exact DN.o_add | exact DN.o_sub | exact DN.o_eqI | exact DN.o_neI | exact DN.o_I | exact DN.o_neg | exact DN.o_lst | exact DN.o_tup | exact DN.o_isN | exact DN.o_notN | exact DN.o_ty (by rfl) | exact DN.o_inst (by rfl)) | ((with_reducible apply DN.e_var); exact rfl) | exact DN.o_mulL (by decide) | exact DN.o_mulR (by decide) | exact DN.o_div (by decide) (by decide) | exact DN.o_mod (by decide) | exact DN.o_lenL | exact DN.o_lenT | exact DN.o_lenS))
    · (repeat' (first | (with_reducible first | exact DN.e_c | exact DN.e_nil | apply DN.e_set | apply DN.e_ret | apply DN.e_bin | apply DN.e_un | apply DN.e_fn | apply DN.e_cons | apply DN.e_b | apply DN.e_notT | apply DN.e_not | apply DN.e_and | apply DN.e_or | apply DN.e_andT | apply DN.e_orT | apply DN.e_chain | apply DN.e_asg | exact DN.o_add | exact DN.o_sub | exact DN.o_eqI | exact DN.o_neI | exact DN.o_I | exact DN.o_neg | exact DN.o_lst | exact DN.o_tup | exact DN.o_isN | exact DN.o_notN | exact DN.o_ty (by rfl) | exact DN.o_inst (by rfl)) | ((with_reducible apply DN.e_var); exact rfl) | exact DN.o_mulL (by decide) | exact DN.o_mulR (by decide) | exact DN.o_div (by decide) (by decide) | exact DN.o_mod (by decide) | exact DN.o_lenL | exact DN.o_lenT | exact DN.o_lenS | exact row_eq hm))
  -- steps
  apply e_seq
  · apply e_set
    refine e_lcR (g := stepF c) (e_rng (n := m) ?_ (by omega)) (by omega) fun j hj => ?_
    · (repeat' (first | (with_reducible first | exact DN.e_c | exact DN.e_nil | apply DN.e_set | apply DN.e_ret | apply DN.e_bin | apply DN.e_un | apply DN.e_fn | apply DN.e_cons | apply DN.e_b | apply DN.e_notT | apply DN.e_not | apply DN.e_and | apply DN.e_or | apply DN.e_andT | apply DN.e_orT | apply DN.e_chain | apply DN.e_asg | exact DN.o_add | exact DN.o_sub | exact DN.o_eqI | exact DN.o_neI | exact DN.o_I | exact DN.o_neg | exact DN.o_lst | exact DN.o_tup | exact DN.o_isN | exact DN.o_notN | exact DN.o_ty (by rfl) | exact DN.o_inst (by rfl)) | ((with_reducible apply DN.e_var); exact rfl) | exact DN.o_mulL (by decide) | exact DN.o_mulR (by decide) | exact DN.o_div (by decide) (by decide) | exact DN.o_mod (by decide) | exact DN.o_lenL | exact DN.o_lenT | exact DN.o_lenS))
    · unfold stepF
      (repeat' (first | (with_reducible first | exact DN.e_c | exact DN.e_nil | apply DN.e_set | apply DN.e_ret | apply DN.e_bin | apply DN.e_un | apply DN.e_fn | apply DN.e_cons | apply DN.e_b | apply DN.e_notT | apply DN.e_not | apply DN.e_and | apply DN.e_or | apply DN.e_andT | apply DN.e_orT | apply DN.e_chain | apply DN.e_asg | exact DN.o_add | exact DN.o_sub | exact DN.o_eqI | exact DN.o_neI | exact DN.o_I | exact DN.o_neg | exact DN.o_lst | exact DN.o_tup | exact DN.o_isN | exact DN.o_notN | exact DN.o_ty (by rfl) | exact DN.o_inst (by rfl)) | ((with_reducible apply DN.e_var); exact rfl) | exact DN.o_mulL (by decide) | exact DN.o_mulR (by decide) | exact DN.o_div (by decide) (by decide) | exact DN.o_mod (by decide) | exact DN.o_lenL | exact DN.o_lenT | exact DN.o_lenS | exact drawn_eq))
  -- modes 1 and 2
  apply e_seq
  · refine e_ifSet (d := LR (gives1 c m)) (k := (drawn c 3 % 4 == 1) || (drawn c 3 % 4 == 2)) ?_ (fun hk => ?_) (fun hk => ?_)
    · apply e_orT
      · (repeat' (first | (with_reducible first | exact DN.e_c | exact DN.e_nil | apply DN.e_set | apply DN.e_ret | apply DN.e_bin | apply DN.e_un | apply DN.e_fn | apply DN.e_cons | apply DN.e_b | apply DN.e_notT | apply DN.e_not | apply DN.e_and | apply DN.e_or | apply DN.e_andT | apply DN.e_orT | apply DN.e_chain | apply DN.e_asg | exact DN.o_add | exact DN.o_sub | exact DN.o_eqI | exact DN.o_neI | exact DN.o_I | exact DN.o_neg | exact DN.o_lst | exact DN.o_tup | exact DN.o_isN | exact DN.o_notN | exact DN.o_ty (by rfl) | exact DN.o_inst (by rfl)) | ((with_reducible apply DN.e_var); exact rfl) | exact DN.o_mulL (by decide) | exact DN.o_mulR (by decide) | exact DN.o_div (by decide) (by decide) | exact DN.o_mod (by decide) | exact DN.o_lenL | exact DN.o_lenT | exact DN.o_lenS))
      · intro _
        (repeat' (first | (with_reducible first | exact DN.e_c | exact DN.e_nil | apply DN.e_set | apply DN.e_ret | apply DN.e_bin | apply DN.e_un | apply DN.e_fn | apply DN.e_cons | apply DN.e_b | apply DN.e_notT | apply DN.e_not | apply DN.e_and | apply DN.e_or | apply DN.e_andT | apply DN.e_orT | apply DN.e_chain | apply DN.e_asg | exact DN.o_add | exact DN.o_sub | exact DN.o_eqI | exact DN.o_neI | exact DN.o_I | exact DN.o_neg | exact DN.o_lst | exact DN.o_tup | exact DN.o_isN | exact DN.o_notN | exact DN.o_ty (by rfl) | exact DN.o_inst (by rfl)) | ((with_reducible apply DN.e_var); exact rfl) | exact DN.o_mulL (by decide) | exact DN.o_mulR (by decide) | exact DN.o_div (by decide) (by decide) | exact DN.o_mod (by decide) | exact DN.o_lenL | exact DN.o_lenT | exact DN.o_lenS))
    · rw [beq_or] at hk
      unfold gives1
      rw [if_pos (of_decide_eq_true hk)]
      refine e_lcRR (e_rng (n := m) ?_ (by omega)) (by omega) fun j hj => ?_
      · (repeat' (first | (with_reducible first | exact DN.e_c | exact DN.e_nil | apply DN.e_set | apply DN.e_ret | apply DN.e_bin | apply DN.e_un | apply DN.e_fn | apply DN.e_cons | apply DN.e_b | apply DN.e_notT | apply DN.e_not | apply DN.e_and | apply DN.e_or | apply DN.e_andT | apply DN.e_orT | apply DN.e_chain | apply DN.e_asg | exact DN.o_add | exact DN.o_sub | exact DN.o_eqI | exact DN.o_neI | exact DN.o_I | exact DN.o_neg | exact DN.o_lst | exact DN.o_tup | exact DN.o_isN | exact DN.o_notN | exact DN.o_ty (by rfl) | exact DN.o_inst (by rfl)) | ((with_reducible apply DN.e_var); exact rfl) | exact DN.o_mulL (by decide) | exact DN.o_mulR (by decide) | exact DN.o_div (by decide) (by decide) | exact DN.o_mod (by decide) | exact DN.o_lenL | exact DN.o_lenT | exact DN.o_lenS))
      · apply e_bin
        · refine e_lcR (g := fun i => if (i : Int) = (j : Int) then 1 else 0) (e_rng (n := m) ?_ (by omega)) (by omega) fun i hi => ?_
          · (repeat' (first | (with_reducible first | exact DN.e_c | exact DN.e_nil | apply DN.e_set | apply DN.e_ret | apply DN.e_bin | apply DN.e_un | apply DN.e_fn | apply DN.e_cons | apply DN.e_b | apply DN.e_notT | apply DN.e_not | apply DN.e_and | apply DN.e_or | apply DN.e_andT | apply DN.e_orT | apply DN.e_chain | apply DN.e_asg | exact DN.o_add | exact DN.o_sub | exact DN.o_eqI | exact DN.o_neI | exact DN.o_I | exact DN.o_neg | exact DN.o_lst | exact DN.o_tup | exact DN.o_isN | exact DN.o_notN | exact DN.o_ty (by rfl) | exact DN.o_inst (by rfl)) | ((with_reducible apply DN.e_var); exact rfl) | exact DN.o_mulL (by decide) | exact DN.o_mulR (by decide) | exact DN.o_div (by decide) (by decide) | exact DN.o_mod (by decide) | exact DN.o_lenL | exact DN.o_lenT | exact DN.o_lenS))
          · apply e_fn
            · (repeat' (first | (with_reducible first | exact DN.e_c | exact DN.e_nil | apply DN.e_set | apply DN.e_ret | apply DN.e_bin | apply DN.e_un | apply DN.e_fn | apply DN.e_cons | apply DN.e_b | apply DN.e_notT | apply DN.e_not | apply DN.e_and | apply DN.e_or | apply DN.e_andT | apply DN.e_orT | apply DN.e_chain | apply DN.e_asg | exact DN.o_add | exact DN.o_sub | exact DN.o_eqI | exact DN.o_neI | exact DN.o_I | exact DN.o_neg | exact DN.o_lst | exact DN.o_tup | exact DN.o_isN | exact DN.o_notN | exact DN.o_ty (by rfl) | exact DN.o_inst (by rfl)) | ((with_reducible apply DN.e_var); exact rfl) | exact DN.o_mulL (by decide) | exact DN.o_mulR (by decide) | exact DN.o_div (by decide) (by decide) | exact DN.o_mod (by decide) | exact DN.o_lenL | exact DN.o_lenT | exact DN.o_lenS))
            · by_cases hij : (i : Int) = (j : Int)
              · rw [if_pos hij, hij]
                simp [gInt, g1, hInt]
              · rw [if_neg hij]
                have e : ((i : Int) == (j : Int)) = false := by simpa using hij
                rw [e]
                rfl
        · (repeat' (first | (with_reducible first | exact DN.e_c | exact DN.e_nil | apply DN.e_set | apply DN.e_ret | apply DN.e_bin | apply DN.e_un | apply DN.e_fn | apply DN.e_cons | apply DN.e_b | apply DN.e_notT | apply DN.e_not | apply DN.e_and | apply DN.e_or | apply DN.e_andT | apply DN.e_orT | apply DN.e_chain | apply DN.e_asg | exact DN.o_add | exact DN.o_sub | exact DN.o_eqI | exact DN.o_neI | exact DN.o_I | exact DN.o_neg | exact DN.o_lst | exact DN.o_tup | exact DN.o_isN | exact DN.o_notN | exact DN.o_ty (by rfl) | exact DN.o_inst (by rfl)) | ((with_reducible apply DN.e_var); exact rfl) | exact DN.o_mulL (by decide) | exact DN.o_mulR (by decide) | exact DN.o_div (by decide) (by decide) | exact DN.o_mod (by decide) | exact DN.o_lenL | exact DN.o_lenT | exact DN.o_lenS | exact o_ixI (l := (List.range m).map (stepF c)) (k := j) (x := stepF c j) (by rw [List.getElem?_map, List.getElem?_range hj]; rfl)))
        · exact o_catI (b := [_]) (by simp; omega)
    · rw [beq_or] at hk
      unfold gives1
      rw [if_neg (of_decide_eq_false hk)]
      rfl
  -- mode 2
  apply e_seq
  · refine e_ifSet (d := LR (asks1 c m)) (k := drawn c 3 % 4 == 2) ?_ (fun hk => ?_) (fun hk => ?_)
    · (repeat' (first | (with_reducible first | exact DN.e_c | exact DN.e_nil | apply DN.e_set | apply DN.e_ret | apply DN.e_bin | apply DN.e_un | apply DN.e_fn | apply DN.e_cons | apply DN.e_b | apply DN.e_notT | apply DN.e_not | apply DN.e_and | apply DN.e_or | apply DN.e_andT | apply DN.e_orT | apply DN.e_chain | apply DN.e_asg | exact DN.o_add | exact DN.o_sub | exact DN.o_eqI | exact DN.o_neI | exact DN.o_I | exact DN.o_neg | exact DN.o_lst | exact DN.o_tup | exact DN.o_isN | exact DN.o_notN | exact DN.o_ty (by rfl) | exact DN.o_inst (by rfl)) | ((with_reducible apply DN.e_var); exact rfl) | exact DN.o_mulL (by decide) | exact DN.o_mulR (by decide) | exact DN.o_div (by decide) (by decide) | exact DN.o_mod (by decide) | exact DN.o_lenL | exact DN.o_lenT | exact DN.o_lenS))
    · unfold asks1
      rw [if_pos (by simpa using hk)]
      apply e_bin
      · (repeat' (first | (with_reducible first | exact DN.e_c | exact DN.e_nil | apply DN.e_set | apply DN.e_ret | apply DN.e_bin | apply DN.e_un | apply DN.e_fn | apply DN.e_cons | apply DN.e_b | apply DN.e_notT | apply DN.e_not | apply DN.e_and | apply DN.e_or | apply DN.e_andT | apply DN.e_orT | apply DN.e_chain | apply DN.e_asg | exact DN.o_add | exact DN.o_sub | exact DN.o_eqI | exact DN.o_neI | exact DN.o_I | exact DN.o_neg | exact DN.o_lst | exact DN.o_tup | exact DN.o_isN | exact DN.o_notN | exact DN.o_ty (by rfl) | exact DN.o_inst (by rfl)) | ((with_reducible apply DN.e_var); exact rfl) | exact DN.o_mulL (by decide) | exact DN.o_mulR (by decide) | exact DN.o_div (by decide) (by decide) | exact DN.o_mod (by decide) | exact DN.o_lenL | exact DN.o_lenT | exact DN.o_lenS))
      · apply e_fn
        · apply e_cons
          · apply e_bin
            · refine e_lcI (l := (List.range m).map (stepF c)) (g := fun x => 0 - x) (e_lsI ?_) (by simp; omega) fun x hx => ?_
              · (repeat' (first | (with_reducible first | exact DN.e_c | exact DN.e_nil | apply DN.e_set | apply DN.e_ret | apply DN.e_bin | apply DN.e_un | apply DN.e_fn | apply DN.e_cons | apply DN.e_b | apply DN.e_notT | apply DN.e_not | apply DN.e_and | apply DN.e_or | apply DN.e_andT | apply DN.e_orT | apply DN.e_chain | apply DN.e_asg | exact DN.o_add | exact DN.o_sub | exact DN.o_eqI | exact DN.o_neI | exact DN.o_I | exact DN.o_neg | exact DN.o_lst | exact DN.o_tup | exact DN.o_isN | exact DN.o_notN | exact DN.o_ty (by rfl) | exact DN.o_inst (by rfl)) | ((with_reducible apply DN.e_var); exact rfl) | exact DN.o_mulL (by decide) | exact DN.o_mulR (by decide) | exact DN.o_div (by decide) (by decide) | exact DN.o_mod (by decide) | exact DN.o_lenL | exact DN.o_lenT | exact DN.o_lenS))
              · (repeat' (first | (with_reducible first | exact DN.e_c | exact DN.e_nil | apply DN.e_set | apply DN.e_ret | apply DN.e_bin | apply DN.e_un | apply DN.e_fn | apply DN.e_cons | apply DN.e_b | apply DN.e_notT | apply DN.e_not | apply DN.e_and | apply DN.e_or | apply DN.e_andT | apply DN.e_orT | apply DN.e_chain | apply DN.e_asg | exact DN.o_add | exact DN.o_sub | exact DN.o_eqI | exact DN.o_neI | exact DN.o_I | exact DN.o_neg | exact DN.o_lst | exact DN.o_tup | exact DN.o_isN | exact DN.o_notN | exact DN.o_ty (by rfl) | exact DN.o_inst (by rfl)) | ((with_reducible apply DN.e_var); exact rfl) | exact DN.o_mulL (by decide) | exact DN.o_mulR (by decide) | exact DN.o_div (by decide) (by decide) | exact DN.o_mod (by decide) | exact DN.o_lenL | exact DN.o_lenT | exact DN.o_lenS))
            · (repeat' (first | (with_reducible first | exact DN.e_c | exact DN.e_nil | apply DN.e_set | apply DN.e_ret | apply DN.e_bin | apply DN.e_un | apply DN.e_fn | apply DN.e_cons | apply DN.e_b | apply DN.e_notT | apply DN.e_not | apply DN.e_and | apply DN.e_or | apply DN.e_andT | apply DN.e_orT | apply DN.e_chain | apply DN.e_asg | exact DN.o_add | exact DN.o_sub | exact DN.o_eqI | exact DN.o_neI | exact DN.o_I | exact DN.o_neg | exact DN.o_lst | exact DN.o_tup | exact DN.o_isN | exact DN.o_notN | exact DN.o_ty (by rfl) | exact DN.o_inst (by rfl)) | ((with_reducible apply DN.e_var); exact rfl) | exact DN.o_mulL (by decide) | exact DN.o_mulR (by decide) | exact DN.o_div (by decide) (by decide) | exact DN.o_mod (by decide) | exact DN.o_lenL | exact DN.o_lenT | exact DN.o_lenS | exact drawn_eq))
            · exact o_catI (b := [_]) (by simp; omega)
          · exact e_nil
        · rfl
      · exact o_catR (b := [_]) (by simp; omega)
    · unfold asks1
      rw [if_neg (by simpa using hk)]
      rfl
  -- mode 3
  apply e_seq
  · refine e_ifSet (d := LR (gives2 c m)) (k := drawn c 3 % 4 == 3) ?_ (fun hk => ?_) (fun hk => ?_)
    · (repeat' (first | (with_reducible first | exact DN.e_c | exact DN.e_nil | apply DN.e_set | apply DN.e_ret | apply DN.e_bin | apply DN.e_un | apply DN.e_fn | apply DN.e_cons | apply DN.e_b | apply DN.e_notT | apply DN.e_not | apply DN.e_and | apply DN.e_or | apply DN.e_andT | apply DN.e_orT | apply DN.e_chain | apply DN.e_asg | exact DN.o_add | exact DN.o_sub | exact DN.o_eqI | exact DN.o_neI | exact DN.o_I | exact DN.o_neg | exact DN.o_lst | exact DN.o_tup | exact DN.o_isN | exact DN.o_notN | exact DN.o_ty (by rfl) | exact DN.o_inst (by rfl)) | ((with_reducible apply DN.e_var); exact rfl) | exact DN.o_mulL (by decide) | exact DN.o_mulR (by decide) | exact DN.o_div (by decide) (by decide) | exact DN.o_mod (by decide) | exact DN.o_lenL | exact DN.o_lenT | exact DN.o_lenS))
    · unfold gives2
      rw [if_pos (by simpa using hk)]
      refine e_lcLL (l := gives1 c m) (g := fun r => List.replicate m 0 ++ DN.cutD r (some (m : Nat)) none) (e_lsR ?_) (by rw [(gives1_ok c m).1]; omega) fun r hr => ?_
      · (repeat' (first | (with_reducible first | exact DN.e_c | exact DN.e_nil | apply DN.e_set | apply DN.e_ret | apply DN.e_bin | apply DN.e_un | apply DN.e_fn | apply DN.e_cons | apply DN.e_b | apply DN.e_notT | apply DN.e_not | apply DN.e_and | apply DN.e_or | apply DN.e_andT | apply DN.e_orT | apply DN.e_chain | apply DN.e_asg | exact DN.o_add | exact DN.o_sub | exact DN.o_eqI | exact DN.o_neI | exact DN.o_I | exact DN.o_neg | exact DN.o_lst | exact DN.o_tup | exact DN.o_isN | exact DN.o_notN | exact DN.o_ty (by rfl) | exact DN.o_inst (by rfl)) | ((with_reducible apply DN.e_var); exact rfl) | exact DN.o_mulL (by decide) | exact DN.o_mulR (by decide) | exact DN.o_div (by decide) (by decide) | exact DN.o_mod (by decide) | exact DN.o_lenL | exact DN.o_lenT | exact DN.o_lenS))
      · obtain ⟨q1, _⟩ := (gives1_ok c m).2 r hr
        apply e_bin
        · (repeat' (first | (with_reducible first | exact DN.e_c | exact DN.e_nil | apply DN.e_set | apply DN.e_ret | apply DN.e_bin | apply DN.e_un | apply DN.e_fn | apply DN.e_cons | apply DN.e_b | apply DN.e_notT | apply DN.e_not | apply DN.e_and | apply DN.e_or | apply DN.e_andT | apply DN.e_orT | apply DN.e_chain | apply DN.e_asg | exact DN.o_add | exact DN.o_sub | exact DN.o_eqI | exact DN.o_neI | exact DN.o_I | exact DN.o_neg | exact DN.o_lst | exact DN.o_tup | exact DN.o_isN | exact DN.o_notN | exact DN.o_ty (by rfl) | exact DN.o_inst (by rfl)) | ((with_reducible apply DN.e_var); exact rfl) | exact DN.o_mulL (by decide) | exact DN.o_mulR (by decide) | exact DN.o_div (by decide) (by decide) | exact DN.o_mod (by decide) | exact DN.o_lenL | exact DN.o_lenT | exact DN.o_lenS | exact o_zeros (n := m) (by omega)))
        · show (some (LI r)).bind _ = _
          simp only [Option.bind_some]
          show gSl (LI r) (some (m : Nat)) none = some (LI (DN.cutD r (some (m : Nat)) none))
          show some (D.lst (DN.cutD (r.map D.int) (some (m : Nat)) none)) = some (D.lst ((DN.cutD r (some (m : Nat)) none).map D.int))
          unfold DN.cutD
          rw [List.length_map, ← List.map_drop, ← List.map_take]
        · exact o_catI (by rw [cut_last q1, List.length_replicate, List.length_drop, q1]; omega)
    · unfold gives2
      rw [if_neg (by simpa using hk)]
      rfl
  · apply e_ret
    apply e_fn
    · (repeat' (first | (with_reducible first | exact DN.e_c | exact DN.e_nil | apply DN.e_set | apply DN.e_ret | apply DN.e_bin | apply DN.e_un | apply DN.e_fn | apply DN.e_cons | apply DN.e_b | apply DN.e_notT | apply DN.e_not | apply DN.e_and | apply DN.e_or | apply DN.e_andT | apply DN.e_orT | apply DN.e_chain | apply DN.e_asg | exact DN.o_add | exact DN.o_sub | exact DN.o_eqI | exact DN.o_neI | exact DN.o_I | exact DN.o_neg | exact DN.o_lst | exact DN.o_tup | exact DN.o_isN | exact DN.o_notN | exact DN.o_ty (by rfl) | exact DN.o_inst (by rfl)) | ((with_reducible apply DN.e_var); exact rfl) | exact DN.o_mulL (by decide) | exact DN.o_mulR (by decide) | exact DN.o_div (by decide) (by decide) | exact DN.o_mod (by decide) | exact DN.o_lenL | exact DN.o_lenT | exact DN.o_lenS))
    · rfl
end K01

set_option Elab.async false
set_option linter.all false
set_option maxRecDepth 100000
set_option maxHeartbeats 400000
namespace K01
open PySem PySem.Spec PyProof.Rows L2 DN
def farX (x : Int) : Int := pMax (-1000) (pMin 1000 (250 * x))
theorem farX_ok (x : Int) : -1000 ≤ farX x ∧ farX x ≤ 1000 := by
  unfold farX pMax pMin
  split <;> split <;> omega
theorem far_eq {r : List Int} (h : r.length < 1000000) : M_law_far [LI r] = some (LI (r.map farX)) := by
  refine fn_rt (ρ := [some (LI r), none]) rfl ?_
  unfold m_law_far
  apply e_ret
  refine e_lcI (e_lsI ?_) h fun x hx => ?_
  · (repeat' (first | (with_reducible first | exact DN.e_c | exact DN.e_nil | apply DN.e_set | apply DN.e_ret | apply DN.e_bin | apply DN.e_un | apply DN.e_fn | apply DN.e_cons | apply DN.e_b | apply DN.e_notT | apply DN.e_not | apply DN.e_and | apply DN.e_or | apply DN.e_andT | apply DN.e_orT | apply DN.e_chain | apply DN.e_asg | exact DN.o_add | exact DN.o_sub | exact DN.o_eqI | exact DN.o_neI | exact DN.o_I | exact DN.o_neg | exact DN.o_lst | exact DN.o_tup | exact DN.o_isN | exact DN.o_notN | exact DN.o_ty (by rfl) | exact DN.o_inst (by rfl)) | ((with_reducible apply DN.e_var); exact rfl) | exact DN.o_mulL (by decide) | exact DN.o_mulR (by decide) | exact DN.o_div (by decide) (by decide) | exact DN.o_mod (by decide) | exact DN.o_lenL | exact DN.o_lenT | exact DN.o_lenS))
  · (repeat' (first | (with_reducible first | exact DN.e_c | exact DN.e_nil | apply DN.e_set | apply DN.e_ret | apply DN.e_bin | apply DN.e_un | apply DN.e_fn | apply DN.e_cons | apply DN.e_b | apply DN.e_notT | apply DN.e_not | apply DN.e_and | apply DN.e_or | apply DN.e_andT | apply DN.e_orT | apply DN.e_chain | apply DN.e_asg | exact DN.o_add | exact DN.o_sub | exact DN.o_eqI | exact DN.o_neI | exact DN.o_I | exact DN.o_neg | exact DN.o_lst | exact DN.o_tup | exact DN.o_isN | exact DN.o_notN | exact DN.o_ty (by rfl) | exact DN.o_inst (by rfl)) | ((with_reducible apply DN.e_var); exact rfl) | exact DN.o_mulL (by decide) | exact DN.o_mulR (by decide) | exact DN.o_div (by decide) (by decide) | exact DN.o_mod (by decide) | exact DN.o_lenL | exact DN.o_lenT | exact DN.o_lenS | exact (show g2 pMin [.int 1000, .int (250 * x)] = some (.int (pMin 1000 (250 * x))) from rfl) | exact (show g2 pMax [.int (-1000), .int (pMin 1000 (250 * x))] = some (.int (farX x)) from rfl)))
def farW (w : Way) : Way := ⟨w.asks.map fun r => r.map farX, w.gives.map fun r => r.map farX⟩
theorem farR_ok {m : Nat} {r : List Int} (h : RowOk m r) : RowOk m (r.map farX) := ⟨by rw [List.length_map]; exact h.1, fun x hx => by
  obtain ⟨y, _, rfl⟩ := List.mem_map.mp hx
  exact farX_ok y⟩
theorem farW_ok {m : Nat} {w : Way} (h : WayOk m w) : WayOk m (farW w) := by
  obtain ⟨h1, h2, h3, h4⟩ := h
  refine ⟨by unfold farW; rw [List.length_map]; exact h1, fun r hr => ?_, by unfold farW; rw [List.length_map]; exact h3, fun r hr => ?_⟩
  · obtain ⟨q, hq, rfl⟩ := List.mem_map.mp hr
    exact farR_ok (h2 q hq)
  · obtain ⟨q, hq, rfl⟩ := List.mem_map.mp hr
    exact farR_ok (h4 q hq)
structure Lp where
  many : Nat
  ways : List Way
def dL (L : Lp) : D := .tup [.int (L.many : Nat), .lst (L.ways.map dW)]
structure LpOk (L : Lp) : Prop where
  m1 : 1 ≤ L.many
  m3 : L.many ≤ 3
  w1 : 1 ≤ L.ways.length
  w3 : L.ways.length ≤ 3
  ok : ∀ w ∈ L.ways, WayOk L.many w
def manyF (c : Int) : Nat := (([1, 2, 3, 1, 2, 2, 1, 3] : List Nat)[(c % 8).toNat]?).getD 1
def sizeF (c : Int) : Nat := (([1, 2, 1, 1, 2, 1, 3] : List Nat)[(c / 8 % 7).toNat]?).getD 1
theorem many_at (c : Int) : 1 ≤ manyF c ∧ manyF c ≤ 3 ∧ gIx (.lst [.int 1, .int 2, .int 3, .int 1, .int 2, .int 2, .int 1, .int 3]) (.int (c % 8)) = some (.int (manyF c : Nat)) := by
  unfold manyF
  have h : c % 8 = 0 ∨ c % 8 = 1 ∨ c % 8 = 2 ∨ c % 8 = 3 ∨ c % 8 = 4 ∨ c % 8 = 5 ∨ c % 8 = 6 ∨ c % 8 = 7 := by omega
  rcases h with h | h | h | h | h | h | h | h <;> rw [h] <;> exact ⟨by decide, by decide, rfl⟩
theorem size_at (c : Int) : 1 ≤ sizeF c ∧ sizeF c ≤ 3 ∧ gIx (.lst [.int 1, .int 2, .int 1, .int 1, .int 2, .int 1, .int 3]) (.int (c / 8 % 7)) = some (.int (sizeF c : Nat)) := by
  unfold sizeF
  have h : c / 8 % 7 = 0 ∨ c / 8 % 7 = 1 ∨ c / 8 % 7 = 2 ∨ c / 8 % 7 = 3 ∨ c / 8 % 7 = 4 ∨ c / 8 % 7 = 5 ∨ c / 8 % 7 = 6 := by omega
  rcases h with h | h | h | h | h | h | h <;> rw [h] <;> exact ⟨by decide, by decide, rfl⟩
def ways0 (ns : List Int) (at_ : Nat) : List Way := (List.range (sizeF (cell ns at_))).map fun k => wayF (cell ns (at_ + 1 + k)) (manyF (cell ns at_))
def loopF (ns : List Int) (at_ : Nat) : Lp := ⟨manyF (cell ns at_), if cell ns at_ / 56 % 8 = 5 then (ways0 ns at_).map farW else ways0 ns at_⟩
theorem ways0_ok (ns : List Int) (at_ : Nat) : ∀ w ∈ ways0 ns at_, WayOk (manyF (cell ns at_)) w := fun w hw => by
  obtain ⟨k, _, rfl⟩ := List.mem_map.mp hw
  exact wayF_ok _ _
theorem loopF_ok (ns : List Int) (at_ : Nat) : LpOk (loopF ns at_) := by
  obtain ⟨a1, a2, _⟩ := many_at (cell ns at_)
  obtain ⟨b1, b2, _⟩ := size_at (cell ns at_)
  have hl : (ways0 ns at_).length = sizeF (cell ns at_) := by unfold ways0; simp
  unfold loopF
  split
  · refine ⟨a1, a2, by simp only [List.length_map]; omega, by simp only [List.length_map]; omega, fun w hw => ?_⟩
    obtain ⟨v, hv, rfl⟩ := List.mem_map.mp hw
    exact farW_ok (ways0_ok ns at_ v hv)
  · exact ⟨a1, a2, by simp only; omega, by simp only; omega, ways0_ok ns at_⟩
theorem row_len {m : Nat} {w : Way} (hm : m ≤ 3) (h : WayOk m w) : w.asks.length < 1000000 ∧ w.gives.length < 1000000 ∧ (∀ r ∈ w.asks, r.length < 1000000) ∧ ∀ r ∈ w.gives, r.length < 1000000 := by
  obtain ⟨h1, h2, h3, h4⟩ := h
  exact ⟨by omega, by omega, fun r hr => by have := (h2 r hr).1; omega, fun r hr => by have := (h4 r hr).1; omega⟩
theorem far_loop {m : Nat} {a0 a1 a2 a3 a4 a5 a6 : Option D} (hm : m ≤ 3) : ∀ (ws : List Way) (acc : List D) (x8 x9 x10 : Option D), (∀ w ∈ ws, WayOk m w) → acc.length + ws.length < 1000 → ∃ y8 y9 y10,
    forGo [7] (bd2 8 9) (sApp 7 (ev false [7] (dFn (fun ds => some (.tup ds)) (dCons (dLc [10] (dLs (dVar 8)) (bd1 10) tYesD (dFn M_law_far (dCons (dVar 10) dNil))) (dCons (dLc [10] (dLs (dVar 9)) (bd1 10) tYesD (dFn M_law_far (dCons (dVar 10) dNil))) dNil))))) (ws.map dW)
      [a0, a1, a2, a3, a4, a5, a6, some (.lst acc), x8, x9, x10] = some (.nx [a0, a1, a2, a3, a4, a5, a6, some (.lst (acc ++ (ws.map farW).map dW)), y8, y9, y10])
  | [], acc, x8, x9, x10, _, _ => ⟨x8, x9, x10, by simp [forGo]⟩
  | w :: ws, acc, x8, x9, x10, h, hl => by
    obtain ⟨l1, l2, l3, l4⟩ := row_len hm (h w List.mem_cons_self)
    rw [List.length_cons] at hl
    obtain ⟨y8, y9, y10, e⟩ := far_loop hm ws (acc ++ [dW (farW w)]) (some (LR w.asks)) (some (LR w.gives)) x10 (fun v hv => h v (List.mem_cons_of_mem _ hv)) (by rw [List.length_append, List.length_singleton]; omega)
    refine ⟨y8, y9, y10, ?_⟩
    rw [List.map_cons, forGo]
    have hb : bd2 8 9 (dW w) (wipeD [a0, a1, a2, a3, a4, a5, a6, some (D.lst acc), x8, x9, x10] [7]) = some [a0, a1, a2, a3, a4, a5, a6, none, some (LR w.asks), some (LR w.gives), x10] := rfl
    rw [hb]
    simp only [Option.bind_some]
    have hg : mrg [7] [a0, a1, a2, a3, a4, a5, a6, some (D.lst acc), x8, x9, x10] [a0, a1, a2, a3, a4, a5, a6, none, some (LR w.asks), some (LR w.gives), x10] = [a0, a1, a2, a3, a4, a5, a6, some (D.lst acc), some (LR w.asks), some (LR w.gives), x10] := rfl
    rw [hg, e_app (d := dW (farW w)) (ds := acc) ?_ rfl (by omega)]
    · simp only [Option.bind_some]
      have hs : (List.set [a0, a1, a2, a3, a4, a5, a6, some (D.lst acc), some (LR w.asks), some (LR w.gives), x10] 7 (some (D.lst (acc ++ [dW (farW w)])))) = [a0, a1, a2, a3, a4, a5, a6, some (D.lst (acc ++ [dW (farW w)])), some (LR w.asks), some (LR w.gives), x10] := rfl
      rw [hs, e]
      simp [List.append_assoc]
    · apply e_fn
      · apply e_cons
        · refine e_lcLL (l := w.asks) (g := fun r => r.map farX) (e_lsR ?_) l1 fun r hr => ?_
          · (repeat' (first | (with_reducible first | exact DN.e_c | exact DN.e_nil | apply DN.e_set | apply DN.e_ret | apply DN.e_bin | apply DN.e_un | apply DN.e_fn | apply DN.e_cons | apply DN.e_b | apply DN.e_notT | apply DN.e_not | apply DN.e_and | apply DN.e_or | apply DN.e_andT | apply DN.e_orT | apply DN.e_chain | apply DN.e_asg | exact DN.o_add | exact DN.o_sub | exact DN.o_eqI | exact DN.o_neI | exact DN.o_I | exact DN.o_neg | exact DN.o_lst | exact DN.o_tup | exact DN.o_isN | exact DN.o_notN | exact DN.o_ty (by rfl) | exact DN.o_inst (by rfl)) | ((with_reducible apply DN.e_var); exact rfl) | exact DN.o_mulL (by decide) | exact DN.o_mulR (by decide) | exact DN.o_div (by decide) (by decide) | exact DN.o_mod (by decide) | exact DN.o_lenL | exact DN.o_lenT | exact DN.o_lenS))
          · (repeat' (first | (with_reducible first | exact DN.e_c | exact DN.e_nil | apply DN.e_set | apply DN.e_ret | apply DN.e_bin | apply DN.e_un | apply DN.e_fn | apply DN.e_cons | apply DN.e_b | apply DN.e_notT | apply DN.e_not | apply DN.e_and | apply DN.e_or | apply DN.e_andT | apply DN.e_orT | apply DN.e_chain | apply DN.e_asg | exact DN.o_add | exact DN.o_sub | exact DN.o_eqI | exact DN.o_neI | exact DN.o_I | exact DN.o_neg | exact DN.o_lst | exact DN.o_tup | exact DN.o_isN | exact DN.o_notN | exact DN.o_ty (by rfl) | exact DN.o_inst (by rfl)) | ((with_reducible apply DN.e_var); exact rfl) | exact DN.o_mulL (by decide) | exact DN.o_mulR (by decide) | exact DN.o_div (by decide) (by decide) | exact DN.o_mod (by decide) | exact DN.o_lenL | exact DN.o_lenT | exact DN.o_lenS | exact far_eq (l3 r hr)))
        · apply e_cons
          · refine e_lcLL (l := w.gives) (g := fun r => r.map farX) (e_lsR ?_) l2 fun r hr => ?_
            · (repeat' (first | (with_reducible first | exact DN.e_c | exact DN.e_nil | apply DN.e_set | apply DN.e_ret | apply DN.e_bin | apply DN.e_un | apply DN.e_fn | apply DN.e_cons | apply DN.e_b | apply DN.e_notT | apply DN.e_not | apply DN.e_and | apply DN.e_or | apply DN.e_andT | apply DN.e_orT | apply DN.e_chain | apply DN.e_asg | exact DN.o_add | exact DN.o_sub | exact DN.o_eqI | exact DN.o_neI | exact DN.o_I | exact DN.o_neg | exact DN.o_lst | exact DN.o_tup | exact DN.o_isN | exact DN.o_notN | exact DN.o_ty (by rfl) | exact DN.o_inst (by rfl)) | ((with_reducible apply DN.e_var); exact rfl) | exact DN.o_mulL (by decide) | exact DN.o_mulR (by decide) | exact DN.o_div (by decide) (by decide) | exact DN.o_mod (by decide) | exact DN.o_lenL | exact DN.o_lenT | exact DN.o_lenS))
            · (repeat' (first | (with_reducible first | exact DN.e_c | exact DN.e_nil | apply DN.e_set | apply DN.e_ret | apply DN.e_bin | apply DN.e_un | apply DN.e_fn | apply DN.e_cons | apply DN.e_b | apply DN.e_notT | apply DN.e_not | apply DN.e_and | apply DN.e_or | apply DN.e_andT | apply DN.e_orT | apply DN.e_chain | apply DN.e_asg | exact DN.o_add | exact DN.o_sub | exact DN.o_eqI | exact DN.o_neI | exact DN.o_I | exact DN.o_neg | exact DN.o_lst | exact DN.o_tup | exact DN.o_isN | exact DN.o_notN | exact DN.o_ty (by rfl) | exact DN.o_inst (by rfl)) | ((with_reducible apply DN.e_var); exact rfl) | exact DN.o_mulL (by decide) | exact DN.o_mulR (by decide) | exact DN.o_div (by decide) (by decide) | exact DN.o_mod (by decide) | exact DN.o_lenL | exact DN.o_lenT | exact DN.o_lenS | exact far_eq (l4 r hr)))
          · exact e_nil
      · rfl
theorem loop_eq {ns : List Int} {at_ : Nat} : M_law_loop_by [.scr ns, .int (at_ : Nat)] = some (dL (loopF ns at_)) := by
  obtain ⟨a1, a2, a3⟩ := many_at (cell ns at_)
  obtain ⟨b1, b2, b3⟩ := size_at (cell ns at_)
  refine fn_rt (ρ := [some (.scr ns), some (.int (at_ : Nat)), none, none, none, none, none, none, none, none, none]) rfl ?_
  unfold m_law_loop_by
  apply e_seq
  · (repeat' (first | (with_reducible first | exact DN.e_c | exact DN.e_nil | apply DN.e_set | apply DN.e_ret | apply DN.e_bin | apply DN.e_un | apply DN.e_fn | apply DN.e_cons | apply DN.e_b | apply DN.e_notT | apply DN.e_not | apply DN.e_and | apply DN.e_or | apply DN.e_andT | apply DN.e_orT | apply DN.e_chain | apply DN.e_asg | exact DN.o_add | exact DN.o_sub | exact DN.o_eqI | exact DN.o_neI | exact DN.o_I | exact DN.o_neg | exact DN.o_lst | exact DN.o_tup | exact DN.o_isN | exact DN.o_notN | exact DN.o_ty (by rfl) | exact DN.o_inst (by rfl)) | ((with_reducible apply DN.e_var); exact rfl) | exact DN.o_mulL (by decide) | exact DN.o_mulR (by decide) | exact DN.o_div (by decide) (by decide) | exact DN.o_mod (by decide) | exact DN.o_lenL | exact DN.o_lenT | exact DN.o_lenS | exact cell_eq))
  apply e_seq
  · (repeat' (first | (with_reducible first | exact DN.e_c | exact DN.e_nil | apply DN.e_set | apply DN.e_ret | apply DN.e_bin | apply DN.e_un | apply DN.e_fn | apply DN.e_cons | apply DN.e_b | apply DN.e_notT | apply DN.e_not | apply DN.e_and | apply DN.e_or | apply DN.e_andT | apply DN.e_orT | apply DN.e_chain | apply DN.e_asg | exact DN.o_add | exact DN.o_sub | exact DN.o_eqI | exact DN.o_neI | exact DN.o_I | exact DN.o_neg | exact DN.o_lst | exact DN.o_tup | exact DN.o_isN | exact DN.o_notN | exact DN.o_ty (by rfl) | exact DN.o_inst (by rfl)) | ((with_reducible apply DN.e_var); exact rfl) | exact DN.o_mulL (by decide) | exact DN.o_mulR (by decide) | exact DN.o_div (by decide) (by decide) | exact DN.o_mod (by decide) | exact DN.o_lenL | exact DN.o_lenT | exact DN.o_lenS | exact a3))
  apply e_seq
  · (repeat' (first | (with_reducible first | exact DN.e_c | exact DN.e_nil | apply DN.e_set | apply DN.e_ret | apply DN.e_bin | apply DN.e_un | apply DN.e_fn | apply DN.e_cons | apply DN.e_b | apply DN.e_notT | apply DN.e_not | apply DN.e_and | apply DN.e_or | apply DN.e_andT | apply DN.e_orT | apply DN.e_chain | apply DN.e_asg | exact DN.o_add | exact DN.o_sub | exact DN.o_eqI | exact DN.o_neI | exact DN.o_I | exact DN.o_neg | exact DN.o_lst | exact DN.o_tup | exact DN.o_isN | exact DN.o_notN | exact DN.o_ty (by rfl) | exact DN.o_inst (by rfl)) | ((with_reducible apply DN.e_var); exact rfl) | exact DN.o_mulL (by decide) | exact DN.o_mulR (by decide) | exact DN.o_div (by decide) (by decide) | exact DN.o_mod (by decide) | exact DN.o_lenL | exact DN.o_lenT | exact DN.o_lenS | exact b3))
  apply e_seq
  · apply e_set
    refine e_lc (l := List.range (sizeF (cell ns at_))) (emb := fun k : Nat => D.int (k : Nat)) (f := fun k => dW (wayF (cell ns (at_ + 1 + k)) (manyF (cell ns at_)))) (e_rng (n := sizeF (cell ns at_)) ?_ (by omega)) (by simp; omega) fun j hj => ?_
    · (repeat' (first | (with_reducible first | exact DN.e_c | exact DN.e_nil | apply DN.e_set | apply DN.e_ret | apply DN.e_bin | apply DN.e_un | apply DN.e_fn | apply DN.e_cons | apply DN.e_b | apply DN.e_notT | apply DN.e_not | apply DN.e_and | apply DN.e_or | apply DN.e_andT | apply DN.e_orT | apply DN.e_chain | apply DN.e_asg | exact DN.o_add | exact DN.o_sub | exact DN.o_eqI | exact DN.o_neI | exact DN.o_I | exact DN.o_neg | exact DN.o_lst | exact DN.o_tup | exact DN.o_isN | exact DN.o_notN | exact DN.o_ty (by rfl) | exact DN.o_inst (by rfl)) | ((with_reducible apply DN.e_var); exact rfl) | exact DN.o_mulL (by decide) | exact DN.o_mulR (by decide) | exact DN.o_div (by decide) (by decide) | exact DN.o_mod (by decide) | exact DN.o_lenL | exact DN.o_lenT | exact DN.o_lenS))
    · (repeat' (first | (with_reducible first | exact DN.e_c | exact DN.e_nil | apply DN.e_set | apply DN.e_ret | apply DN.e_bin | apply DN.e_un | apply DN.e_fn | apply DN.e_cons | apply DN.e_b | apply DN.e_notT | apply DN.e_not | apply DN.e_and | apply DN.e_or | apply DN.e_andT | apply DN.e_orT | apply DN.e_chain | apply DN.e_asg | exact DN.o_add | exact DN.o_sub | exact DN.o_eqI | exact DN.o_neI | exact DN.o_I | exact DN.o_neg | exact DN.o_lst | exact DN.o_tup | exact DN.o_isN | exact DN.o_notN | exact DN.o_ty (by rfl) | exact DN.o_inst (by rfl)) | ((with_reducible apply DN.e_var); exact rfl) | exact DN.o_mulL (by decide) | exact DN.o_mulR (by decide) | exact DN.o_div (by decide) (by decide) | exact DN.o_mod (by decide) | exact DN.o_lenL | exact DN.o_lenT | exact DN.o_lenS | exact (show M_law_cell_at [.scr ns, .int ((at_ : Nat) + 1 + (j : Nat))] = some (.int (cell ns (at_ + 1 + j))) from cell_eq (k := at_ + 1 + j)) | exact way_eq (c := cell ns (at_ + 1 + j)) (m := manyF (cell ns at_)) (by omega)))
  -- far ones
  have hw : (List.range (sizeF (cell ns at_))).map (fun k => dW (wayF (cell ns (at_ + 1 + k)) (manyF (cell ns at_)))) = (ways0 ns at_).map dW := by
    unfold ways0
    rw [List.map_map]
    rfl
  rw [hw]
  have hl : (ways0 ns at_).length = sizeF (cell ns at_) := by unfold ways0; simp
  by_cases h : cell ns at_ / 56 % 8 = 5
  · obtain ⟨y8, y9, y10, e⟩ := far_loop (a0 := some (.scr ns)) (a1 := some (.int (at_ : Nat))) (a2 := some (.int (cell ns at_))) (a3 := some (.int (manyF (cell ns at_) : Nat))) (a4 := some (.int (sizeF (cell ns at_) : Nat))) (a5 := some (.lst ((ways0 ns at_).map dW))) (a6 := none) a2 (ways0 ns at_) [] none none none (ways0_ok ns at_) (by rw [hl]; simp; omega)
    apply e_seq
    · refine e_if (k := (cell ns at_ / 56 % 8 == 5)) ?_ ?_
      · (repeat' (first | (with_reducible first | exact DN.e_c | exact DN.e_nil | apply DN.e_set | apply DN.e_ret | apply DN.e_bin | apply DN.e_un | apply DN.e_fn | apply DN.e_cons | apply DN.e_b | apply DN.e_notT | apply DN.e_not | apply DN.e_and | apply DN.e_or | apply DN.e_andT | apply DN.e_orT | apply DN.e_chain | apply DN.e_asg | exact DN.o_add | exact DN.o_sub | exact DN.o_eqI | exact DN.o_neI | exact DN.o_I | exact DN.o_neg | exact DN.o_lst | exact DN.o_tup | exact DN.o_isN | exact DN.o_notN | exact DN.o_ty (by rfl) | exact DN.o_inst (by rfl)) | ((with_reducible apply DN.e_var); exact rfl) | exact DN.o_mulL (by decide) | exact DN.o_mulR (by decide) | exact DN.o_div (by decide) (by decide) | exact DN.o_mod (by decide) | exact DN.o_lenL | exact DN.o_lenT | exact DN.o_lenS))
      · rw [if_pos (by simpa using h)]
        apply e_seq
        · exact (rfl : sLst 7 [] dNil _ = some (.nx _))
        · apply e_seq
          · unfold sFor
            rw [show (dLs (dVar 5) (wipeD _ [7])) = some ((ways0 ns at_).map dW) from rfl]
            simp only [Option.bind_some]
            exact e
          · (repeat' (first | (with_reducible first | exact DN.e_c | exact DN.e_nil | apply DN.e_set | apply DN.e_ret | apply DN.e_bin | apply DN.e_un | apply DN.e_fn | apply DN.e_cons | apply DN.e_b | apply DN.e_notT | apply DN.e_not | apply DN.e_and | apply DN.e_or | apply DN.e_andT | apply DN.e_orT | apply DN.e_chain | apply DN.e_asg | exact DN.o_add | exact DN.o_sub | exact DN.o_eqI | exact DN.o_neI | exact DN.o_I | exact DN.o_neg | exact DN.o_lst | exact DN.o_tup | exact DN.o_isN | exact DN.o_notN | exact DN.o_ty (by rfl) | exact DN.o_inst (by rfl)) | ((with_reducible apply DN.e_var); exact rfl) | exact DN.o_mulL (by decide) | exact DN.o_mulR (by decide) | exact DN.o_div (by decide) (by decide) | exact DN.o_mod (by decide) | exact DN.o_lenL | exact DN.o_lenT | exact DN.o_lenS))
    · unfold loopF
      rw [if_pos h]
      apply e_ret
      apply e_fn
      · (repeat' (first | (with_reducible first | exact DN.e_c | exact DN.e_nil | apply DN.e_set | apply DN.e_ret | apply DN.e_bin | apply DN.e_un | apply DN.e_fn | apply DN.e_cons | apply DN.e_b | apply DN.e_notT | apply DN.e_not | apply DN.e_and | apply DN.e_or | apply DN.e_andT | apply DN.e_orT | apply DN.e_chain | apply DN.e_asg | exact DN.o_add | exact DN.o_sub | exact DN.o_eqI | exact DN.o_neI | exact DN.o_I | exact DN.o_neg | exact DN.o_lst | exact DN.o_tup | exact DN.o_isN | exact DN.o_notN | exact DN.o_ty (by rfl) | exact DN.o_inst (by rfl)) | ((with_reducible apply DN.e_var); exact rfl) | exact DN.o_mulL (by decide) | exact DN.o_mulR (by decide) | exact DN.o_div (by decide) (by decide) | exact DN.o_mod (by decide) | exact DN.o_lenL | exact DN.o_lenT | exact DN.o_lenS))
      · rfl
  · apply e_seq
    · refine e_if (k := (cell ns at_ / 56 % 8 == 5)) ?_ ?_
      · (repeat' (first | (with_reducible first | exact DN.e_c | exact DN.e_nil | apply DN.e_set | apply DN.e_ret | apply DN.e_bin | apply DN.e_un | apply DN.e_fn | apply DN.e_cons | apply DN.e_b | apply DN.e_notT | apply DN.e_not | apply DN.e_and | apply DN.e_or | apply DN.e_andT | apply DN.e_orT | apply DN.e_chain | apply DN.e_asg | exact DN.o_add | exact DN.o_sub | exact DN.o_eqI | exact DN.o_neI | exact DN.o_I | exact DN.o_neg | exact DN.o_lst | exact DN.o_tup | exact DN.o_isN | exact DN.o_notN | exact DN.o_ty (by rfl) | exact DN.o_inst (by rfl)) | ((with_reducible apply DN.e_var); exact rfl) | exact DN.o_mulL (by decide) | exact DN.o_mulR (by decide) | exact DN.o_div (by decide) (by decide) | exact DN.o_mod (by decide) | exact DN.o_lenL | exact DN.o_lenT | exact DN.o_lenS))
      · rw [if_neg (by simpa using h)]
        exact e_nx
    · unfold loopF
      rw [if_neg h]
      apply e_ret
      apply e_fn
      · (repeat' (first | (with_reducible first | exact DN.e_c | exact DN.e_nil | apply DN.e_set | apply DN.e_ret | apply DN.e_bin | apply DN.e_un | apply DN.e_fn | apply DN.e_cons | apply DN.e_b | apply DN.e_notT | apply DN.e_not | apply DN.e_and | apply DN.e_or | apply DN.e_andT | apply DN.e_orT | apply DN.e_chain | apply DN.e_asg | exact DN.o_add | exact DN.o_sub | exact DN.o_eqI | exact DN.o_neI | exact DN.o_I | exact DN.o_neg | exact DN.o_lst | exact DN.o_tup | exact DN.o_isN | exact DN.o_notN | exact DN.o_ty (by rfl) | exact DN.o_inst (by rfl)) | ((with_reducible apply DN.e_var); exact rfl) | exact DN.o_mulL (by decide) | exact DN.o_mulR (by decide) | exact DN.o_div (by decide) (by decide) | exact DN.o_mod (by decide) | exact DN.o_lenL | exact DN.o_lenT | exact DN.o_lenS))
      · rfl
/-! copies -/
def Cp : Nat → D → Prop
  | 0, _ => False
  | _ + 1, .int _ => True
  | n + 1, .lst ds => ds.length < 1000000 ∧ ∀ d ∈ ds, Cp n d
  | n + 1, .tup ds => ds.length < 1000000 ∧ ∀ d ∈ ds, Cp n d
  | _ + 1, _ => False
theorem copied_eq : ∀ (n : Nat) (d : D), Cp n d → M_law_copied_n n [d] = some d
  | n + 1, .int i, _ => by
    refine fn_rt (ρ := [some (.int i), none]) rfl ?_
    unfold m_law_copied
    apply e_seq
    · apply e_ifF
      · (repeat' (first | (with_reducible first | exact DN.e_c | exact DN.e_nil | apply DN.e_set | apply DN.e_ret | apply DN.e_bin | apply DN.e_un | apply DN.e_fn | apply DN.e_cons | apply DN.e_b | apply DN.e_notT | apply DN.e_not | apply DN.e_and | apply DN.e_or | apply DN.e_andT | apply DN.e_orT | apply DN.e_chain | apply DN.e_asg | exact DN.o_add | exact DN.o_sub | exact DN.o_eqI | exact DN.o_neI | exact DN.o_I | exact DN.o_neg | exact DN.o_lst | exact DN.o_tup | exact DN.o_isN | exact DN.o_notN | exact DN.o_ty (by rfl) | exact DN.o_inst (by rfl)) | ((with_reducible apply DN.e_var); exact rfl) | exact DN.o_mulL (by decide) | exact DN.o_mulR (by decide) | exact DN.o_div (by decide) (by decide) | exact DN.o_mod (by decide) | exact DN.o_lenL | exact DN.o_lenT | exact DN.o_lenS))
        rfl
      · exact e_nx
    · apply e_seq
      · apply e_ifF
        · (repeat' (first | (with_reducible first | exact DN.e_c | exact DN.e_nil | apply DN.e_set | apply DN.e_ret | apply DN.e_bin | apply DN.e_un | apply DN.e_fn | apply DN.e_cons | apply DN.e_b | apply DN.e_notT | apply DN.e_not | apply DN.e_and | apply DN.e_or | apply DN.e_andT | apply DN.e_orT | apply DN.e_chain | apply DN.e_asg | exact DN.o_add | exact DN.o_sub | exact DN.o_eqI | exact DN.o_neI | exact DN.o_I | exact DN.o_neg | exact DN.o_lst | exact DN.o_tup | exact DN.o_isN | exact DN.o_notN | exact DN.o_ty (by rfl) | exact DN.o_inst (by rfl)) | ((with_reducible apply DN.e_var); exact rfl) | exact DN.o_mulL (by decide) | exact DN.o_mulR (by decide) | exact DN.o_div (by decide) (by decide) | exact DN.o_mod (by decide) | exact DN.o_lenL | exact DN.o_lenT | exact DN.o_lenS))
          rfl
        · exact e_nx
      · (repeat' (first | (with_reducible first | exact DN.e_c | exact DN.e_nil | apply DN.e_set | apply DN.e_ret | apply DN.e_bin | apply DN.e_un | apply DN.e_fn | apply DN.e_cons | apply DN.e_b | apply DN.e_notT | apply DN.e_not | apply DN.e_and | apply DN.e_or | apply DN.e_andT | apply DN.e_orT | apply DN.e_chain | apply DN.e_asg | exact DN.o_add | exact DN.o_sub | exact DN.o_eqI | exact DN.o_neI | exact DN.o_I | exact DN.o_neg | exact DN.o_lst | exact DN.o_tup | exact DN.o_isN | exact DN.o_notN | exact DN.o_ty (by rfl) | exact DN.o_inst (by rfl)) | ((with_reducible apply DN.e_var); exact rfl) | exact DN.o_mulL (by decide) | exact DN.o_mulR (by decide) | exact DN.o_div (by decide) (by decide) | exact DN.o_mod (by decide) | exact DN.o_lenL | exact DN.o_lenT | exact DN.o_lenS))
  | n + 1, .lst ds, h => by
    refine fn_rt (ρ := [some (.lst ds), none]) rfl ?_
    unfold m_law_copied
    apply e_seqR
    apply e_ifT
    · (repeat' (first | (with_reducible first | exact DN.e_c | exact DN.e_nil | apply DN.e_set | apply DN.e_ret | apply DN.e_bin | apply DN.e_un | apply DN.e_fn | apply DN.e_cons | apply DN.e_b | apply DN.e_notT | apply DN.e_not | apply DN.e_and | apply DN.e_or | apply DN.e_andT | apply DN.e_orT | apply DN.e_chain | apply DN.e_asg | exact DN.o_add | exact DN.o_sub | exact DN.o_eqI | exact DN.o_neI | exact DN.o_I | exact DN.o_neg | exact DN.o_lst | exact DN.o_tup | exact DN.o_isN | exact DN.o_notN | exact DN.o_ty (by rfl) | exact DN.o_inst (by rfl)) | ((with_reducible apply DN.e_var); exact rfl) | exact DN.o_mulL (by decide) | exact DN.o_mulR (by decide) | exact DN.o_div (by decide) (by decide) | exact DN.o_mod (by decide) | exact DN.o_lenL | exact DN.o_lenT | exact DN.o_lenS))
      rfl
    · apply e_ret
      refine e_lcAll (e_ls ?_) h.1 fun d hd => ⟨rfl, ?_⟩
      · (repeat' (first | (with_reducible first | exact DN.e_c | exact DN.e_nil | apply DN.e_set | apply DN.e_ret | apply DN.e_bin | apply DN.e_un | apply DN.e_fn | apply DN.e_cons | apply DN.e_b | apply DN.e_notT | apply DN.e_not | apply DN.e_and | apply DN.e_or | apply DN.e_andT | apply DN.e_orT | apply DN.e_chain | apply DN.e_asg | exact DN.o_add | exact DN.o_sub | exact DN.o_eqI | exact DN.o_neI | exact DN.o_I | exact DN.o_neg | exact DN.o_lst | exact DN.o_tup | exact DN.o_isN | exact DN.o_notN | exact DN.o_ty (by rfl) | exact DN.o_inst (by rfl)) | ((with_reducible apply DN.e_var); exact rfl) | exact DN.o_mulL (by decide) | exact DN.o_mulR (by decide) | exact DN.o_div (by decide) (by decide) | exact DN.o_mod (by decide) | exact DN.o_lenL | exact DN.o_lenT | exact DN.o_lenS))
      · (repeat' (first | (with_reducible first | exact DN.e_c | exact DN.e_nil | apply DN.e_set | apply DN.e_ret | apply DN.e_bin | apply DN.e_un | apply DN.e_fn | apply DN.e_cons | apply DN.e_b | apply DN.e_notT | apply DN.e_not | apply DN.e_and | apply DN.e_or | apply DN.e_andT | apply DN.e_orT | apply DN.e_chain | apply DN.e_asg | exact DN.o_add | exact DN.o_sub | exact DN.o_eqI | exact DN.o_neI | exact DN.o_I | exact DN.o_neg | exact DN.o_lst | exact DN.o_tup | exact DN.o_isN | exact DN.o_notN | exact DN.o_ty (by rfl) | exact DN.o_inst (by rfl)) | ((with_reducible apply DN.e_var); exact rfl) | exact DN.o_mulL (by decide) | exact DN.o_mulR (by decide) | exact DN.o_div (by decide) (by decide) | exact DN.o_mod (by decide) | exact DN.o_lenL | exact DN.o_lenT | exact DN.o_lenS | exact copied_eq n d (h.2 d hd)))
  | n + 1, .tup ds, h => by
    refine fn_rt (ρ := [some (.tup ds), none]) rfl ?_
    unfold m_law_copied
    apply e_seq
    · apply e_ifF
      · (repeat' (first | (with_reducible first | exact DN.e_c | exact DN.e_nil | apply DN.e_set | apply DN.e_ret | apply DN.e_bin | apply DN.e_un | apply DN.e_fn | apply DN.e_cons | apply DN.e_b | apply DN.e_notT | apply DN.e_not | apply DN.e_and | apply DN.e_or | apply DN.e_andT | apply DN.e_orT | apply DN.e_chain | apply DN.e_asg | exact DN.o_add | exact DN.o_sub | exact DN.o_eqI | exact DN.o_neI | exact DN.o_I | exact DN.o_neg | exact DN.o_lst | exact DN.o_tup | exact DN.o_isN | exact DN.o_notN | exact DN.o_ty (by rfl) | exact DN.o_inst (by rfl)) | ((with_reducible apply DN.e_var); exact rfl) | exact DN.o_mulL (by decide) | exact DN.o_mulR (by decide) | exact DN.o_div (by decide) (by decide) | exact DN.o_mod (by decide) | exact DN.o_lenL | exact DN.o_lenT | exact DN.o_lenS))
        rfl
      · exact e_nx
    · apply e_seqR
      apply e_ifT
      · (repeat' (first | (with_reducible first | exact DN.e_c | exact DN.e_nil | apply DN.e_set | apply DN.e_ret | apply DN.e_bin | apply DN.e_un | apply DN.e_fn | apply DN.e_cons | apply DN.e_b | apply DN.e_notT | apply DN.e_not | apply DN.e_and | apply DN.e_or | apply DN.e_andT | apply DN.e_orT | apply DN.e_chain | apply DN.e_asg | exact DN.o_add | exact DN.o_sub | exact DN.o_eqI | exact DN.o_neI | exact DN.o_I | exact DN.o_neg | exact DN.o_lst | exact DN.o_tup | exact DN.o_isN | exact DN.o_notN | exact DN.o_ty (by rfl) | exact DN.o_inst (by rfl)) | ((with_reducible apply DN.e_var); exact rfl) | exact DN.o_mulL (by decide) | exact DN.o_mulR (by decide) | exact DN.o_div (by decide) (by decide) | exact DN.o_mod (by decide) | exact DN.o_lenL | exact DN.o_lenT | exact DN.o_lenS))
        rfl
      · apply e_ret
        apply e_fn
        · apply e_cons
          · refine e_lcAll (e_tu ?_) h.1 fun d hd => ⟨rfl, ?_⟩
            · (repeat' (first | (with_reducible first | exact DN.e_c | exact DN.e_nil | apply DN.e_set | apply DN.e_ret | apply DN.e_bin | apply DN.e_un | apply DN.e_fn | apply DN.e_cons | apply DN.e_b | apply DN.e_notT | apply DN.e_not | apply DN.e_and | apply DN.e_or | apply DN.e_andT | apply DN.e_orT | apply DN.e_chain | apply DN.e_asg | exact DN.o_add | exact DN.o_sub | exact DN.o_eqI | exact DN.o_neI | exact DN.o_I | exact DN.o_neg | exact DN.o_lst | exact DN.o_tup | exact DN.o_isN | exact DN.o_notN | exact DN.o_ty (by rfl) | exact DN.o_inst (by rfl)) | ((with_reducible apply DN.e_var); exact rfl) | exact DN.o_mulL (by decide) | exact DN.o_mulR (by decide) | exact DN.o_div (by decide) (by decide) | exact DN.o_mod (by decide) | exact DN.o_lenL | exact DN.o_lenT | exact DN.o_lenS))
            · (repeat' (first | (with_reducible first | exact DN.e_c | exact DN.e_nil | apply DN.e_set | apply DN.e_ret | apply DN.e_bin | apply DN.e_un | apply DN.e_fn | apply DN.e_cons | apply DN.e_b | apply DN.e_notT | apply DN.e_not | apply DN.e_and | apply DN.e_or | apply DN.e_andT | apply DN.e_orT | apply DN.e_chain | apply DN.e_asg | exact DN.o_add | exact DN.o_sub | exact DN.o_eqI | exact DN.o_neI | exact DN.o_I | exact DN.o_neg | exact DN.o_lst | exact DN.o_tup | exact DN.o_isN | exact DN.o_notN | exact DN.o_ty (by rfl) | exact DN.o_inst (by rfl)) | ((with_reducible apply DN.e_var); exact rfl) | exact DN.o_mulL (by decide) | exact DN.o_mulR (by decide) | exact DN.o_div (by decide) (by decide) | exact DN.o_mod (by decide) | exact DN.o_lenL | exact DN.o_lenT | exact DN.o_lenS | exact copied_eq n d (h.2 d hd)))
          · exact e_nil
        · rfl
theorem cp_LI {n : Nat} {l : List Int} (h : l.length < 1000000) : Cp (n + 2) (LI l) := ⟨by rw [List.length_map]; exact h, fun d hd => by
  obtain ⟨x, _, rfl⟩ := List.mem_map.mp hd
  trivial⟩
theorem cp_LR {n : Nat} {l : List (List Int)} (h : l.length < 1000000) (h2 : ∀ r ∈ l, r.length < 1000000) : Cp (n + 3) (LR l) := ⟨by rw [List.length_map]; exact h, fun d hd => by
  obtain ⟨x, hx, rfl⟩ := List.mem_map.mp hd
  exact cp_LI (h2 x hx)⟩
theorem cp_dL {n : Nat} {L : Lp} (h : LpOk L) : Cp (n + 6) (dL L) := by
  refine ⟨by simp, fun d hd => ?_⟩
  rcases List.mem_cons.mp hd with rfl | hd
  · trivial
  · rw [List.mem_singleton.mp hd]
    refine ⟨by rw [List.length_map]; have := h.w3; omega, fun d hd => ?_⟩
    obtain ⟨w, hw, rfl⟩ := List.mem_map.mp hd
    obtain ⟨l1, l2, l3, l4⟩ := row_len h.m3 (h.ok w hw)
    refine ⟨by simp, fun d hd => ?_⟩
    rcases List.mem_cons.mp hd with rfl | hd
    · exact cp_LR l1 l3
    · rw [List.mem_singleton.mp hd]
      exact cp_LR l2 l4
theorem eq_dL {L : Lp} : EqOk 10 (dL L) := eq_tup (n := 9) fun d hd => by
  rcases List.mem_cons.mp hd with rfl | hd
  · exact eq_int
  · rw [List.mem_singleton.mp hd]
    refine eq_lst (n := 8) fun d hd => ?_
    obtain ⟨w, hw, rfl⟩ := List.mem_map.mp hd
    refine eq_tup (n := 7) fun d hd => ?_
    rcases List.mem_cons.mp hd with rfl | hd
    · exact eq_LR (n := 5)
    · rw [List.mem_singleton.mp hd]
      exact eq_LR (n := 5)
end K01

set_option Elab.async false
set_option linter.all false
set_option maxRecDepth 100000
set_option maxHeartbeats 400000
namespace K01
open PySem PySem.Spec PyProof.Rows L2 DN
/-! ### what the package's looks come to, of anything -/
mutual
/-- no objects, no script in it -/
def Pln : D → Bool
  | .lst ds => Plns ds
  | .tup ds => Plns ds
  | .scr _ => false
  | .obj _ _ _ => false
  | _ => true
def Plns : List D → Bool
  | [] => true
  | d :: ds => Pln d && Plns ds
end
theorem plns_mem : ∀ {ds : List D}, Plns ds = true → ∀ d ∈ ds, Pln d = true
  | d :: ds, h, e, he => by
    unfold Plns at h
    rw [Bool.and_eq_true] at h
    rcases List.mem_cons.mp he with rfl | he
    · exact h.1
    · exact plns_mem h.2 e he
theorem plns_of : ∀ {ds : List D}, (∀ d ∈ ds, Pln d = true) → Plns ds = true
  | [], _ => by unfold Plns; rfl
  | d :: ds, h => by
    unfold Plns
    rw [h d List.mem_cons_self, plns_of fun e he => h e (List.mem_cons_of_mem _ he)]
    rfl
theorem pln_ob {d : D} (h : Pln d = true) : isOb d = false := by
  cases d <;> first | rfl | (unfold Pln at h; cases h)
theorem pln_lst {ds : List D} (h : Pln (.lst ds) = true) : ∀ d ∈ ds, Pln d = true := plns_mem (by unfold Pln at h; exact h)
theorem pln_tup {ds : List D} (h : Pln (.tup ds) = true) : ∀ d ∈ ds, Pln d = true := plns_mem (by unfold Pln at h; exact h)
theorem pln_LI {l : List Int} : Pln (LI l) = true := by
  unfold LI Pln
  exact plns_of fun d hd => by
    obtain ⟨x, _, rfl⟩ := List.mem_map.mp hd
    unfold Pln; rfl
theorem pln_LR {l : List (List Int)} : Pln (LR l) = true := by
  unfold LR Pln
  exact plns_of fun d hd => by
    obtain ⟨x, _, rfl⟩ := List.mem_map.mp hd
    exact pln_LI
theorem pln_T {ds : List D} (h : ∀ d ∈ ds, Pln d = true) : Pln (.tup ds) = true := by unfold Pln; exact plns_of h
theorem pln_L {ds : List D} (h : ∀ d ∈ ds, Pln d = true) : Pln (.lst ds) = true := by unfold Pln; exact plns_of h
theorem pln_int {i : Int} : Pln (.int i) = true := by unfold Pln; rfl
theorem pln_non : Pln .non = true := by unfold Pln; rfl
theorem pln_bl {b : Bool} : Pln (.bl b) = true := by unfold Pln; rfl
theorem pln_str {b : Str} : Pln (.str b) = true := by unfold Pln; rfl
theorem pln_dct : Pln .dct = true := by unfold Pln; rfl
theorem all_nil {p : D → Prop} : ∀ d ∈ ([] : List D), p d := fun d h => (List.not_mem_nil h).elim
theorem all_cons {p : D → Prop} {a : D} {ds : List D} (h : p a) (t : ∀ d ∈ ds, p d) : ∀ d ∈ a :: ds, p d := fun d hd => (List.mem_cons.mp hd).elim (fun e => by rw [e]; exact h) (t d)
theorem pln_T1 {a : D} (h : Pln a = true) : Pln (.tup [a]) = true := pln_T (all_cons h all_nil)
theorem pln_T2 {a b : D} (h : Pln a = true) (k : Pln b = true) : Pln (.tup [a, b]) = true := pln_T (all_cons h (all_cons k all_nil))
theorem pln_T3 {a b c : D} (h : Pln a = true) (k : Pln b = true) (l : Pln c = true) : Pln (.tup [a, b, c]) = true := pln_T (all_cons h (all_cons k (all_cons l all_nil)))
theorem pln_L1 {a : D} (h : Pln a = true) : Pln (.lst [a]) = true := pln_L (all_cons h all_nil)
theorem pln_L2 {a b : D} (h : Pln a = true) (k : Pln b = true) : Pln (.lst [a, b]) = true := pln_L (all_cons h (all_cons k all_nil))
def isI : D → Bool
  | .int _ => true
  | _ => false
theorem whole_eq {d : D} (ho : isOb d = false) : M_is_whole [d] = some (.bl (isI d)) := by
  refine fn_rt (ρ := [some d]) rfl ?_
  unfold m_is_whole
  apply e_ret
  have e : gTy false "int" d = some (.bl (isI d)) := by cases d <;> first | rfl | cases ho
  (repeat' (first | (with_reducible first | exact DN.e_c | exact DN.e_nil | apply DN.e_set | apply DN.e_ret | apply DN.e_bin | apply DN.e_un | apply DN.e_fn | apply DN.e_cons | apply DN.e_b | apply DN.e_notT | apply DN.e_not | apply DN.e_and | apply DN.e_or | apply DN.e_andT | apply DN.e_orT | apply DN.e_chain | apply DN.e_asg | exact DN.o_add | exact DN.o_sub | exact DN.o_eqI | exact DN.o_neI | exact DN.o_I | exact DN.o_neg | exact DN.o_lst | exact DN.o_tup | exact DN.o_isN | exact DN.o_notN | exact DN.o_ty (by rfl) | exact DN.o_inst (by rfl)) | ((with_reducible apply DN.e_var); exact rfl) | exact DN.o_mulL (by decide) | exact DN.o_mulR (by decide) | exact DN.o_div (by decide) (by decide) | exact DN.o_mod (by decide) | exact DN.o_lenL | exact DN.o_lenT | exact DN.o_lenS | exact e))
def within (lo hi : Int) : D → Bool
  | .int i => decide (lo ≤ i) && decide (i ≤ hi)
  | _ => false
theorem within_true {lo hi i : Int} (h1 : lo ≤ i) (h2 : i ≤ hi) : within lo hi (.int i) = true := by
  show (decide (lo ≤ i) && decide (i ≤ hi)) = true
  rw [decide_eq_true h1, decide_eq_true h2]
  rfl
theorem within_eq {d : D} {lo hi : Int} (ho : isOb d = false) : M_is_whole_within [d, .int lo, .int hi] = some (.bl (within lo hi d)) := by
  refine fn_rt (ρ := [some d, some (.int lo), some (.int hi)]) rfl ?_
  unfold m_is_whole_within
  apply e_ret
  have hw := whole_eq ho
  cases d with
  | int i =>
    have e : within lo hi (.int i) = (true && (pLe lo i && pLe i hi)) := rfl
    rw [e]
    apply e_and
    · (repeat' (first | (with_reducible first | exact DN.e_c | exact DN.e_nil | apply DN.e_set | apply DN.e_ret | apply DN.e_bin | apply DN.e_un | apply DN.e_fn | apply DN.e_cons | apply DN.e_b | apply DN.e_notT | apply DN.e_not | apply DN.e_and | apply DN.e_or | apply DN.e_andT | apply DN.e_orT | apply DN.e_chain | apply DN.e_asg | exact DN.o_add | exact DN.o_sub | exact DN.o_eqI | exact DN.o_neI | exact DN.o_I | exact DN.o_neg | exact DN.o_lst | exact DN.o_tup | exact DN.o_isN | exact DN.o_notN | exact DN.o_ty (by rfl) | exact DN.o_inst (by rfl)) | ((with_reducible apply DN.e_var); exact rfl) | exact DN.o_mulL (by decide) | exact DN.o_mulR (by decide) | exact DN.o_div (by decide) (by decide) | exact DN.o_mod (by decide) | exact DN.o_lenL | exact DN.o_lenT | exact DN.o_lenS | exact (show M_is_whole [.int i] = some (.bl true) from hw)))
    · intro _
      apply e_chain
      · (repeat' (first | (with_reducible first | exact DN.e_c | exact DN.e_nil | apply DN.e_set | apply DN.e_ret | apply DN.e_bin | apply DN.e_un | apply DN.e_fn | apply DN.e_cons | apply DN.e_b | apply DN.e_notT | apply DN.e_not | apply DN.e_and | apply DN.e_or | apply DN.e_andT | apply DN.e_orT | apply DN.e_chain | apply DN.e_asg | exact DN.o_add | exact DN.o_sub | exact DN.o_eqI | exact DN.o_neI | exact DN.o_I | exact DN.o_neg | exact DN.o_lst | exact DN.o_tup | exact DN.o_isN | exact DN.o_notN | exact DN.o_ty (by rfl) | exact DN.o_inst (by rfl)) | ((with_reducible apply DN.e_var); exact rfl) | exact DN.o_mulL (by decide) | exact DN.o_mulR (by decide) | exact DN.o_div (by decide) (by decide) | exact DN.o_mod (by decide) | exact DN.o_lenL | exact DN.o_lenT | exact DN.o_lenS))
      · (repeat' (first | (with_reducible first | exact DN.e_c | exact DN.e_nil | apply DN.e_set | apply DN.e_ret | apply DN.e_bin | apply DN.e_un | apply DN.e_fn | apply DN.e_cons | apply DN.e_b | apply DN.e_notT | apply DN.e_not | apply DN.e_and | apply DN.e_or | apply DN.e_andT | apply DN.e_orT | apply DN.e_chain | apply DN.e_asg | exact DN.o_add | exact DN.o_sub | exact DN.o_eqI | exact DN.o_neI | exact DN.o_I | exact DN.o_neg | exact DN.o_lst | exact DN.o_tup | exact DN.o_isN | exact DN.o_notN | exact DN.o_ty (by rfl) | exact DN.o_inst (by rfl)) | ((with_reducible apply DN.e_var); exact rfl) | exact DN.o_mulL (by decide) | exact DN.o_mulR (by decide) | exact DN.o_div (by decide) (by decide) | exact DN.o_mod (by decide) | exact DN.o_lenL | exact DN.o_lenT | exact DN.o_lenS))
      · exact o_I
      · intro _
        (repeat' (first | (with_reducible first | exact DN.e_c | exact DN.e_nil | apply DN.e_set | apply DN.e_ret | apply DN.e_bin | apply DN.e_un | apply DN.e_fn | apply DN.e_cons | apply DN.e_b | apply DN.e_notT | apply DN.e_not | apply DN.e_and | apply DN.e_or | apply DN.e_andT | apply DN.e_orT | apply DN.e_chain | apply DN.e_asg | exact DN.o_add | exact DN.o_sub | exact DN.o_eqI | exact DN.o_neI | exact DN.o_I | exact DN.o_neg | exact DN.o_lst | exact DN.o_tup | exact DN.o_isN | exact DN.o_notN | exact DN.o_ty (by rfl) | exact DN.o_inst (by rfl)) | ((with_reducible apply DN.e_var); exact rfl) | exact DN.o_mulL (by decide) | exact DN.o_mulR (by decide) | exact DN.o_div (by decide) (by decide) | exact DN.o_mod (by decide) | exact DN.o_lenL | exact DN.o_lenT | exact DN.o_lenS))
      · intro _
        exact o_I
  | obj c ks ds => cases ho
  | _ =>
    refine e_and (k := false) (l := false) ?_ (fun h => nomatch h)
    (repeat' (first | (with_reducible first | exact DN.e_c | exact DN.e_nil | apply DN.e_set | apply DN.e_ret | apply DN.e_bin | apply DN.e_un | apply DN.e_fn | apply DN.e_cons | apply DN.e_b | apply DN.e_notT | apply DN.e_not | apply DN.e_and | apply DN.e_or | apply DN.e_andT | apply DN.e_orT | apply DN.e_chain | apply DN.e_asg | exact DN.o_add | exact DN.o_sub | exact DN.o_eqI | exact DN.o_neI | exact DN.o_I | exact DN.o_neg | exact DN.o_lst | exact DN.o_tup | exact DN.o_isN | exact DN.o_notN | exact DN.o_ty (by rfl) | exact DN.o_inst (by rfl)) | ((with_reducible apply DN.e_var); exact rfl) | exact DN.o_mulL (by decide) | exact DN.o_mulR (by decide) | exact DN.o_div (by decide) (by decide) | exact DN.o_mod (by decide) | exact DN.o_lenL | exact DN.o_lenT | exact DN.o_lenS | exact hw))
def lenIn (lo hi : Int) : D → Bool
  | .lst ds => decide (lo ≤ (ds.length : Int)) && decide ((ds.length : Int) ≤ hi)
  | .scr ns => decide (lo ≤ (ns.length : Int)) && decide ((ns.length : Int) ≤ hi)
  | _ => false
theorem lenIn_true {lo hi : Int} {ds : List D} (h1 : lo ≤ (ds.length : Int)) (h2 : (ds.length : Int) ≤ hi) : lenIn lo hi (.lst ds) = true := by
  show (decide (lo ≤ (ds.length : Int)) && decide ((ds.length : Int) ≤ hi)) = true
  rw [decide_eq_true h1, decide_eq_true h2]
  rfl
theorem list_eq {d : D} {lo hi : Int} (ho : isOb d = false) : M_is_list_of [d, .int lo, .int hi] = some (.bl (lenIn lo hi d)) := by
  refine fn_rt (ρ := [some d, some (.int lo), some (.int hi)]) rfl ?_
  unfold m_is_list_of
  apply e_ret
  have go : ∀ n : Nat, gLen [d] = some (.int n) → gTy false "list" d = some (.bl true) → lenIn lo hi d = (true && (pLe lo n && pLe n hi)) → dAnd (dUn (gTy false "list") (dVar 0)) (dChain (gI pLe) (gI pLe) (dVar 1) (dFn gLen (dCons (dVar 0) dNil)) (dVar 2)) [some d, some (.int lo), some (.int hi)] = some (.bl (lenIn lo hi d)) := fun n h1 h2 h3 => by
    rw [h3]
    apply e_and
    · (repeat' (first | (with_reducible first | exact DN.e_c | exact DN.e_nil | apply DN.e_set | apply DN.e_ret | apply DN.e_bin | apply DN.e_un | apply DN.e_fn | apply DN.e_cons | apply DN.e_b | apply DN.e_notT | apply DN.e_not | apply DN.e_and | apply DN.e_or | apply DN.e_andT | apply DN.e_orT | apply DN.e_chain | apply DN.e_asg | exact DN.o_add | exact DN.o_sub | exact DN.o_eqI | exact DN.o_neI | exact DN.o_I | exact DN.o_neg | exact DN.o_lst | exact DN.o_tup | exact DN.o_isN | exact DN.o_notN | exact DN.o_ty (by rfl) | exact DN.o_inst (by rfl)) | ((with_reducible apply DN.e_var); exact rfl) | exact DN.o_mulL (by decide) | exact DN.o_mulR (by decide) | exact DN.o_div (by decide) (by decide) | exact DN.o_mod (by decide) | exact DN.o_lenL | exact DN.o_lenT | exact DN.o_lenS | exact h2))
    · intro _
      apply e_chain
      · (repeat' (first | (with_reducible first | exact DN.e_c | exact DN.e_nil | apply DN.e_set | apply DN.e_ret | apply DN.e_bin | apply DN.e_un | apply DN.e_fn | apply DN.e_cons | apply DN.e_b | apply DN.e_notT | apply DN.e_not | apply DN.e_and | apply DN.e_or | apply DN.e_andT | apply DN.e_orT | apply DN.e_chain | apply DN.e_asg | exact DN.o_add | exact DN.o_sub | exact DN.o_eqI | exact DN.o_neI | exact DN.o_I | exact DN.o_neg | exact DN.o_lst | exact DN.o_tup | exact DN.o_isN | exact DN.o_notN | exact DN.o_ty (by rfl) | exact DN.o_inst (by rfl)) | ((with_reducible apply DN.e_var); exact rfl) | exact DN.o_mulL (by decide) | exact DN.o_mulR (by decide) | exact DN.o_div (by decide) (by decide) | exact DN.o_mod (by decide) | exact DN.o_lenL | exact DN.o_lenT | exact DN.o_lenS))
      · (repeat' (first | (with_reducible first | exact DN.e_c | exact DN.e_nil | apply DN.e_set | apply DN.e_ret | apply DN.e_bin | apply DN.e_un | apply DN.e_fn | apply DN.e_cons | apply DN.e_b | apply DN.e_notT | apply DN.e_not | apply DN.e_and | apply DN.e_or | apply DN.e_andT | apply DN.e_orT | apply DN.e_chain | apply DN.e_asg | exact DN.o_add | exact DN.o_sub | exact DN.o_eqI | exact DN.o_neI | exact DN.o_I | exact DN.o_neg | exact DN.o_lst | exact DN.o_tup | exact DN.o_isN | exact DN.o_notN | exact DN.o_ty (by rfl) | exact DN.o_inst (by rfl)) | ((with_reducible apply DN.e_var); exact rfl) | exact DN.o_mulL (by decide) | exact DN.o_mulR (by decide) | exact DN.o_div (by decide) (by decide) | exact DN.o_mod (by decide) | exact DN.o_lenL | exact DN.o_lenT | exact DN.o_lenS | exact h1))
      · exact o_I
      · intro _
        (repeat' (first | (with_reducible first | exact DN.e_c | exact DN.e_nil | apply DN.e_set | apply DN.e_ret | apply DN.e_bin | apply DN.e_un | apply DN.e_fn | apply DN.e_cons | apply DN.e_b | apply DN.e_notT | apply DN.e_not | apply DN.e_and | apply DN.e_or | apply DN.e_andT | apply DN.e_orT | apply DN.e_chain | apply DN.e_asg | exact DN.o_add | exact DN.o_sub | exact DN.o_eqI | exact DN.o_neI | exact DN.o_I | exact DN.o_neg | exact DN.o_lst | exact DN.o_tup | exact DN.o_isN | exact DN.o_notN | exact DN.o_ty (by rfl) | exact DN.o_inst (by rfl)) | ((with_reducible apply DN.e_var); exact rfl) | exact DN.o_mulL (by decide) | exact DN.o_mulR (by decide) | exact DN.o_div (by decide) (by decide) | exact DN.o_mod (by decide) | exact DN.o_lenL | exact DN.o_lenT | exact DN.o_lenS))
      · intro _
        exact o_I
  cases d with
  | lst ds => exact go ds.length rfl rfl rfl
  | scr ns => exact go ns.length rfl rfl rfl
  | obj c ks ds => cases ho
  | _ =>
    refine e_and (k := false) (l := false) ?_ (fun h => nomatch h)
    (repeat' (first | (with_reducible first | exact DN.e_c | exact DN.e_nil | apply DN.e_set | apply DN.e_ret | apply DN.e_bin | apply DN.e_un | apply DN.e_fn | apply DN.e_cons | apply DN.e_b | apply DN.e_notT | apply DN.e_not | apply DN.e_and | apply DN.e_or | apply DN.e_andT | apply DN.e_orT | apply DN.e_chain | apply DN.e_asg | exact DN.o_add | exact DN.o_sub | exact DN.o_eqI | exact DN.o_neI | exact DN.o_I | exact DN.o_neg | exact DN.o_lst | exact DN.o_tup | exact DN.o_isN | exact DN.o_notN | exact DN.o_ty (by rfl) | exact DN.o_inst (by rfl)) | ((with_reducible apply DN.e_var); exact rfl) | exact DN.o_mulL (by decide) | exact DN.o_mulR (by decide) | exact DN.o_div (by decide) (by decide) | exact DN.o_mod (by decide) | exact DN.o_lenL | exact DN.o_lenT | exact DN.o_lenS))
    rfl
def isPair : D → Bool
  | .tup ds => decide (ds.length = 2)
  | _ => false
theorem isPair_of {d : D} (h : isPair d = true) : ∃ a b, d = .tup [a, b] := by
  cases d with
  | tup ds =>
    have h : ds.length = 2 := of_decide_eq_true h
    match ds, h with
    | [a, b], _ => exact ⟨a, b, rfl⟩
  | _ => cases h
theorem pair_eq {d : D} (ho : isOb d = false) : M_is_pair [d] = some (.bl (isPair d)) := by
  refine fn_rt (ρ := [some d]) rfl ?_
  unfold m_is_pair
  apply e_ret
  cases d with
  | tup ds =>
    have e : isPair (.tup ds) = (true && ((ds.length : Int) == 2)) := by
      show decide (ds.length = 2) = ((ds.length : Int) == 2)
      by_cases h : ds.length = 2
      · rw [h]; rfl
      · have : ((ds.length : Int) == 2) = false := by simpa using (fun z : (ds.length : Int) = 2 => h (by omega))
        rw [this]; simpa using h
    rw [e]
    refine e_and ?_ (fun _ => ?_)
    · (repeat' (first | (with_reducible first | exact DN.e_c | exact DN.e_nil | apply DN.e_set | apply DN.e_ret | apply DN.e_bin | apply DN.e_un | apply DN.e_fn | apply DN.e_cons | apply DN.e_b | apply DN.e_notT | apply DN.e_not | apply DN.e_and | apply DN.e_or | apply DN.e_andT | apply DN.e_orT | apply DN.e_chain | apply DN.e_asg | exact DN.o_add | exact DN.o_sub | exact DN.o_eqI | exact DN.o_neI | exact DN.o_I | exact DN.o_neg | exact DN.o_lst | exact DN.o_tup | exact DN.o_isN | exact DN.o_notN | exact DN.o_ty (by rfl) | exact DN.o_inst (by rfl)) | ((with_reducible apply DN.e_var); exact rfl) | exact DN.o_mulL (by decide) | exact DN.o_mulR (by decide) | exact DN.o_div (by decide) (by decide) | exact DN.o_mod (by decide) | exact DN.o_lenL | exact DN.o_lenT | exact DN.o_lenS))
      rfl
    · refine e_bin (x := .int ds.length) ?_ e_c o_eqI
      (repeat' (first | (with_reducible first | exact DN.e_c | exact DN.e_nil | apply DN.e_set | apply DN.e_ret | apply DN.e_bin | apply DN.e_un | apply DN.e_fn | apply DN.e_cons | apply DN.e_b | apply DN.e_notT | apply DN.e_not | apply DN.e_and | apply DN.e_or | apply DN.e_andT | apply DN.e_orT | apply DN.e_chain | apply DN.e_asg | exact DN.o_add | exact DN.o_sub | exact DN.o_eqI | exact DN.o_neI | exact DN.o_I | exact DN.o_neg | exact DN.o_lst | exact DN.o_tup | exact DN.o_isN | exact DN.o_notN | exact DN.o_ty (by rfl) | exact DN.o_inst (by rfl)) | ((with_reducible apply DN.e_var); exact rfl) | exact DN.o_mulL (by decide) | exact DN.o_mulR (by decide) | exact DN.o_div (by decide) (by decide) | exact DN.o_mod (by decide) | exact DN.o_lenL | exact DN.o_lenT | exact DN.o_lenS))
  | obj c ks ds => cases ho
  | _ =>
    refine e_and (k := false) (l := false) ?_ (fun h => nomatch h)
    (repeat' (first | (with_reducible first | exact DN.e_c | exact DN.e_nil | apply DN.e_set | apply DN.e_ret | apply DN.e_bin | apply DN.e_un | apply DN.e_fn | apply DN.e_cons | apply DN.e_b | apply DN.e_notT | apply DN.e_not | apply DN.e_and | apply DN.e_or | apply DN.e_andT | apply DN.e_orT | apply DN.e_chain | apply DN.e_asg | exact DN.o_add | exact DN.o_sub | exact DN.o_eqI | exact DN.o_neI | exact DN.o_I | exact DN.o_neg | exact DN.o_lst | exact DN.o_tup | exact DN.o_isN | exact DN.o_notN | exact DN.o_ty (by rfl) | exact DN.o_inst (by rfl)) | ((with_reducible apply DN.e_var); exact rfl) | exact DN.o_mulL (by decide) | exact DN.o_mulR (by decide) | exact DN.o_div (by decide) (by decide) | exact DN.o_mod (by decide) | exact DN.o_lenL | exact DN.o_lenT | exact DN.o_lenS))
    rfl
theorem all_of {α : Type} {l : List α} {p : α → Bool} (h : ∀ x ∈ l, p x = true) : l.all p = true := List.all_eq_true.mpr h
def isSt (m : Nat) : D → Bool
  | .lst ds => decide (ds.length = m) && ds.all isI
  | _ => false
theorem lenIn_len {m : Nat} {d : D} (hp : Pln d = true) (h : lenIn (m : Nat) (m : Nat) d = true) : ∃ ds, d = .lst ds ∧ ds.length = m := by
  cases d with
  | lst ds =>
    have h : (decide ((m : Int) ≤ (ds.length : Int)) && decide ((ds.length : Int) ≤ (m : Int))) = true := h
    simp only [Bool.and_eq_true, decide_eq_true_eq] at h
    exact ⟨ds, rfl, by omega⟩
  | scr ns => unfold Pln at hp; cases hp
  | _ => cases h
theorem wholes_eq {d : D} {m : Nat} (hp : Pln d = true) : M_are_wholes [d, .int (m : Nat)] = some (.bl (isSt m d)) := by
  refine fn_rt (ρ := [some d, some (.int (m : Nat))]) rfl ?_
  unfold m_are_wholes
  apply e_ret
  by_cases hl : lenIn (m : Nat) (m : Nat) d = true
  · obtain ⟨ds, rfl, hm⟩ := lenIn_len hp hl
    have e : isSt m (.lst ds) = (true && ds.all isI) := by
      show (decide (ds.length = m) && ds.all isI) = _
      rw [decide_eq_true hm]
    rw [e]
    apply e_and
    · (repeat' (first | (with_reducible first | exact DN.e_c | exact DN.e_nil | apply DN.e_set | apply DN.e_ret | apply DN.e_bin | apply DN.e_un | apply DN.e_fn | apply DN.e_cons | apply DN.e_b | apply DN.e_notT | apply DN.e_not | apply DN.e_and | apply DN.e_or | apply DN.e_andT | apply DN.e_orT | apply DN.e_chain | apply DN.e_asg | exact DN.o_add | exact DN.o_sub | exact DN.o_eqI | exact DN.o_neI | exact DN.o_I | exact DN.o_neg | exact DN.o_lst | exact DN.o_tup | exact DN.o_isN | exact DN.o_notN | exact DN.o_ty (by rfl) | exact DN.o_inst (by rfl)) | ((with_reducible apply DN.e_var); exact rfl) | exact DN.o_mulL (by decide) | exact DN.o_mulR (by decide) | exact DN.o_div (by decide) (by decide) | exact DN.o_mod (by decide) | exact DN.o_lenL | exact DN.o_lenT | exact DN.o_lenS | exact (show M_is_list_of [.lst ds, .int (m : Nat), .int (m : Nat)] = some (.bl true) from by rw [list_eq rfl, hl])))
    · intro _
      refine e_all (emb := id) (e_ls ?_) fun x hx => ?_
      · rw [List.map_id]
        (repeat' (first | (with_reducible first | exact DN.e_c | exact DN.e_nil | apply DN.e_set | apply DN.e_ret | apply DN.e_bin | apply DN.e_un | apply DN.e_fn | apply DN.e_cons | apply DN.e_b | apply DN.e_notT | apply DN.e_not | apply DN.e_and | apply DN.e_or | apply DN.e_andT | apply DN.e_orT | apply DN.e_chain | apply DN.e_asg | exact DN.o_add | exact DN.o_sub | exact DN.o_eqI | exact DN.o_neI | exact DN.o_I | exact DN.o_neg | exact DN.o_lst | exact DN.o_tup | exact DN.o_isN | exact DN.o_notN | exact DN.o_ty (by rfl) | exact DN.o_inst (by rfl)) | ((with_reducible apply DN.e_var); exact rfl) | exact DN.o_mulL (by decide) | exact DN.o_mulR (by decide) | exact DN.o_div (by decide) (by decide) | exact DN.o_mod (by decide) | exact DN.o_lenL | exact DN.o_lenT | exact DN.o_lenS))
      · (repeat' (first | (with_reducible first | exact DN.e_c | exact DN.e_nil | apply DN.e_set | apply DN.e_ret | apply DN.e_bin | apply DN.e_un | apply DN.e_fn | apply DN.e_cons | apply DN.e_b | apply DN.e_notT | apply DN.e_not | apply DN.e_and | apply DN.e_or | apply DN.e_andT | apply DN.e_orT | apply DN.e_chain | apply DN.e_asg | exact DN.o_add | exact DN.o_sub | exact DN.o_eqI | exact DN.o_neI | exact DN.o_I | exact DN.o_neg | exact DN.o_lst | exact DN.o_tup | exact DN.o_isN | exact DN.o_notN | exact DN.o_ty (by rfl) | exact DN.o_inst (by rfl)) | ((with_reducible apply DN.e_var); exact rfl) | exact DN.o_mulL (by decide) | exact DN.o_mulR (by decide) | exact DN.o_div (by decide) (by decide) | exact DN.o_mod (by decide) | exact DN.o_lenL | exact DN.o_lenT | exact DN.o_lenS | exact whole_eq (pln_ob (pln_lst hp x hx))))
  · have e : isSt m d = (false && false) := by
      cases d with
      | lst ds =>
        have hm : ¬ ds.length = m := fun z => hl (lenIn_true (by omega) (by omega))
        show (decide (ds.length = m) && ds.all isI) = _
        rw [decide_eq_false hm]
        rfl
      | _ => rfl
    rw [e]
    refine e_and ?_ (fun h => nomatch h)
    have e2 : lenIn (m : Nat) (m : Nat) d = false := by simpa using hl
    (repeat' (first | (with_reducible first | exact DN.e_c | exact DN.e_nil | apply DN.e_set | apply DN.e_ret | apply DN.e_bin | apply DN.e_un | apply DN.e_fn | apply DN.e_cons | apply DN.e_b | apply DN.e_notT | apply DN.e_not | apply DN.e_and | apply DN.e_or | apply DN.e_andT | apply DN.e_orT | apply DN.e_chain | apply DN.e_asg | exact DN.o_add | exact DN.o_sub | exact DN.o_eqI | exact DN.o_neI | exact DN.o_I | exact DN.o_neg | exact DN.o_lst | exact DN.o_tup | exact DN.o_isN | exact DN.o_notN | exact DN.o_ty (by rfl) | exact DN.o_inst (by rfl)) | ((with_reducible apply DN.e_var); exact rfl) | exact DN.o_mulL (by decide) | exact DN.o_mulR (by decide) | exact DN.o_div (by decide) (by decide) | exact DN.o_mod (by decide) | exact DN.o_lenL | exact DN.o_lenT | exact DN.o_lenS | exact (show M_is_list_of [d, .int (m : Nat), .int (m : Nat)] = some (.bl false) from by rw [list_eq (pln_ob hp), e2])))
theorem isSt_LI {s : List Int} {m : Nat} (h : s.length = m) : isSt m (LI s) = true := by
  show (decide ((s.map D.int).length = m) && (s.map D.int).all isI) = true
  rw [List.length_map, decide_eq_true h, Bool.true_and]
  exact all_of fun d hd => by
    obtain ⟨x, _, rfl⟩ := List.mem_map.mp hd
    rfl
theorem ints_of : ∀ {ds : List D}, ds.all isI = true → ∃ l : List Int, ds = l.map .int
  | [], _ => ⟨[], rfl⟩
  | d :: ds, h => by
    rw [List.all_cons, Bool.and_eq_true] at h
    obtain ⟨l, rfl⟩ := ints_of h.2
    cases d with
    | int i => exact ⟨i :: l, rfl⟩
    | _ => cases h.1
theorem isSt_of {d : D} {m : Nat} (h : isSt m d = true) : ∃ s : List Int, d = LI s ∧ s.length = m := by
  cases d with
  | lst ds =>
    have h : (decide (ds.length = m) && ds.all isI) = true := h
    rw [Bool.and_eq_true, decide_eq_true_eq] at h
    obtain ⟨l, rfl⟩ := ints_of h.2
    exact ⟨l, rfl, by simpa using h.1⟩
  | _ => cases h
/-! rows, ways, loops -/
def isRowD (m : Nat) : D → Bool
  | .lst ds => decide (ds.length = m + 1) && ds.all (within (-1000) 1000)
  | _ => false
def isRowsD (m : Nat) (lo hi : Nat) : D → Bool
  | .lst ds => (decide (lo ≤ ds.length) && decide (ds.length ≤ hi)) && ds.all (isRowD m)
  | _ => false
def isWayD (m : Nat) : D → Bool
  | .tup [a, b] => isRowsD m 0 4 a && isRowsD m m m b
  | _ => false
def isLoopD : D → Bool
  | .tup [.int n, .lst ws] => (decide (1 ≤ n) && decide (n ≤ 3)) && (decide (1 ≤ ws.length) && decide (ws.length ≤ 3)) && ws.all (isWayD n.toNat)
  | _ => false
theorem is_row_eq {d : D} {m : Nat} (hp : Pln d = true) : M_is_row [d, .int (m : Nat)] = some (.bl (isRowD m d)) := by
  refine fn_rt (ρ := [some d, some (.int (m : Nat))]) rfl ?_
  unfold m_is_row
  have hl0 : ∀ b, lenIn ((m : Nat) + 1) ((m : Nat) + 1) d = b → M_is_list_of [d, .int ((m : Nat) + 1), .int ((m : Nat) + 1)] = some (.bl b) := fun b h => by rw [list_eq (pln_ob hp), h]
  by_cases hl : lenIn (((m + 1 : Nat)) : Nat) ((m + 1 : Nat) : Nat) d = true
  · obtain ⟨ds, rfl, hm⟩ := lenIn_len hp hl
    have e : isRowD m (.lst ds) = ds.all (within (-1000) 1000) := by
      show (decide (ds.length = m + 1) && _) = _
      rw [decide_eq_true hm]; rfl
    rw [e]
    apply e_seq
    · refine e_if (k := !true) ?_ e_nx
      apply e_notT
      apply e_b
      (repeat' (first | (with_reducible first | exact DN.e_c | exact DN.e_nil | apply DN.e_set | apply DN.e_ret | apply DN.e_bin | apply DN.e_un | apply DN.e_fn | apply DN.e_cons | apply DN.e_b | apply DN.e_notT | apply DN.e_not | apply DN.e_and | apply DN.e_or | apply DN.e_andT | apply DN.e_orT | apply DN.e_chain | apply DN.e_asg | exact DN.o_add | exact DN.o_sub | exact DN.o_eqI | exact DN.o_neI | exact DN.o_I | exact DN.o_neg | exact DN.o_lst | exact DN.o_tup | exact DN.o_isN | exact DN.o_notN | exact DN.o_ty (by rfl) | exact DN.o_inst (by rfl)) | ((with_reducible apply DN.e_var); exact rfl) | exact DN.o_mulL (by decide) | exact DN.o_mulR (by decide) | exact DN.o_div (by decide) (by decide) | exact DN.o_mod (by decide) | exact DN.o_lenL | exact DN.o_lenT | exact DN.o_lenS | exact hl0 true hl))
    · apply e_ret
      refine e_all (emb := id) (e_ls ?_) fun x hx => ?_
      · rw [List.map_id]
        (repeat' (first | (with_reducible first | exact DN.e_c | exact DN.e_nil | apply DN.e_set | apply DN.e_ret | apply DN.e_bin | apply DN.e_un | apply DN.e_fn | apply DN.e_cons | apply DN.e_b | apply DN.e_notT | apply DN.e_not | apply DN.e_and | apply DN.e_or | apply DN.e_andT | apply DN.e_orT | apply DN.e_chain | apply DN.e_asg | exact DN.o_add | exact DN.o_sub | exact DN.o_eqI | exact DN.o_neI | exact DN.o_I | exact DN.o_neg | exact DN.o_lst | exact DN.o_tup | exact DN.o_isN | exact DN.o_notN | exact DN.o_ty (by rfl) | exact DN.o_inst (by rfl)) | ((with_reducible apply DN.e_var); exact rfl) | exact DN.o_mulL (by decide) | exact DN.o_mulR (by decide) | exact DN.o_div (by decide) (by decide) | exact DN.o_mod (by decide) | exact DN.o_lenL | exact DN.o_lenT | exact DN.o_lenS))
      · (repeat' (first | (with_reducible first | exact DN.e_c | exact DN.e_nil | apply DN.e_set | apply DN.e_ret | apply DN.e_bin | apply DN.e_un | apply DN.e_fn | apply DN.e_cons | apply DN.e_b | apply DN.e_notT | apply DN.e_not | apply DN.e_and | apply DN.e_or | apply DN.e_andT | apply DN.e_orT | apply DN.e_chain | apply DN.e_asg | exact DN.o_add | exact DN.o_sub | exact DN.o_eqI | exact DN.o_neI | exact DN.o_I | exact DN.o_neg | exact DN.o_lst | exact DN.o_tup | exact DN.o_isN | exact DN.o_notN | exact DN.o_ty (by rfl) | exact DN.o_inst (by rfl)) | ((with_reducible apply DN.e_var); exact rfl) | exact DN.o_mulL (by decide) | exact DN.o_mulR (by decide) | exact DN.o_div (by decide) (by decide) | exact DN.o_mod (by decide) | exact DN.o_lenL | exact DN.o_lenT | exact DN.o_lenS | exact within_eq (pln_ob (pln_lst hp x hx))))
  · have hl' : lenIn (((m + 1 : Nat)) : Nat) ((m + 1 : Nat) : Nat) d = false := by simpa using hl
    have e : isRowD m d = false := by
      cases d with
      | lst ds =>
        have hm : ¬ ds.length = m + 1 := fun z => hl (lenIn_true (by omega) (by omega))
        show (decide (ds.length = m + 1) && _) = _
        rw [decide_eq_false hm]; rfl
      | _ => rfl
    rw [e]
    apply e_seqR
    refine e_if (k := !false) ?_ (e_ret e_c)
    apply e_notT
    apply e_b
    (repeat' (first | (with_reducible first | exact DN.e_c | exact DN.e_nil | apply DN.e_set | apply DN.e_ret | apply DN.e_bin | apply DN.e_un | apply DN.e_fn | apply DN.e_cons | apply DN.e_b | apply DN.e_notT | apply DN.e_not | apply DN.e_and | apply DN.e_or | apply DN.e_andT | apply DN.e_orT | apply DN.e_chain | apply DN.e_asg | exact DN.o_add | exact DN.o_sub | exact DN.o_eqI | exact DN.o_neI | exact DN.o_I | exact DN.o_neg | exact DN.o_lst | exact DN.o_tup | exact DN.o_isN | exact DN.o_notN | exact DN.o_ty (by rfl) | exact DN.o_inst (by rfl)) | ((with_reducible apply DN.e_var); exact rfl) | exact DN.o_mulL (by decide) | exact DN.o_mulR (by decide) | exact DN.o_div (by decide) (by decide) | exact DN.o_mod (by decide) | exact DN.o_lenL | exact DN.o_lenT | exact DN.o_lenS | exact hl0 false hl'))
theorem are_rows_eq {d : D} {m lo hi : Nat} (hp : Pln d = true) : M_are_rows [d, .int (m : Nat), .int (lo : Nat), .int (hi : Nat)] = some (.bl (isRowsD m lo hi d)) := by
  refine fn_rt (ρ := [some d, some (.int (m : Nat)), some (.int (lo : Nat)), some (.int (hi : Nat))]) rfl ?_
  unfold m_are_rows
  apply e_ret
  have hl0 := list_eq (lo := (lo : Nat)) (hi := (hi : Nat)) (pln_ob hp)
  cases d with
  | lst ds =>
    have e : isRowsD m lo hi (.lst ds) = (lenIn (lo : Nat) (hi : Nat) (.lst ds) && ds.all (isRowD m)) := by
      show (_ && _) = (_ && _)
      congr 1
      show (decide (lo ≤ ds.length) && decide (ds.length ≤ hi)) = (decide ((lo : Int) ≤ (ds.length : Int)) && decide ((ds.length : Int) ≤ (hi : Int)))
      congr 1 <;> exact decide_eq_decide.mpr (by omega)
    rw [e]
    refine e_and ?_ fun _ => ?_
    · (repeat' (first | (with_reducible first | exact DN.e_c | exact DN.e_nil | apply DN.e_set | apply DN.e_ret | apply DN.e_bin | apply DN.e_un | apply DN.e_fn | apply DN.e_cons | apply DN.e_b | apply DN.e_notT | apply DN.e_not | apply DN.e_and | apply DN.e_or | apply DN.e_andT | apply DN.e_orT | apply DN.e_chain | apply DN.e_asg | exact DN.o_add | exact DN.o_sub | exact DN.o_eqI | exact DN.o_neI | exact DN.o_I | exact DN.o_neg | exact DN.o_lst | exact DN.o_tup | exact DN.o_isN | exact DN.o_notN | exact DN.o_ty (by rfl) | exact DN.o_inst (by rfl)) | ((with_reducible apply DN.e_var); exact rfl) | exact DN.o_mulL (by decide) | exact DN.o_mulR (by decide) | exact DN.o_div (by decide) (by decide) | exact DN.o_mod (by decide) | exact DN.o_lenL | exact DN.o_lenT | exact DN.o_lenS | exact hl0))
    · refine e_all (emb := id) (e_ls ?_) fun x hx => ?_
      · rw [List.map_id]
        (repeat' (first | (with_reducible first | exact DN.e_c | exact DN.e_nil | apply DN.e_set | apply DN.e_ret | apply DN.e_bin | apply DN.e_un | apply DN.e_fn | apply DN.e_cons | apply DN.e_b | apply DN.e_notT | apply DN.e_not | apply DN.e_and | apply DN.e_or | apply DN.e_andT | apply DN.e_orT | apply DN.e_chain | apply DN.e_asg | exact DN.o_add | exact DN.o_sub | exact DN.o_eqI | exact DN.o_neI | exact DN.o_I | exact DN.o_neg | exact DN.o_lst | exact DN.o_tup | exact DN.o_isN | exact DN.o_notN | exact DN.o_ty (by rfl) | exact DN.o_inst (by rfl)) | ((with_reducible apply DN.e_var); exact rfl) | exact DN.o_mulL (by decide) | exact DN.o_mulR (by decide) | exact DN.o_div (by decide) (by decide) | exact DN.o_mod (by decide) | exact DN.o_lenL | exact DN.o_lenT | exact DN.o_lenS))
      · (repeat' (first | (with_reducible first | exact DN.e_c | exact DN.e_nil | apply DN.e_set | apply DN.e_ret | apply DN.e_bin | apply DN.e_un | apply DN.e_fn | apply DN.e_cons | apply DN.e_b | apply DN.e_notT | apply DN.e_not | apply DN.e_and | apply DN.e_or | apply DN.e_andT | apply DN.e_orT | apply DN.e_chain | apply DN.e_asg | exact DN.o_add | exact DN.o_sub | exact DN.o_eqI | exact DN.o_neI | exact DN.o_I | exact DN.o_neg | exact DN.o_lst | exact DN.o_tup | exact DN.o_isN | exact DN.o_notN | exact DN.o_ty (by rfl) | exact DN.o_inst (by rfl)) | ((with_reducible apply DN.e_var); exact rfl) | exact DN.o_mulL (by decide) | exact DN.o_mulR (by decide) | exact DN.o_div (by decide) (by decide) | exact DN.o_mod (by decide) | exact DN.o_lenL | exact DN.o_lenT | exact DN.o_lenS | exact is_row_eq (pln_lst hp x hx)))
  | scr ns => unfold Pln at hp; cases hp
  | obj c ks ds => cases (pln_ob hp)
  | _ =>
    refine e_and (k := false) (l := false) ?_ (fun h => nomatch h)
    (repeat' (first | (with_reducible first | exact DN.e_c | exact DN.e_nil | apply DN.e_set | apply DN.e_ret | apply DN.e_bin | apply DN.e_un | apply DN.e_fn | apply DN.e_cons | apply DN.e_b | apply DN.e_notT | apply DN.e_not | apply DN.e_and | apply DN.e_or | apply DN.e_andT | apply DN.e_orT | apply DN.e_chain | apply DN.e_asg | exact DN.o_add | exact DN.o_sub | exact DN.o_eqI | exact DN.o_neI | exact DN.o_I | exact DN.o_neg | exact DN.o_lst | exact DN.o_tup | exact DN.o_isN | exact DN.o_notN | exact DN.o_ty (by rfl) | exact DN.o_inst (by rfl)) | ((with_reducible apply DN.e_var); exact rfl) | exact DN.o_mulL (by decide) | exact DN.o_mulR (by decide) | exact DN.o_div (by decide) (by decide) | exact DN.o_mod (by decide) | exact DN.o_lenL | exact DN.o_lenT | exact DN.o_lenS | exact hl0))
theorem is_way_eq {d : D} {m : Nat} (hp : Pln d = true) : M_is_way [d, .int (m : Nat)] = some (.bl (isWayD m d)) := by
  refine fn_rt (ρ := [some d, some (.int (m : Nat)), none, none]) rfl ?_
  unfold m_is_way
  have hq := pair_eq (pln_ob hp)
  by_cases h : isPair d = true
  · rw [h] at hq
    obtain ⟨a, b, rfl⟩ := isPair_of h
    have ha := pln_tup hp a (by simp)
    have hb := pln_tup hp b (by simp)
    apply e_seq
    · refine e_if (k := !true) ?_ e_nx
      apply e_notT
      apply e_b
      (repeat' (first | (with_reducible first | exact DN.e_c | exact DN.e_nil | apply DN.e_set | apply DN.e_ret | apply DN.e_bin | apply DN.e_un | apply DN.e_fn | apply DN.e_cons | apply DN.e_b | apply DN.e_notT | apply DN.e_not | apply DN.e_and | apply DN.e_or | apply DN.e_andT | apply DN.e_orT | apply DN.e_chain | apply DN.e_asg | exact DN.o_add | exact DN.o_sub | exact DN.o_eqI | exact DN.o_neI | exact DN.o_I | exact DN.o_neg | exact DN.o_lst | exact DN.o_tup | exact DN.o_isN | exact DN.o_notN | exact DN.o_ty (by rfl) | exact DN.o_inst (by rfl)) | ((with_reducible apply DN.e_var); exact rfl) | exact DN.o_mulL (by decide) | exact DN.o_mulR (by decide) | exact DN.o_div (by decide) (by decide) | exact DN.o_mod (by decide) | exact DN.o_lenL | exact DN.o_lenT | exact DN.o_lenS | exact hq))
    · apply e_seq
      · exact e_asg (e_var rfl) rfl
      · apply e_ret
        refine e_and (k := isRowsD m 0 4 a) (l := isRowsD m m m b) ?_ (fun _ => ?_)
        · (repeat' (first | (with_reducible first | exact DN.e_c | exact DN.e_nil | apply DN.e_set | apply DN.e_ret | apply DN.e_bin | apply DN.e_un | apply DN.e_fn | apply DN.e_cons | apply DN.e_b | apply DN.e_notT | apply DN.e_not | apply DN.e_and | apply DN.e_or | apply DN.e_andT | apply DN.e_orT | apply DN.e_chain | apply DN.e_asg | exact DN.o_add | exact DN.o_sub | exact DN.o_eqI | exact DN.o_neI | exact DN.o_I | exact DN.o_neg | exact DN.o_lst | exact DN.o_tup | exact DN.o_isN | exact DN.o_notN | exact DN.o_ty (by rfl) | exact DN.o_inst (by rfl)) | ((with_reducible apply DN.e_var); exact rfl) | exact DN.o_mulL (by decide) | exact DN.o_mulR (by decide) | exact DN.o_div (by decide) (by decide) | exact DN.o_mod (by decide) | exact DN.o_lenL | exact DN.o_lenT | exact DN.o_lenS | exact (show M_are_rows [a, .int (m : Nat), .int 0, .int 4] = some (.bl (isRowsD m 0 4 a)) from are_rows_eq (lo := 0) (hi := 4) ha)))
        · (repeat' (first | (with_reducible first | exact DN.e_c | exact DN.e_nil | apply DN.e_set | apply DN.e_ret | apply DN.e_bin | apply DN.e_un | apply DN.e_fn | apply DN.e_cons | apply DN.e_b | apply DN.e_notT | apply DN.e_not | apply DN.e_and | apply DN.e_or | apply DN.e_andT | apply DN.e_orT | apply DN.e_chain | apply DN.e_asg | exact DN.o_add | exact DN.o_sub | exact DN.o_eqI | exact DN.o_neI | exact DN.o_I | exact DN.o_neg | exact DN.o_lst | exact DN.o_tup | exact DN.o_isN | exact DN.o_notN | exact DN.o_ty (by rfl) | exact DN.o_inst (by rfl)) | ((with_reducible apply DN.e_var); exact rfl) | exact DN.o_mulL (by decide) | exact DN.o_mulR (by decide) | exact DN.o_div (by decide) (by decide) | exact DN.o_mod (by decide) | exact DN.o_lenL | exact DN.o_lenT | exact DN.o_lenS | exact (show M_are_rows [b, .int (m : Nat), .int (m : Nat), .int (m : Nat)] = some (.bl (isRowsD m m m b)) from are_rows_eq hb)))
  · have h' : isPair d = false := by simpa using h
    rw [h'] at hq
    have e : isWayD m d = false := by
      cases d with
      | tup ds =>
        match ds with
        | [a, b] => exact absurd rfl h
        | [] => rfl
        | [a] => rfl
        | a :: b :: c :: r => rfl
      | _ => rfl
    rw [e]
    apply e_seqR
    refine e_if (k := !false) ?_ (e_ret e_c)
    apply e_notT
    apply e_b
    (repeat' (first | (with_reducible first | exact DN.e_c | exact DN.e_nil | apply DN.e_set | apply DN.e_ret | apply DN.e_bin | apply DN.e_un | apply DN.e_fn | apply DN.e_cons | apply DN.e_b | apply DN.e_notT | apply DN.e_not | apply DN.e_and | apply DN.e_or | apply DN.e_andT | apply DN.e_orT | apply DN.e_chain | apply DN.e_asg | exact DN.o_add | exact DN.o_sub | exact DN.o_eqI | exact DN.o_neI | exact DN.o_I | exact DN.o_neg | exact DN.o_lst | exact DN.o_tup | exact DN.o_isN | exact DN.o_notN | exact DN.o_ty (by rfl) | exact DN.o_inst (by rfl)) | ((with_reducible apply DN.e_var); exact rfl) | exact DN.o_mulL (by decide) | exact DN.o_mulR (by decide) | exact DN.o_div (by decide) (by decide) | exact DN.o_mod (by decide) | exact DN.o_lenL | exact DN.o_lenT | exact DN.o_lenS | exact hq))
theorem is_loop_eq {d : D} (hp : Pln d = true) : M_is_loop [d] = some (.bl (isLoopD d)) := by
  refine fn_rt (ρ := [some d, none, none]) rfl ?_
  unfold m_is_loop
  have hq := pair_eq (pln_ob hp)
  by_cases h : isPair d = true
  · rw [h] at hq
    obtain ⟨a, b, rfl⟩ := isPair_of h
    have ha := pln_tup hp a (by simp)
    have hb := pln_tup hp b (by simp)
    have e1 := within_eq (lo := 1) (hi := 3) (pln_ob ha)
    have e2 := list_eq (lo := 1) (hi := 3) (pln_ob hb)
    apply e_seq
    · refine e_if (k := !true) ?_ e_nx
      apply e_notT
      apply e_b
      (repeat' (first | (with_reducible first | exact DN.e_c | exact DN.e_nil | apply DN.e_set | apply DN.e_ret | apply DN.e_bin | apply DN.e_un | apply DN.e_fn | apply DN.e_cons | apply DN.e_b | apply DN.e_notT | apply DN.e_not | apply DN.e_and | apply DN.e_or | apply DN.e_andT | apply DN.e_orT | apply DN.e_chain | apply DN.e_asg | exact DN.o_add | exact DN.o_sub | exact DN.o_eqI | exact DN.o_neI | exact DN.o_I | exact DN.o_neg | exact DN.o_lst | exact DN.o_tup | exact DN.o_isN | exact DN.o_notN | exact DN.o_ty (by rfl) | exact DN.o_inst (by rfl)) | ((with_reducible apply DN.e_var); exact rfl) | exact DN.o_mulL (by decide) | exact DN.o_mulR (by decide) | exact DN.o_div (by decide) (by decide) | exact DN.o_mod (by decide) | exact DN.o_lenL | exact DN.o_lenT | exact DN.o_lenS | exact hq))
    apply e_seq
    · exact e_asg (e_var rfl) rfl
    by_cases h1 : within 1 3 a = true
    · rw [h1] at e1
      obtain ⟨n, rfl⟩ : ∃ n, a = .int n := by
        cases a with
        | int n => exact ⟨n, rfl⟩
        | _ => cases h1
      have hn : 1 ≤ n ∧ n ≤ 3 := by
        have h1 : (decide (1 ≤ n) && decide (n ≤ 3)) = true := h1
        simpa using h1
      by_cases h2 : lenIn 1 3 b = true
      · rw [h2] at e2
        cases b with
        | lst ws =>
          have hw : (1 ≤ ws.length) ∧ ws.length ≤ 3 := by
            have h2 : (decide ((1 : Int) ≤ (ws.length : Int)) && decide ((ws.length : Int) ≤ 3)) = true := h2
            simp only [Bool.and_eq_true, decide_eq_true_eq] at h2
            omega
          have e : isLoopD (.tup [.int n, .lst ws]) = ws.all (isWayD n.toNat) := by
            show ((decide (1 ≤ n) && decide (n ≤ 3)) && (decide (1 ≤ ws.length) && decide (ws.length ≤ 3)) && ws.all (isWayD n.toNat)) = _
            rw [decide_eq_true hn.1, decide_eq_true hn.2, decide_eq_true hw.1, decide_eq_true hw.2]
            rfl
          rw [e]
          apply e_seq
          · refine e_if (k := false) ?_ e_nx
            refine e_orT (k := !true) (l := !true) ?_ (fun _ => ?_)
            · apply e_notT
              apply e_b
              (repeat' (first | (with_reducible first | exact DN.e_c | exact DN.e_nil | apply DN.e_set | apply DN.e_ret | apply DN.e_bin | apply DN.e_un | apply DN.e_fn | apply DN.e_cons | apply DN.e_b | apply DN.e_notT | apply DN.e_not | apply DN.e_and | apply DN.e_or | apply DN.e_andT | apply DN.e_orT | apply DN.e_chain | apply DN.e_asg | exact DN.o_add | exact DN.o_sub | exact DN.o_eqI | exact DN.o_neI | exact DN.o_I | exact DN.o_neg | exact DN.o_lst | exact DN.o_tup | exact DN.o_isN | exact DN.o_notN | exact DN.o_ty (by rfl) | exact DN.o_inst (by rfl)) | ((with_reducible apply DN.e_var); exact rfl) | exact DN.o_mulL (by decide) | exact DN.o_mulR (by decide) | exact DN.o_div (by decide) (by decide) | exact DN.o_mod (by decide) | exact DN.o_lenL | exact DN.o_lenT | exact DN.o_lenS | exact e1))
            · apply e_notT
              apply e_b
              (repeat' (first | (with_reducible first | exact DN.e_c | exact DN.e_nil | apply DN.e_set | apply DN.e_ret | apply DN.e_bin | apply DN.e_un | apply DN.e_fn | apply DN.e_cons | apply DN.e_b | apply DN.e_notT | apply DN.e_not | apply DN.e_and | apply DN.e_or | apply DN.e_andT | apply DN.e_orT | apply DN.e_chain | apply DN.e_asg | exact DN.o_add | exact DN.o_sub | exact DN.o_eqI | exact DN.o_neI | exact DN.o_I | exact DN.o_neg | exact DN.o_lst | exact DN.o_tup | exact DN.o_isN | exact DN.o_notN | exact DN.o_ty (by rfl) | exact DN.o_inst (by rfl)) | ((with_reducible apply DN.e_var); exact rfl) | exact DN.o_mulL (by decide) | exact DN.o_mulR (by decide) | exact DN.o_div (by decide) (by decide) | exact DN.o_mod (by decide) | exact DN.o_lenL | exact DN.o_lenT | exact DN.o_lenS | exact e2))
          · apply e_ret
            refine e_all (emb := id) (e_ls ?_) fun w hw => ?_
            · rw [List.map_id]
              (repeat' (first | (with_reducible first | exact DN.e_c | exact DN.e_nil | apply DN.e_set | apply DN.e_ret | apply DN.e_bin | apply DN.e_un | apply DN.e_fn | apply DN.e_cons | apply DN.e_b | apply DN.e_notT | apply DN.e_not | apply DN.e_and | apply DN.e_or | apply DN.e_andT | apply DN.e_orT | apply DN.e_chain | apply DN.e_asg | exact DN.o_add | exact DN.o_sub | exact DN.o_eqI | exact DN.o_neI | exact DN.o_I | exact DN.o_neg | exact DN.o_lst | exact DN.o_tup | exact DN.o_isN | exact DN.o_notN | exact DN.o_ty (by rfl) | exact DN.o_inst (by rfl)) | ((with_reducible apply DN.e_var); exact rfl) | exact DN.o_mulL (by decide) | exact DN.o_mulR (by decide) | exact DN.o_div (by decide) (by decide) | exact DN.o_mod (by decide) | exact DN.o_lenL | exact DN.o_lenT | exact DN.o_lenS))
            · have e3 : n = ((n.toNat : Nat) : Int) := by omega
              have e4 := is_way_eq (m := n.toNat) (pln_lst hb w hw)
              rw [← e3] at e4
              (repeat' (first | (with_reducible first | exact DN.e_c | exact DN.e_nil | apply DN.e_set | apply DN.e_ret | apply DN.e_bin | apply DN.e_un | apply DN.e_fn | apply DN.e_cons | apply DN.e_b | apply DN.e_notT | apply DN.e_not | apply DN.e_and | apply DN.e_or | apply DN.e_andT | apply DN.e_orT | apply DN.e_chain | apply DN.e_asg | exact DN.o_add | exact DN.o_sub | exact DN.o_eqI | exact DN.o_neI | exact DN.o_I | exact DN.o_neg | exact DN.o_lst | exact DN.o_tup | exact DN.o_isN | exact DN.o_notN | exact DN.o_ty (by rfl) | exact DN.o_inst (by rfl)) | ((with_reducible apply DN.e_var); exact rfl) | exact DN.o_mulL (by decide) | exact DN.o_mulR (by decide) | exact DN.o_div (by decide) (by decide) | exact DN.o_mod (by decide) | exact DN.o_lenL | exact DN.o_lenT | exact DN.o_lenS | exact e4))
        | scr ns => unfold Pln at hb; cases hb
        | _ => cases h2
      · have h2' : lenIn 1 3 b = false := by simpa using h2
        rw [h2'] at e2
        have e : isLoopD (.tup [.int n, b]) = false := by
          cases b with
          | lst ws =>
            show ((decide (1 ≤ n) && decide (n ≤ 3)) && (decide (1 ≤ ws.length) && decide (ws.length ≤ 3)) && ws.all (isWayD n.toNat)) = _
            have h2' : (decide ((1 : Int) ≤ (ws.length : Int)) && decide ((ws.length : Int) ≤ 3)) = false := h2'
            have : (decide (1 ≤ ws.length) && decide (ws.length ≤ 3)) = false := by
              rw [← h2']
              congr 1 <;> exact decide_eq_decide.mpr (by omega)
            rw [this]
            simp
          | _ => rfl
        rw [e]
        apply e_seqR
        refine e_if (k := true) ?_ (e_ret e_c)
        refine e_orT (k := !true) (l := !false) ?_ (fun _ => ?_)
        · apply e_notT
          apply e_b
          (repeat' (first | (with_reducible first | exact DN.e_c | exact DN.e_nil | apply DN.e_set | apply DN.e_ret | apply DN.e_bin | apply DN.e_un | apply DN.e_fn | apply DN.e_cons | apply DN.e_b | apply DN.e_notT | apply DN.e_not | apply DN.e_and | apply DN.e_or | apply DN.e_andT | apply DN.e_orT | apply DN.e_chain | apply DN.e_asg | exact DN.o_add | exact DN.o_sub | exact DN.o_eqI | exact DN.o_neI | exact DN.o_I | exact DN.o_neg | exact DN.o_lst | exact DN.o_tup | exact DN.o_isN | exact DN.o_notN | exact DN.o_ty (by rfl) | exact DN.o_inst (by rfl)) | ((with_reducible apply DN.e_var); exact rfl) | exact DN.o_mulL (by decide) | exact DN.o_mulR (by decide) | exact DN.o_div (by decide) (by decide) | exact DN.o_mod (by decide) | exact DN.o_lenL | exact DN.o_lenT | exact DN.o_lenS | exact e1))
        · apply e_notT
          apply e_b
          (repeat' (first | (with_reducible first | exact DN.e_c | exact DN.e_nil | apply DN.e_set | apply DN.e_ret | apply DN.e_bin | apply DN.e_un | apply DN.e_fn | apply DN.e_cons | apply DN.e_b | apply DN.e_notT | apply DN.e_not | apply DN.e_and | apply DN.e_or | apply DN.e_andT | apply DN.e_orT | apply DN.e_chain | apply DN.e_asg | exact DN.o_add | exact DN.o_sub | exact DN.o_eqI | exact DN.o_neI | exact DN.o_I | exact DN.o_neg | exact DN.o_lst | exact DN.o_tup | exact DN.o_isN | exact DN.o_notN | exact DN.o_ty (by rfl) | exact DN.o_inst (by rfl)) | ((with_reducible apply DN.e_var); exact rfl) | exact DN.o_mulL (by decide) | exact DN.o_mulR (by decide) | exact DN.o_div (by decide) (by decide) | exact DN.o_mod (by decide) | exact DN.o_lenL | exact DN.o_lenT | exact DN.o_lenS | exact e2))
    · have h1' : within 1 3 a = false := by simpa using h1
      rw [h1'] at e1
      have e : isLoopD (.tup [a, b]) = false := by
        cases a with
        | int n =>
          cases b with
          | lst ws =>
            show ((decide (1 ≤ n) && decide (n ≤ 3)) && (decide (1 ≤ ws.length) && decide (ws.length ≤ 3)) && ws.all (isWayD n.toNat)) = _
            rw [show (decide (1 ≤ n) && decide (n ≤ 3)) = false from h1']
            rfl
          | _ => rfl
        | _ => rfl
      rw [e]
      apply e_seqR
      refine e_if (k := true) ?_ (e_ret e_c)
      refine e_orT (k := !false) (l := true) ?_ (fun z => nomatch z)
      apply e_notT
      apply e_b
      (repeat' (first | (with_reducible first | exact DN.e_c | exact DN.e_nil | apply DN.e_set | apply DN.e_ret | apply DN.e_bin | apply DN.e_un | apply DN.e_fn | apply DN.e_cons | apply DN.e_b | apply DN.e_notT | apply DN.e_not | apply DN.e_and | apply DN.e_or | apply DN.e_andT | apply DN.e_orT | apply DN.e_chain | apply DN.e_asg | exact DN.o_add | exact DN.o_sub | exact DN.o_eqI | exact DN.o_neI | exact DN.o_I | exact DN.o_neg | exact DN.o_lst | exact DN.o_tup | exact DN.o_isN | exact DN.o_notN | exact DN.o_ty (by rfl) | exact DN.o_inst (by rfl)) | ((with_reducible apply DN.e_var); exact rfl) | exact DN.o_mulL (by decide) | exact DN.o_mulR (by decide) | exact DN.o_div (by decide) (by decide) | exact DN.o_mod (by decide) | exact DN.o_lenL | exact DN.o_lenT | exact DN.o_lenS | exact e1))
  · have h' : isPair d = false := by simpa using h
    rw [h'] at hq
    have e : isLoopD d = false := by
      cases d with
      | tup ds =>
        match ds with
        | [a, b] => exact absurd rfl h
        | [] => rfl
        | [a] => cases a <;> rfl
        | a :: b :: c :: r => cases a <;> first | rfl | (cases b <;> rfl)
      | _ => rfl
    rw [e]
    apply e_seqR
    refine e_if (k := !false) ?_ (e_ret e_c)
    apply e_notT
    apply e_b
    (repeat' (first | (with_reducible first | exact DN.e_c | exact DN.e_nil | apply DN.e_set | apply DN.e_ret | apply DN.e_bin | apply DN.e_un | apply DN.e_fn | apply DN.e_cons | apply DN.e_b | apply DN.e_notT | apply DN.e_not | apply DN.e_and | apply DN.e_or | apply DN.e_andT | apply DN.e_orT | apply DN.e_chain | apply DN.e_asg | exact DN.o_add | exact DN.o_sub | exact DN.o_eqI | exact DN.o_neI | exact DN.o_I | exact DN.o_neg | exact DN.o_lst | exact DN.o_tup | exact DN.o_isN | exact DN.o_notN | exact DN.o_ty (by rfl) | exact DN.o_inst (by rfl)) | ((with_reducible apply DN.e_var); exact rfl) | exact DN.o_mulL (by decide) | exact DN.o_mulR (by decide) | exact DN.o_div (by decide) (by decide) | exact DN.o_mod (by decide) | exact DN.o_lenL | exact DN.o_lenT | exact DN.o_lenS | exact hq))
theorem need_loopD {d : D} (hp : Pln d = true) : M_need_loop [d] = some (if isLoopD d = true then .ok .non else .er "BadLoop") := by
  have e := is_loop_eq hp
  by_cases h : isLoopD d = true
  · rw [if_pos h]
    rw [h] at e
    refine fr_nx (ρ := [some d]) rfl (ρ1 := [some d]) ?_
    unfold m_need_loop
    refine e_if (k := !true) ?_ e_nx
    apply e_notT
    apply e_b
    (repeat' (first | (with_reducible first | exact DN.e_c | exact DN.e_nil | apply DN.e_set | apply DN.e_ret | apply DN.e_bin | apply DN.e_un | apply DN.e_fn | apply DN.e_cons | apply DN.e_b | apply DN.e_notT | apply DN.e_not | apply DN.e_and | apply DN.e_or | apply DN.e_andT | apply DN.e_orT | apply DN.e_chain | apply DN.e_asg | exact DN.o_add | exact DN.o_sub | exact DN.o_eqI | exact DN.o_neI | exact DN.o_I | exact DN.o_neg | exact DN.o_lst | exact DN.o_tup | exact DN.o_isN | exact DN.o_notN | exact DN.o_ty (by rfl) | exact DN.o_inst (by rfl)) | ((with_reducible apply DN.e_var); exact rfl) | exact DN.o_mulL (by decide) | exact DN.o_mulR (by decide) | exact DN.o_div (by decide) (by decide) | exact DN.o_mod (by decide) | exact DN.o_lenL | exact DN.o_lenT | exact DN.o_lenS | exact e))
  · rw [if_neg h]
    have h' : isLoopD d = false := by simpa using h
    rw [h'] at e
    refine fr_ex (ρ := [some d]) rfl ?_
    unfold m_need_loop
    refine e_if (k := !false) ?_ rfl
    apply e_notT
    apply e_b
    (repeat' (first | (with_reducible first | exact DN.e_c | exact DN.e_nil | apply DN.e_set | apply DN.e_ret | apply DN.e_bin | apply DN.e_un | apply DN.e_fn | apply DN.e_cons | apply DN.e_b | apply DN.e_notT | apply DN.e_not | apply DN.e_and | apply DN.e_or | apply DN.e_andT | apply DN.e_orT | apply DN.e_chain | apply DN.e_asg | exact DN.o_add | exact DN.o_sub | exact DN.o_eqI | exact DN.o_neI | exact DN.o_I | exact DN.o_neg | exact DN.o_lst | exact DN.o_tup | exact DN.o_isN | exact DN.o_notN | exact DN.o_ty (by rfl) | exact DN.o_inst (by rfl)) | ((with_reducible apply DN.e_var); exact rfl) | exact DN.o_mulL (by decide) | exact DN.o_mulR (by decide) | exact DN.o_div (by decide) (by decide) | exact DN.o_mod (by decide) | exact DN.o_lenL | exact DN.o_lenT | exact DN.o_lenS | exact e))
/-! loops that are some -/
theorem row_is {r : List Int} {m : Nat} (h : RowOk m r) : isRowD m (LI r) = true := by
  show (decide ((r.map D.int).length = m + 1) && (r.map D.int).all (within (-1000) 1000)) = true
  rw [List.length_map, decide_eq_true h.1, Bool.true_and]
  exact all_of fun d hd => by
    obtain ⟨x, hx, rfl⟩ := List.mem_map.mp hd
    exact within_true (h.2 x hx).1 (h.2 x hx).2
theorem rows_is {l : List (List Int)} {m lo hi : Nat} (h : ∀ r ∈ l, RowOk m r) (h1 : lo ≤ l.length) (h2 : l.length ≤ hi) : isRowsD m lo hi (LR l) = true := by
  show ((decide (lo ≤ (l.map LI).length) && decide ((l.map LI).length ≤ hi)) && (l.map LI).all (isRowD m)) = true
  rw [List.length_map, decide_eq_true h1, decide_eq_true h2, Bool.true_and, Bool.true_and]
  exact all_of fun d hd => by
    obtain ⟨x, hx, rfl⟩ := List.mem_map.mp hd
    exact row_is (h x hx)
theorem way_is {w : Way} {m : Nat} (h : WayOk m w) : isWayD m (dW w) = true := by
  show (isRowsD m 0 4 (LR w.asks) && isRowsD m m m (LR w.gives)) = true
  rw [rows_is h.2.1 (by omega) h.1, rows_is h.2.2.2 (by rw [h.2.2.1]; exact Nat.le_refl _) (by rw [h.2.2.1]; exact Nat.le_refl _)]
  rfl
theorem pln_dW {w : Way} : Pln (dW w) = true := by
  unfold dW Pln Plns Plns Plns
  rw [pln_LR, pln_LR]; rfl
theorem pln_dL {L : Lp} : Pln (dL L) = true := by
  unfold dL Pln Plns Plns Plns
  rw [show Pln (.lst (L.ways.map dW)) = true from by
    unfold Pln
    exact plns_of fun d hd => by
      obtain ⟨x, _, rfl⟩ := List.mem_map.mp hd
      exact pln_dW]
  unfold Pln; rfl
theorem loop_is {L : Lp} (h : LpOk L) : isLoopD (dL L) = true := by
  have b1 := h.m1
  have b2 := h.m3
  have b3 := h.w1
  have b4 := h.w3
  show ((decide (1 ≤ ((L.many : Nat) : Int)) && decide (((L.many : Nat) : Int) ≤ 3)) && (decide (1 ≤ (L.ways.map dW).length) && decide ((L.ways.map dW).length ≤ 3)) && (L.ways.map dW).all (isWayD ((L.many : Nat) : Int).toNat)) = true
  rw [List.length_map, decide_eq_true b3, decide_eq_true b4, decide_eq_true (show 1 ≤ ((L.many : Nat) : Int) by omega), decide_eq_true (show ((L.many : Nat) : Int) ≤ 3 by omega)]
  simp only [Bool.true_and, Bool.and_self]
  exact all_of fun d hd => by
    obtain ⟨x, hx, rfl⟩ := List.mem_map.mp hd
    exact way_is (h.ok x hx)
theorem need_loop_eq {L : Lp} (h : LpOk L) : M_need_loop [dL L] = some (.ok .non) := by rw [need_loopD pln_dL, if_pos (loop_is h)]
end K01

set_option Elab.async false
set_option linter.all false
set_option maxRecDepth 100000
set_option maxHeartbeats 400000
namespace K01
open PySem PySem.Spec PyProof.Rows L2 DN
/-! ### odd things, of bounded depth and length -/
mutual
def Jk : Nat → D → Bool
  | _, .non => true
  | _, .bl _ => true
  | _, .int _ => true
  | _, .str _ => true
  | _, .dct => true
  | n + 1, .lst ds => decide (ds.length ≤ 1000) && Jks n ds
  | n + 1, .tup ds => decide (ds.length ≤ 1000) && Jks n ds
  | _, _ => false
def Jks : Nat → List D → Bool
  | _, [] => true
  | n, d :: ds => Jk n d && Jks n ds
end
theorem jks_mem {n : Nat} : ∀ {ds : List D}, Jks n ds = true → ∀ d ∈ ds, Jk n d = true
  | d :: ds, h, e, he => by
    unfold Jks at h
    rw [Bool.and_eq_true] at h
    rcases List.mem_cons.mp he with rfl | he
    · exact h.1
    · exact jks_mem h.2 e he
theorem jks_of {n : Nat} : ∀ {ds : List D}, (∀ d ∈ ds, Jk n d = true) → Jks n ds = true
  | [], _ => by unfold Jks; rfl
  | d :: ds, h => by
    unfold Jks
    rw [h d List.mem_cons_self, jks_of fun e he => h e (List.mem_cons_of_mem _ he)]
    rfl
theorem jk_L {n : Nat} {ds : List D} (hl : ds.length ≤ 1000) (h : ∀ d ∈ ds, Jk n d = true) : Jk (n + 1) (.lst ds) = true := by
  unfold Jk
  rw [decide_eq_true hl, jks_of h]; rfl
theorem jk_T {n : Nat} {ds : List D} (hl : ds.length ≤ 1000) (h : ∀ d ∈ ds, Jk n d = true) : Jk (n + 1) (.tup ds) = true := by
  unfold Jk
  rw [decide_eq_true hl, jks_of h]; rfl
theorem jk_lst {n : Nat} {ds : List D} (h : Jk n (.lst ds) = true) : ds.length ≤ 1000 ∧ ∃ k, n = k + 1 ∧ ∀ d ∈ ds, Jk k d = true := by
  cases n with
  | zero => unfold Jk at h; cases h
  | succ n =>
    unfold Jk at h
    rw [Bool.and_eq_true, decide_eq_true_eq] at h
    exact ⟨h.1, n, rfl, jks_mem h.2⟩
theorem jk_tup {n : Nat} {ds : List D} (h : Jk n (.tup ds) = true) : ds.length ≤ 1000 ∧ ∃ k, n = k + 1 ∧ ∀ d ∈ ds, Jk k d = true := by
  cases n with
  | zero => unfold Jk at h; cases h
  | succ n =>
    unfold Jk at h
    rw [Bool.and_eq_true, decide_eq_true_eq] at h
    exact ⟨h.1, n, rfl, jks_mem h.2⟩
theorem jk_int {n : Nat} {i : Int} : Jk n (.int i) = true := by unfold Jk; rfl
theorem jk_non {n : Nat} : Jk n .non = true := by unfold Jk; rfl
theorem jk_bl {n : Nat} {b : Bool} : Jk n (.bl b) = true := by unfold Jk; rfl
theorem jk_str {n : Nat} {b : Str} : Jk n (.str b) = true := by unfold Jk; rfl
theorem jk_dct {n : Nat} : Jk n .dct = true := by unfold Jk; rfl
theorem jk_succ : ∀ {n : Nat} {d : D}, Jk n d = true → Jk (n + 1) d = true := by
  intro n
  induction n with
  | zero =>
    intro d h
    cases d with
    | lst ds => unfold Jk at h; cases h
    | tup ds => unfold Jk at h; cases h
    | scr ds => unfold Jk at h; cases h
    | obj a b c => unfold Jk at h; cases h
    | _ => unfold Jk; rfl
  | succ n ih =>
    intro d h
    cases d with
    | lst ds =>
      obtain ⟨h1, k, e, h2⟩ := jk_lst h
      cases e
      exact jk_L h1 fun d hd => ih (h2 d hd)
    | tup ds =>
      obtain ⟨h1, k, e, h2⟩ := jk_tup h
      cases e
      exact jk_T h1 fun d hd => ih (h2 d hd)
    | scr ds => unfold Jk at h; cases h
    | obj a b c => unfold Jk at h; cases h
    | _ => unfold Jk; rfl
theorem jk_le {n m : Nat} {d : D} (hm : n ≤ m) (h : Jk n d = true) : Jk m d = true := by
  obtain ⟨k, rfl⟩ := Nat.exists_eq_add_of_le hm
  clear hm
  induction k with
  | zero => exact h
  | succ k ih => exact jk_succ ih
theorem jk_LI {n : Nat} {l : List Int} (h : l.length ≤ 1000) : Jk (n + 1) (LI l) = true := jk_L (by rw [List.length_map]; exact h) fun d hd => by
  obtain ⟨x, _, rfl⟩ := List.mem_map.mp hd
  exact jk_int
theorem jk_LR {n : Nat} {l : List (List Int)} (h : l.length ≤ 1000) (h2 : ∀ r ∈ l, r.length ≤ 1000) : Jk (n + 2) (LR l) = true := jk_L (by rw [List.length_map]; exact h) fun d hd => by
  obtain ⟨x, hx, rfl⟩ := List.mem_map.mp hd
  exact jk_LI (h2 x hx)
theorem jk_dW {n m : Nat} {w : Way} (hm : m ≤ 3) (h : WayOk m w) : Jk (n + 3) (dW w) = true := by
  obtain ⟨h1, h2, h3, h4⟩ := h
  refine jk_T (by simp) fun d hd => ?_
  rcases List.mem_cons.mp hd with rfl | hd
  · exact jk_LR (by omega) fun r hr => by have := (h2 r hr).1; omega
  · rw [List.mem_singleton.mp hd]
    exact jk_LR (by omega) fun r hr => by have := (h4 r hr).1; omega
theorem jk_ways {n : Nat} {L : Lp} (h : LpOk L) : Jk (n + 4) (.lst (L.ways.map dW)) = true := by
  refine jk_L (by rw [List.length_map]; have := h.w3; omega) fun d hd => ?_
  obtain ⟨w, hw, rfl⟩ := List.mem_map.mp hd
  exact jk_dW h.m3 (h.ok w hw)
theorem jk_dL {n : Nat} {L : Lp} (h : LpOk L) : Jk (n + 5) (dL L) = true := by
  refine jk_T (by simp) fun d hd => ?_
  rcases List.mem_cons.mp hd with rfl | hd
  · exact jk_int
  · rw [List.mem_singleton.mp hd]
    exact jk_ways h
theorem jk_pln : ∀ {n : Nat} {d : D}, Jk n d = true → Pln d = true := by
  intro n
  induction n with
  | zero =>
    intro d h
    cases d with
    | lst ds => unfold Jk at h; cases h
    | tup ds => unfold Jk at h; cases h
    | scr ds => unfold Jk at h; cases h
    | obj a b c => unfold Jk at h; cases h
    | _ => unfold Pln; rfl
  | succ n ih =>
    intro d h
    cases d with
    | lst ds =>
      obtain ⟨h1, k, e, h2⟩ := jk_lst h
      cases e
      exact pln_L fun d hd => ih (h2 d hd)
    | tup ds =>
      obtain ⟨h1, k, e, h2⟩ := jk_tup h
      cases e
      exact pln_T fun d hd => ih (h2 d hd)
    | scr ds => unfold Jk at h; cases h
    | obj a b c => unfold Jk at h; cases h
    | _ => unfold Pln; rfl
theorem jk_ok : ∀ {n : Nat} {d : D}, Jk n d = true → okS n d = true := by
  intro n
  induction n with
  | zero =>
    intro d h
    cases d with
    | lst ds => unfold Jk at h; cases h
    | tup ds => unfold Jk at h; cases h
    | scr ds => unfold Jk at h; cases h
    | obj a b c => unfold Jk at h; cases h
    | _ => unfold okS; rfl
  | succ n ih =>
    intro d h
    cases d with
    | lst ds =>
      obtain ⟨h1, k, e, h2⟩ := jk_lst h
      cases e
      exact okS_lst fun d hd => ih (h2 d hd)
    | tup ds =>
      obtain ⟨h1, k, e, h2⟩ := jk_tup h
      cases e
      exact okS_tup fun d hd => ih (h2 d hd)
    | scr ds => unfold Jk at h; cases h
    | obj a b c => unfold Jk at h; cases h
    | _ => unfold okS; rfl
/-- copies -/
theorem copied_jk : ∀ (n : Nat) (d : D), Jk n d = true → M_law_copied_n (n + 1) [d] = some d := by
  have scal : ∀ (n : Nat) (d : D), gInst "list" d = some (.bl false) → gInst "tuple" d = some (.bl false) → M_law_copied_n (n + 1) [d] = some d := fun n d h1 h2 => by
    refine fn_rt (ρ := [some d, none]) rfl ?_
    unfold m_law_copied
    apply e_seq
    · apply e_ifF
      · (repeat' (first | (with_reducible first | exact DN.e_c | exact DN.e_nil | apply DN.e_set | apply DN.e_ret | apply DN.e_bin | apply DN.e_un | apply DN.e_fn | apply DN.e_cons | apply DN.e_b | apply DN.e_notT | apply DN.e_not | apply DN.e_and | apply DN.e_or | apply DN.e_andT | apply DN.e_orT | apply DN.e_chain | apply DN.e_asg | exact DN.o_add | exact DN.o_sub | exact DN.o_eqI | exact DN.o_neI | exact DN.o_I | exact DN.o_neg | exact DN.o_lst | exact DN.o_tup | exact DN.o_isN | exact DN.o_notN | exact DN.o_ty (by rfl) | exact DN.o_inst (by rfl)) | ((with_reducible apply DN.e_var); exact rfl) | exact DN.o_mulL (by decide) | exact DN.o_mulR (by decide) | exact DN.o_div (by decide) (by decide) | exact DN.o_mod (by decide) | exact DN.o_lenL | exact DN.o_lenT | exact DN.o_lenS | exact h1))
      · exact e_nx
    · apply e_seq
      · apply e_ifF
        · (repeat' (first | (with_reducible first | exact DN.e_c | exact DN.e_nil | apply DN.e_set | apply DN.e_ret | apply DN.e_bin | apply DN.e_un | apply DN.e_fn | apply DN.e_cons | apply DN.e_b | apply DN.e_notT | apply DN.e_not | apply DN.e_and | apply DN.e_or | apply DN.e_andT | apply DN.e_orT | apply DN.e_chain | apply DN.e_asg | exact DN.o_add | exact DN.o_sub | exact DN.o_eqI | exact DN.o_neI | exact DN.o_I | exact DN.o_neg | exact DN.o_lst | exact DN.o_tup | exact DN.o_isN | exact DN.o_notN | exact DN.o_ty (by rfl) | exact DN.o_inst (by rfl)) | ((with_reducible apply DN.e_var); exact rfl) | exact DN.o_mulL (by decide) | exact DN.o_mulR (by decide) | exact DN.o_div (by decide) (by decide) | exact DN.o_mod (by decide) | exact DN.o_lenL | exact DN.o_lenT | exact DN.o_lenS | exact h2))
        · exact e_nx
      · (repeat' (first | (with_reducible first | exact DN.e_c | exact DN.e_nil | apply DN.e_set | apply DN.e_ret | apply DN.e_bin | apply DN.e_un | apply DN.e_fn | apply DN.e_cons | apply DN.e_b | apply DN.e_notT | apply DN.e_not | apply DN.e_and | apply DN.e_or | apply DN.e_andT | apply DN.e_orT | apply DN.e_chain | apply DN.e_asg | exact DN.o_add | exact DN.o_sub | exact DN.o_eqI | exact DN.o_neI | exact DN.o_I | exact DN.o_neg | exact DN.o_lst | exact DN.o_tup | exact DN.o_isN | exact DN.o_notN | exact DN.o_ty (by rfl) | exact DN.o_inst (by rfl)) | ((with_reducible apply DN.e_var); exact rfl) | exact DN.o_mulL (by decide) | exact DN.o_mulR (by decide) | exact DN.o_div (by decide) (by decide) | exact DN.o_mod (by decide) | exact DN.o_lenL | exact DN.o_lenT | exact DN.o_lenS))
  intro n
  induction n with
  | zero =>
    intro d h
    cases d with
    | lst ds => unfold Jk at h; cases h
    | tup ds => unfold Jk at h; cases h
    | scr ds => unfold Jk at h; cases h
    | obj a b c => unfold Jk at h; cases h
    | _ => exact scal _ _ rfl rfl
  | succ n ih =>
    intro d h
    cases d with
    | lst ds =>
      obtain ⟨h1, k, e, h2⟩ := jk_lst h
      cases e
      refine fn_rt (ρ := [some (.lst ds), none]) rfl ?_
      unfold m_law_copied
      apply e_seqR
      apply e_ifT
      · (repeat' (first | (with_reducible first | exact DN.e_c | exact DN.e_nil | apply DN.e_set | apply DN.e_ret | apply DN.e_bin | apply DN.e_un | apply DN.e_fn | apply DN.e_cons | apply DN.e_b | apply DN.e_notT | apply DN.e_not | apply DN.e_and | apply DN.e_or | apply DN.e_andT | apply DN.e_orT | apply DN.e_chain | apply DN.e_asg | exact DN.o_add | exact DN.o_sub | exact DN.o_eqI | exact DN.o_neI | exact DN.o_I | exact DN.o_neg | exact DN.o_lst | exact DN.o_tup | exact DN.o_isN | exact DN.o_notN | exact DN.o_ty (by rfl) | exact DN.o_inst (by rfl)) | ((with_reducible apply DN.e_var); exact rfl) | exact DN.o_mulL (by decide) | exact DN.o_mulR (by decide) | exact DN.o_div (by decide) (by decide) | exact DN.o_mod (by decide) | exact DN.o_lenL | exact DN.o_lenT | exact DN.o_lenS))
        rfl
      · apply e_ret
        refine e_lcAll (e_ls ?_) (by omega) fun d hd => ⟨rfl, ?_⟩
        · (repeat' (first | (with_reducible first | exact DN.e_c | exact DN.e_nil | apply DN.e_set | apply DN.e_ret | apply DN.e_bin | apply DN.e_un | apply DN.e_fn | apply DN.e_cons | apply DN.e_b | apply DN.e_notT | apply DN.e_not | apply DN.e_and | apply DN.e_or | apply DN.e_andT | apply DN.e_orT | apply DN.e_chain | apply DN.e_asg | exact DN.o_add | exact DN.o_sub | exact DN.o_eqI | exact DN.o_neI | exact DN.o_I | exact DN.o_neg | exact DN.o_lst | exact DN.o_tup | exact DN.o_isN | exact DN.o_notN | exact DN.o_ty (by rfl) | exact DN.o_inst (by rfl)) | ((with_reducible apply DN.e_var); exact rfl) | exact DN.o_mulL (by decide) | exact DN.o_mulR (by decide) | exact DN.o_div (by decide) (by decide) | exact DN.o_mod (by decide) | exact DN.o_lenL | exact DN.o_lenT | exact DN.o_lenS))
        · (repeat' (first | (with_reducible first | exact DN.e_c | exact DN.e_nil | apply DN.e_set | apply DN.e_ret | apply DN.e_bin | apply DN.e_un | apply DN.e_fn | apply DN.e_cons | apply DN.e_b | apply DN.e_notT | apply DN.e_not | apply DN.e_and | apply DN.e_or | apply DN.e_andT | apply DN.e_orT | apply DN.e_chain | apply DN.e_asg | exact DN.o_add | exact DN.o_sub | exact DN.o_eqI | exact DN.o_neI | exact DN.o_I | exact DN.o_neg | exact DN.o_lst | exact DN.o_tup | exact DN.o_isN | exact DN.o_notN | exact DN.o_ty (by rfl) | exact DN.o_inst (by rfl)) | ((with_reducible apply DN.e_var); exact rfl) | exact DN.o_mulL (by decide) | exact DN.o_mulR (by decide) | exact DN.o_div (by decide) (by decide) | exact DN.o_mod (by decide) | exact DN.o_lenL | exact DN.o_lenT | exact DN.o_lenS | exact ih d (h2 d hd)))
    | tup ds =>
      obtain ⟨h1, k, e, h2⟩ := jk_tup h
      cases e
      refine fn_rt (ρ := [some (.tup ds), none]) rfl ?_
      unfold m_law_copied
      apply e_seq
      · apply e_ifF
        · (repeat' (first | (with_reducible first | exact DN.e_c | exact DN.e_nil | apply DN.e_set | apply DN.e_ret | apply DN.e_bin | apply DN.e_un | apply DN.e_fn | apply DN.e_cons | apply DN.e_b | apply DN.e_notT | apply DN.e_not | apply DN.e_and | apply DN.e_or | apply DN.e_andT | apply DN.e_orT | apply DN.e_chain | apply DN.e_asg | exact DN.o_add | exact DN.o_sub | exact DN.o_eqI | exact DN.o_neI | exact DN.o_I | exact DN.o_neg | exact DN.o_lst | exact DN.o_tup | exact DN.o_isN | exact DN.o_notN | exact DN.o_ty (by rfl) | exact DN.o_inst (by rfl)) | ((with_reducible apply DN.e_var); exact rfl) | exact DN.o_mulL (by decide) | exact DN.o_mulR (by decide) | exact DN.o_div (by decide) (by decide) | exact DN.o_mod (by decide) | exact DN.o_lenL | exact DN.o_lenT | exact DN.o_lenS))
          rfl
        · exact e_nx
      · apply e_seqR
        apply e_ifT
        · (repeat' (first | (with_reducible first | exact DN.e_c | exact DN.e_nil | apply DN.e_set | apply DN.e_ret | apply DN.e_bin | apply DN.e_un | apply DN.e_fn | apply DN.e_cons | apply DN.e_b | apply DN.e_notT | apply DN.e_not | apply DN.e_and | apply DN.e_or | apply DN.e_andT | apply DN.e_orT | apply DN.e_chain | apply DN.e_asg | exact DN.o_add | exact DN.o_sub | exact DN.o_eqI | exact DN.o_neI | exact DN.o_I | exact DN.o_neg | exact DN.o_lst | exact DN.o_tup | exact DN.o_isN | exact DN.o_notN | exact DN.o_ty (by rfl) | exact DN.o_inst (by rfl)) | ((with_reducible apply DN.e_var); exact rfl) | exact DN.o_mulL (by decide) | exact DN.o_mulR (by decide) | exact DN.o_div (by decide) (by decide) | exact DN.o_mod (by decide) | exact DN.o_lenL | exact DN.o_lenT | exact DN.o_lenS))
          rfl
        · apply e_ret
          apply e_fn
          · apply e_cons
            · refine e_lcAll (e_tu (ds := ds) ?_) (by omega) fun d hd => ⟨rfl, ?_⟩
              · (repeat' (first | (with_reducible first | exact DN.e_c | exact DN.e_nil | apply DN.e_set | apply DN.e_ret | apply DN.e_bin | apply DN.e_un | apply DN.e_fn | apply DN.e_cons | apply DN.e_b | apply DN.e_notT | apply DN.e_not | apply DN.e_and | apply DN.e_or | apply DN.e_andT | apply DN.e_orT | apply DN.e_chain | apply DN.e_asg | exact DN.o_add | exact DN.o_sub | exact DN.o_eqI | exact DN.o_neI | exact DN.o_I | exact DN.o_neg | exact DN.o_lst | exact DN.o_tup | exact DN.o_isN | exact DN.o_notN | exact DN.o_ty (by rfl) | exact DN.o_inst (by rfl)) | ((with_reducible apply DN.e_var); exact rfl) | exact DN.o_mulL (by decide) | exact DN.o_mulR (by decide) | exact DN.o_div (by decide) (by decide) | exact DN.o_mod (by decide) | exact DN.o_lenL | exact DN.o_lenT | exact DN.o_lenS))
              · (repeat' (first | (with_reducible first | exact DN.e_c | exact DN.e_nil | apply DN.e_set | apply DN.e_ret | apply DN.e_bin | apply DN.e_un | apply DN.e_fn | apply DN.e_cons | apply DN.e_b | apply DN.e_notT | apply DN.e_not | apply DN.e_and | apply DN.e_or | apply DN.e_andT | apply DN.e_orT | apply DN.e_chain | apply DN.e_asg | exact DN.o_add | exact DN.o_sub | exact DN.o_eqI | exact DN.o_neI | exact DN.o_I | exact DN.o_neg | exact DN.o_lst | exact DN.o_tup | exact DN.o_isN | exact DN.o_notN | exact DN.o_ty (by rfl) | exact DN.o_inst (by rfl)) | ((with_reducible apply DN.e_var); exact rfl) | exact DN.o_mulL (by decide) | exact DN.o_mulR (by decide) | exact DN.o_div (by decide) (by decide) | exact DN.o_mod (by decide) | exact DN.o_lenL | exact DN.o_lenT | exact DN.o_lenS | exact ih d (h2 d hd)))
            · exact e_nil
          · rfl
    | scr ds => unfold Jk at h; cases h
    | obj a b c => unfold Jk at h; cases h
    | _ => exact scal _ _ rfl rfl
/-! ### the law's own looks -/
theorem in_within {d : D} {lo hi : Int} (hp : Pln d = true) : ∀ {ρ : DN.Env} {i : Nat} {a b : DM}, ρ[i]? = some (some d) → a ρ = some (.int lo) → b ρ = some (.int hi) → tOrD (tNotD (dB (dUn (gInst "int") (dVar i)))) (tOrD (dB (dUn (gInst "bool") (dVar i))) (tNotD (dB (dChain (gI pLe) (gI pLe) a (dVar i) b)))) ρ = some (!within lo hi d) := fun {ρ i a b} hv0 ha hb => by
  have hv : dVar i ρ = some d := e_var hv0
  have other : gInst "int" d = some (.bl false) → within lo hi d = false → tOrD (tNotD (dB (dUn (gInst "int") (dVar i)))) (tOrD (dB (dUn (gInst "bool") (dVar i))) (tNotD (dB (dChain (gI pLe) (gI pLe) a (dVar i) b)))) ρ = some (!within lo hi d) := fun h1 h2 => by
    rw [h2]
    exact e_orT (k := !false) (l := false) (e_notT (e_b (e_un hv h1))) fun z => nomatch z
  cases d with
  | int n => exact e_orT (k := !true) (l := false || !(pLe lo n && pLe n hi)) (e_notT (e_b (e_un hv rfl))) fun _ => e_orT (e_b (e_un hv rfl)) fun _ => e_notT (e_b (e_chain ha hv o_I (fun _ => hb) fun _ => o_I))
  | bl n => exact e_orT (k := !true) (l := true || false) (e_notT (e_b (e_un hv rfl))) fun _ => e_orT (e_b (e_un hv rfl)) fun z => nomatch z
  | scr ns => unfold Pln at hp; cases hp
  | obj c ks ds => unfold Pln at hp; cases hp
  | _ => exact other rfl rfl
theorem lrow_eq {n m : Nat} {d : D} (h : Jk n d = true) : M_law_is_row [d, .int (m : Nat)] = some (.bl (isRowD m d)) := by
  refine fn_rt (ρ := [some d, some (.int (m : Nat)), none]) rfl ?_
  unfold m_law_is_row
  have hp := jk_pln h
  have no : gInst "list" d = some (.bl false) → isRowD m d = false → sSeq (sIf (tOrD (tNotD (dB (dUn (gInst "list") (dVar 0)))) (dB (dBin (gEqv true) (dFn gLen (dCons (dVar 0) dNil)) (dBin gAdd (dVar 1) (dC (.int 1)))))) (sRet (dC (.bl false))) sNx)
    (sSeq (sFor [] (dLs (dVar 0)) (bd1 2) (sIf (tOrD (tNotD (dB (dUn (gInst "int") (dVar 2)))) (tOrD (dB (dUn (gInst "bool") (dVar 2))) (tNotD (dB (dChain (gI pLe) (gI pLe) (dUn gNeg (dC (.int 1000))) (dVar 2) (dC (.int 1000))))))) (sRet (dC (.bl false))) sNx))
    (sRet (dC (.bl true)))) [some d, some (.int (m : Nat)), none] = some (.rt (.bl (isRowD m d))) := fun h1 h2 => by
    rw [h2]
    exact e_seqR (e_ifT (e_orT (k := !false) (l := false) (e_notT (e_b (e_un (e_var rfl) h1))) fun z => nomatch z) (e_ret e_c))
  cases d with
  | lst ds =>
    obtain ⟨h1, k, e, h2⟩ := jk_lst h
    have hn : dB (dBin (gEqv true) (dFn gLen (dCons (dVar 0) dNil)) (dBin gAdd (dVar 1) (dC (.int 1)))) [some (.lst ds), some (.int (m : Nat)), none] = some (!((ds.length : Int) == (m : Int) + 1)) := e_b (e_bin (e_fn (e_cons (e_var rfl) e_nil) o_lenL) (e_bin (e_var rfl) e_c o_add) o_neI)
    by_cases hl : ds.length = m + 1
    · have e1 : ((ds.length : Int) == (m : Int) + 1) = true := by simpa using (by omega : (ds.length : Int) = (m : Int) + 1)
      rw [e1] at hn
      have e2 : isRowD m (.lst ds) = ds.all (within (-1000) 1000) := by
        show (decide (ds.length = m + 1) && _) = _
        rw [decide_eq_true hl]; rfl
      rw [e2]
      refine e_seq (e_ifF (e_orT (k := !true) (l := !true) (e_notT (e_b (e_un (e_var rfl) rfl))) fun _ => hn) e_nx) ?_
      refine e_forF (e_ls (e_var rfl)) (fun x hx => ?_) fun ρ => e_ret e_c
      have hw := in_within (lo := -1000) (hi := 1000) (ρ := [some (D.lst ds), some (.int (m : Nat)), some x]) (i := 2) (a := dUn gNeg (dC (.int 1000))) (b := dC (.int 1000)) (pln_lst hp x hx) rfl (e_un e_c o_neg) e_c
      refine e_if hw ?_
      cases within (-1000) 1000 x with
      | true => exact e_nx
      | false => exact e_ret e_c
    · have e1 : ((ds.length : Int) == (m : Int) + 1) = false := by simpa using (fun z : (ds.length : Int) = (m : Int) + 1 => hl (by omega))
      rw [e1] at hn
      have e2 : isRowD m (.lst ds) = false := by
        show (decide (ds.length = m + 1) && _) = _
        rw [decide_eq_false hl]; rfl
      rw [e2]
      exact e_seqR (e_ifT (e_orT (k := !true) (l := !false) (e_notT (e_b (e_un (e_var rfl) rfl))) fun _ => hn) (e_ret e_c))
  | scr ns => unfold Pln at hp; cases hp
  | obj c ks ds => unfold Pln at hp; cases hp
  | _ => exact no rfl rfl
theorem isRows_lst {m lo hi : Nat} {ds : List D} : isRowsD m lo hi (.lst ds) = ((decide (lo ≤ ds.length) && decide (ds.length ≤ hi)) && ds.all (isRowD m)) := rfl
theorem in_within2 {d : D} {lo hi : Int} {kc : Bool} {c : DN.Env → Option Bool} (hp : Pln d = true) : ∀ {ρ : DN.Env} {i : Nat} {a b : DM}, ρ[i]? = some (some d) → a ρ = some (.int lo) → b ρ = some (.int hi) → c ρ = some kc → tOrD (tNotD (dB (dUn (gInst "int") (dVar i)))) (tOrD (dB (dUn (gInst "bool") (dVar i))) (tOrD (tNotD (dB (dChain (gI pLe) (gI pLe) a (dVar i) b))) c)) ρ = some (!within lo hi d || kc) := fun {ρ i a b} hv0 ha hb hc => by
  have hv : dVar i ρ = some d := e_var hv0
  have other : gInst "int" d = some (.bl false) → within lo hi d = false → tOrD (tNotD (dB (dUn (gInst "int") (dVar i)))) (tOrD (dB (dUn (gInst "bool") (dVar i))) (tOrD (tNotD (dB (dChain (gI pLe) (gI pLe) a (dVar i) b))) c)) ρ = some (!within lo hi d || kc) := fun h1 h2 => by
    rw [h2]
    exact e_orT (k := !false) (l := kc) (e_notT (e_b (e_un hv h1))) fun z => nomatch z
  cases d with
  | int n => exact e_orT (k := !true) (l := false || (!(pLe lo n && pLe n hi) || kc)) (e_notT (e_b (e_un hv rfl))) fun _ => e_orT (e_b (e_un hv rfl)) fun _ => e_orT (e_notT (e_b (e_chain ha hv o_I (fun _ => hb) fun _ => o_I))) fun _ => hc
  | bl n => exact e_orT (k := !true) (l := true || kc) (e_notT (e_b (e_un hv rfl))) fun _ => e_orT (e_b (e_un hv rfl)) fun z => nomatch z
  | scr ns => unfold Pln at hp; cases hp
  | obj c ks ds => unfold Pln at hp; cases hp
  | _ => exact other rfl rfl
theorem loop_pair {d : D} (h' : isPair d = false) : isLoopD d = false := by
  cases d with
  | tup ds =>
    match ds with
    | [a, b] => cases h'
    | [] => rfl
    | [a] => cases a <;> rfl
    | a :: b :: c :: r => cases a <;> cases b <;> rfl
  | _ => rfl
theorem way_pair {m : Nat} {d : D} (h' : isPair d = false) : isWayD m d = false := by
  cases d with
  | tup ds =>
    match ds with
    | [a, b] => cases h'
    | [] => rfl
    | [a] => rfl
    | a :: b :: c :: r => rfl
  | _ => rfl
theorem not_list {d : D} (hp : Pln d = true) (h : ∀ ds, d ≠ .lst ds) : gInst "list" d = some (.bl false) := by
  cases d with
  | lst ds => exact absurd rfl (h ds)
  | scr ns => unfold Pln at hp; cases hp
  | obj c ks ds => unfold Pln at hp; cases hp
  | _ => rfl
/-- a thing is a pair, or some look at it ends there -/
theorem pair_look {d : D} (hp : Pln d = true) {ρ : DN.Env} {i : Nat} {c : DN.Env → Option Bool} {kc : Bool} (hv0 : ρ[i]? = some (some d)) (hc : isPair d = true → c ρ = some kc) : tOrD (tNotD (dB (dUn (gInst "tuple") (dVar i)))) (tOrD (dB (dBin (gEqv true) (dFn gLen (dCons (dVar i) dNil)) (dC (.int 2)))) c) ρ = some (!isPair d || kc) := by
  have hv : dVar i ρ = some d := e_var hv0
  have other : gInst "tuple" d = some (.bl false) → isPair d = false → tOrD (tNotD (dB (dUn (gInst "tuple") (dVar i)))) (tOrD (dB (dBin (gEqv true) (dFn gLen (dCons (dVar i) dNil)) (dC (.int 2)))) c) ρ = some (!isPair d || kc) := fun h1 h2 => by
    rw [h2]
    exact e_orT (k := !false) (l := kc) (e_notT (e_b (e_un hv h1))) fun z => nomatch z
  cases d with
  | tup ds =>
    have hn : dB (dBin (gEqv true) (dFn gLen (dCons (dVar i) dNil)) (dC (.int 2))) ρ = some (!((ds.length : Int) == 2)) := e_b (e_bin (e_fn (e_cons hv e_nil) o_lenT) e_c o_neI)
    by_cases hl : ds.length = 2
    · have e1 : ((ds.length : Int) == 2) = true := by rw [hl]; rfl
      rw [e1] at hn
      have e2 : isPair (.tup ds) = true := decide_eq_true hl
      rw [e2]
      exact e_orT (k := !true) (l := !true || kc) (e_notT (e_b (e_un hv rfl))) fun _ => e_orT hn fun _ => hc e2
    · have e1 : ((ds.length : Int) == 2) = false := by simpa using (fun z : (ds.length : Int) = 2 => hl (by omega))
      rw [e1] at hn
      have e2 : isPair (.tup ds) = false := decide_eq_false hl
      rw [e2]
      exact e_orT (k := !true) (l := !false || kc) (e_notT (e_b (e_un hv rfl))) fun _ => e_orT hn fun z => nomatch z
  | scr ns => unfold Pln at hp; cases hp
  | obj c ks ds => unfold Pln at hp; cases hp
  | _ => exact other rfl rfl
theorem lway_body {n m : Nat} {w : D} {x0 x1 x2 x4 : Option D} (h : Jk n w = true) (h1 : x1 = some (.int (m : Nat))) : (sSeq (sIf (tOrD (tNotD (dB (dUn (gInst "tuple") (dVar 3)))) (tOrD (dB (dBin (gEqv true) (dFn gLen (dCons (dVar 3) dNil)) (dC (.int 2)))) (tOrD (tNotD (dB (dUn (gInst "list") (dBin gIx (dVar 3) (dC (.int 0)))))) (tNotD (dB (dUn (gInst "list") (dBin gIx (dVar 3) (dC (.int 1))))))))) (sRet (dC (.bl false))) sNx)
    (sIf (tOrD (dB (dBin (gI pGt) (dFn gLen (dCons (dBin gIx (dVar 3) (dC (.int 0))) dNil)) (dC (.int 4)))) (tOrD (dB (dBin (gEqv true) (dFn gLen (dCons (dBin gIx (dVar 3) (dC (.int 1))) dNil)) (dVar 1))) (tNotD (dB (dFn gAllL (dCons (dLc [4] (dLs (dBin gAdd (dBin gIx (dVar 3) (dC (.int 0))) (dBin gIx (dVar 3) (dC (.int 1))))) (bd1 4) tYesD (dFn M_law_is_row (dCons (dVar 4) (dCons (dVar 1) dNil)))) dNil)))))) (sRet (dC (.bl false))) sNx))
    [x0, x1, x2, some w, x4] = some (if isWayD m w = true then .nx [x0, x1, x2, some w, x4] else .rt (.bl false)) := by
  subst h1
  have hp := jk_pln h
  by_cases hq : isPair w = true
  · obtain ⟨a, b, rfl⟩ := isPair_of hq
    obtain ⟨_, k, _, hk⟩ := jk_tup h
    have ha := hk a (by simp)
    have hb := hk b (by simp)
    have i0 : dBin gIx (dVar 3) (dC (.int 0)) [x0, some (.int (m : Nat)), x2, some (.tup [a, b]), x4] = some a := e_bin (e_var rfl) e_c (o_ixT (k := 0) rfl)
    have i1 : dBin gIx (dVar 3) (dC (.int 1)) [x0, some (.int (m : Nat)), x2, some (.tup [a, b]), x4] = some b := e_bin (e_var rfl) e_c (o_ixT (k := 1) rfl)
    have bad : gInst "list" a = some (.bl false) ∨ (gInst "list" a = some (.bl true) ∧ gInst "list" b = some (.bl false)) → isWayD m (.tup [a, b]) = false → (sSeq (sIf (tOrD (tNotD (dB (dUn (gInst "tuple") (dVar 3)))) (tOrD (dB (dBin (gEqv true) (dFn gLen (dCons (dVar 3) dNil)) (dC (.int 2)))) (tOrD (tNotD (dB (dUn (gInst "list") (dBin gIx (dVar 3) (dC (.int 0)))))) (tNotD (dB (dUn (gInst "list") (dBin gIx (dVar 3) (dC (.int 1))))))))) (sRet (dC (.bl false))) sNx)
          (sIf (tOrD (dB (dBin (gI pGt) (dFn gLen (dCons (dBin gIx (dVar 3) (dC (.int 0))) dNil)) (dC (.int 4)))) (tOrD (dB (dBin (gEqv true) (dFn gLen (dCons (dBin gIx (dVar 3) (dC (.int 1))) dNil)) (dVar 1))) (tNotD (dB (dFn gAllL (dCons (dLc [4] (dLs (dBin gAdd (dBin gIx (dVar 3) (dC (.int 0))) (dBin gIx (dVar 3) (dC (.int 1))))) (bd1 4) tYesD (dFn M_law_is_row (dCons (dVar 4) (dCons (dVar 1) dNil)))) dNil)))))) (sRet (dC (.bl false))) sNx))
          [x0, some (.int (m : Nat)), x2, some (.tup [a, b]), x4] = some (if isWayD m (.tup [a, b]) = true then .nx [x0, some (.int (m : Nat)), x2, some (.tup [a, b]), x4] else .rt (.bl false)) := fun h1 h2 => by
      rw [h2]
      refine e_seqR (e_ifT (pair_look (kc := true) hp rfl fun _ => ?_) (e_ret e_c))
      rcases h1 with h1 | ⟨h1, h1'⟩
      · exact e_orT (k := !false) (l := false) (e_notT (e_b (e_un i0 h1))) fun z => nomatch z
      · exact e_orT (k := !true) (l := !false) (e_notT (e_b (e_un i0 h1))) fun _ => e_notT (e_b (e_un i1 h1'))
    cases a with
    | lst xs =>
      cases b with
      | lst ys =>
        clear bad
        obtain ⟨l1, k1, e1, j1⟩ := jk_lst ha
        obtain ⟨l2, k2, e2, j2⟩ := jk_lst hb
        refine e_seq (e_ifF (pair_look (kc := false) hp rfl fun _ => ?_) e_nx) ?_
        · exact e_orT (k := !true) (l := !true) (e_notT (e_b (e_un i0 rfl))) fun _ => e_notT (e_b (e_un i1 rfl))
        · have c1 : dB (dBin (gI pGt) (dFn gLen (dCons (dBin gIx (dVar 3) (dC (.int 0))) dNil)) (dC (.int 4))) [x0, some (.int (m : Nat)), x2, some (.tup [.lst xs, .lst ys]), x4] = some (pGt (xs.length : Int) 4) := e_b (e_bin (e_fn (e_cons i0 e_nil) o_lenL) e_c o_I)
          have c2 : dB (dBin (gEqv true) (dFn gLen (dCons (dBin gIx (dVar 3) (dC (.int 1))) dNil)) (dVar 1)) [x0, some (.int (m : Nat)), x2, some (.tup [.lst xs, .lst ys]), x4] = some (!((ys.length : Int) == (m : Int))) := e_b (e_bin (e_fn (e_cons i1 e_nil) o_lenL) (e_var rfl) o_neI)
          have hcat : dLs (dBin gAdd (dBin gIx (dVar 3) (dC (.int 0))) (dBin gIx (dVar 3) (dC (.int 1)))) [x0, some (.int (m : Nat)), x2, some (.tup [.lst xs, .lst ys]), x4] = some (xs ++ ys) := e_ls (e_bin i0 i1 (o_cat (by omega)))
          have c3 : dFn gAllL (dCons (dLc [4] (dLs (dBin gAdd (dBin gIx (dVar 3) (dC (.int 0))) (dBin gIx (dVar 3) (dC (.int 1))))) (bd1 4) tYesD (dFn M_law_is_row (dCons (dVar 4) (dCons (dVar 1) dNil)))) dNil) [x0, some (.int (m : Nat)), x2, some (.tup [.lst xs, .lst ys]), x4] = some (.bl ((xs ++ ys).all (isRowD m))) := by
            refine e_fn (e_cons (x := .lst (((xs ++ ys).map (isRowD m)).map .bl)) ?_ e_nil) ?_
            · rw [List.map_map]
              refine e_lc (emb := id) (l := xs ++ ys) (f := fun x => D.bl (isRowD m x)) ?_ (by simp; omega) fun x hx => ?_
              · rw [List.map_id]; exact hcat
              · refine e_fn (e_cons (e_var rfl) (e_cons (e_var rfl) e_nil)) ?_
                rcases List.mem_append.mp hx with hx | hx
                · exact lrow_eq (j1 x hx)
                · exact lrow_eq (j2 x hx)
            · rw [o_allL, List.all_map]; rfl
          have c4 := e_orT (k := pGt (xs.length : Int) 4) (l := !((ys.length : Int) == (m : Int)) || !((xs ++ ys).all (isRowD m))) c1 fun _ => e_orT c2 fun _ => e_notT (e_b c3)
          have e0 : (pGt (xs.length : Int) 4 || (!((ys.length : Int) == (m : Int)) || !((xs ++ ys).all (isRowD m)))) = !isWayD m (.tup [.lst xs, .lst ys]) := by
            have e3 : pGt (xs.length : Int) 4 = !decide (xs.length ≤ 4) := by
              show decide ((xs.length : Int) > 4) = _
              by_cases hx : xs.length ≤ 4
              · rw [decide_eq_true hx, decide_eq_false (by omega)]; rfl
              · rw [decide_eq_false hx, decide_eq_true (by omega)]; rfl
            have e4 : ((ys.length : Int) == (m : Int)) = (decide (m ≤ ys.length) && decide (ys.length ≤ m)) := by
              by_cases hx : ys.length = m
              · rw [hx]; simp
              · have : ((ys.length : Int) == (m : Int)) = false := by simpa using (fun z : (ys.length : Int) = (m : Int) => hx (by omega))
                rw [this]
                by_cases hy : m ≤ ys.length
                · rw [decide_eq_false (show ¬ ys.length ≤ m by omega), Bool.and_false]
                · rw [decide_eq_false hy, Bool.false_and]
            show _ = !(isRowsD m 0 4 (.lst xs) && isRowsD m m m (.lst ys))
            rw [isRows_lst, isRows_lst, e3, e4, List.all_append, decide_eq_true (Nat.zero_le _)]
            cases decide (xs.length ≤ 4) <;> cases xs.all (isRowD m) <;> cases (decide (m ≤ ys.length) && decide (ys.length ≤ m)) <;> cases ys.all (isRowD m) <;> rfl
          rw [e0] at c4
          refine e_if c4 ?_
          cases isWayD m (.tup [.lst xs, .lst ys]) with
          | true => exact e_nx
          | false => exact e_ret e_c
      | _ => exact bad (.inr ⟨rfl, not_list (jk_pln hb) fun ds z => nomatch z⟩) (by first | rfl | (show (_ && false) = false; exact Bool.and_false _))
    | _ => exact bad (.inl (not_list (jk_pln ha) fun ds z => nomatch z)) rfl
  · have hq' : isPair w = false := by simpa using hq
    rw [way_pair hq']
    refine e_seqR (e_ifT ?_ (e_ret e_c))
    have := pair_look (kc := true) (c := (tOrD (tNotD (dB (dUn (gInst "list") (dBin gIx (dVar 3) (dC (.int 0)))))) (tNotD (dB (dUn (gInst "list") (dBin gIx (dVar 3) (dC (.int 1)))))))) hp (ρ := [x0, some (.int (m : Nat)), x2, some w, x4]) (i := 3) rfl fun z => absurd z hq
    rw [hq'] at this
    exact this
theorem lloop_eq {n : Nat} {d : D} (h : Jk n d = true) : M_law_is_loop [d] = some (.bl (isLoopD d)) := by
  refine fn_rt (ρ := [some d, none, none, none, none]) rfl ?_
  unfold m_law_is_loop
  have hp := jk_pln h
  by_cases hq : isPair d = true
  · obtain ⟨a, b, rfl⟩ := isPair_of hq
    obtain ⟨_, k, _, hk⟩ := jk_tup h
    have ha := hk a (by simp)
    have hb := hk b (by simp)
    have i1 : dBin gIx (dVar 0) (dC (.int 1)) [some (.tup [a, b]), none, none, none, none] = some b := e_bin (e_var rfl) e_c (o_ixT (k := 1) rfl)
    by_cases hl : ∃ ws, b = .lst ws
    · obtain ⟨ws, rfl⟩ := hl
      obtain ⟨l1, k1, e1, j1⟩ := jk_lst hb
      apply e_seq
      · exact e_ifF (pair_look (kc := false) hp rfl fun _ => e_notT (k := true) (e_b (e_un i1 rfl))) e_nx
      apply e_seq
      · exact e_asg (e_var rfl) rfl
      dsimp only [List.set]
      have hw := in_within2 (lo := 1) (hi := 3) (kc := !(pLe 1 (ws.length : Int) && pLe (ws.length : Int) 3)) (c := tNotD (dB (dChain (gI pLe) (gI pLe) (dC (.int 1)) (dFn gLen (dCons (dVar 2) dNil)) (dC (.int 3))))) (jk_pln ha) (ρ := [some (.tup [a, .lst ws]), some a, some (.lst ws), none, none]) (i := 1) (a := dC (.int 1)) (b := dC (.int 3)) rfl e_c e_c (e_notT (e_b (e_chain e_c (e_fn (e_cons (e_var rfl) e_nil) o_lenL) o_I (fun _ => e_c) fun _ => o_I)))
      have e5 : (pLe 1 (ws.length : Int) && pLe (ws.length : Int) 3) = (decide (1 ≤ ws.length) && decide (ws.length ≤ 3)) := by
        show (decide ((1 : Int) ≤ ws.length) && decide ((ws.length : Int) ≤ 3)) = _
        congr 1 <;> exact decide_eq_decide.mpr (by omega)
      rw [e5] at hw
      by_cases hin : within 1 3 a = true
      · obtain ⟨z, rfl⟩ : ∃ z, a = .int z := by
          cases a with
          | int z => exact ⟨z, rfl⟩
          | _ => cases hin
        have e6 : isLoopD (.tup [.int z, .lst ws]) = ((decide (1 ≤ ws.length) && decide (ws.length ≤ 3)) && ws.all (isWayD z.toNat)) := by
          show ((decide (1 ≤ z) && decide (z ≤ 3)) && _ && _) = _
          rw [show (decide (1 ≤ z) && decide (z ≤ 3)) = true from hin, Bool.true_and]
        rw [hin] at hw
        rw [e6]
        cases hk3 : (decide (1 ≤ ws.length) && decide (ws.length ≤ 3)) with
        | false =>
          rw [hk3] at hw
          exact e_seqR (e_ifT hw (e_ret e_c))
        | true =>
          rw [hk3] at hw
          refine e_seq (e_ifF hw e_nx) ?_
          have hz : z = ((z.toNat : Nat) : Int) := by
            have : (decide (1 ≤ z) && decide (z ≤ 3)) = true := hin
            rw [Bool.and_eq_true, decide_eq_true_eq] at this
            omega
          rw [Bool.true_and]
          refine e_forF (p := isWayD z.toNat) (e_ls (e_var rfl)) (fun w hw => ?_) fun ρ => e_ret e_c
          exact lway_body (j1 w hw) (by rw [← hz])
      · have hin' : within 1 3 a = false := by simpa using hin
        have e6 : isLoopD (.tup [a, .lst ws]) = false := by
          cases a with
          | int z =>
            show ((decide (1 ≤ z) && decide (z ≤ 3)) && _ && _) = false
            rw [show (decide (1 ≤ z) && decide (z ≤ 3)) = false from hin']
            rfl
          | _ => rfl
        rw [e6]
        rw [hin'] at hw
        exact e_seqR (e_ifT hw (e_ret e_c))
    · have e6 : isLoopD (.tup [a, b]) = false := by
        cases b with
        | lst ws => exact absurd ⟨ws, rfl⟩ hl
        | _ => cases a <;> rfl
      rw [e6]
      exact e_seqR (e_ifT (pair_look (kc := true) hp rfl fun _ => e_notT (k := false) (e_b (e_un i1 (not_list (jk_pln hb) fun ds z => hl ⟨ds, z⟩)))) (e_ret e_c))
  · have hq' : isPair d = false := by simpa using hq
    rw [loop_pair hq']
    refine e_seqR (e_ifT ?_ (e_ret e_c))
    have := pair_look (kc := true) (c := tNotD (dB (dUn (gInst "list") (dBin gIx (dVar 0) (dC (.int 1)))))) hp (ρ := [some d, none, none, none, none]) (i := 0) rfl fun z => absurd z hq
    rw [hq'] at this
    exact this
end K01

set_option Elab.async false
set_option linter.all false
set_option maxRecDepth 100000
set_option maxHeartbeats 400000
namespace K01
open PySem PySem.Spec PyProof.Rows L2 DN
/-! ### something else put in -/
theorem put_eq {n : Nat} {ds : List D} {a : Int} {x : D} (h : EqOk n (.lst ds)) (hn : n ≤ 64) (hl : ds.length ≤ 100) : ∃ es, M_law_put [.lst ds, .int a, x] = some (.lst es) ∧ es.length ≤ 201 ∧ ∀ e ∈ es, e = x ∨ e ∈ ds := by
  have h0 : dB (dBin (gEqv false) (dVar 0) (dFn (fun ds => some (.lst ds)) dNil)) [some (.lst ds), some (.int a), some x] = some ds.isEmpty := e_b (e_bin (e_var rfl) (e_fn e_nil rfl) (o_nil (neg := false) h hn))
  cases hd : ds with
  | nil =>
    subst hd
    refine ⟨[x], fn_rt (ρ := [some (.lst []), some (.int a), some x]) rfl ?_, by simp, fun e he => .inl (List.mem_singleton.mp he)⟩
    exact e_seqR (e_ifT h0 (e_ret (e_fn (e_cons (e_var rfl) e_nil) rfl)))
  | cons y ys =>
    rw [← hd]
    have hne : ds.isEmpty = false := by rw [hd]; rfl
    rw [hne] at h0
    have hp : 0 < ds.length := by rw [hd]; simp
    obtain ⟨t, ht⟩ : ∃ t : Nat, a % (ds.length : Int) = (t : Int) := ⟨(a % (ds.length : Int)).toNat, by
      have := Int.emod_nonneg a (show (ds.length : Int) ≠ 0 by omega)
      omega⟩
    have hm : dBin gMod (dVar 1) (dFn gLen (dCons (dVar 0) dNil)) [some (.lst ds), some (.int a), some x] = some (.int (t : Int)) := by
      rw [← ht]
      exact e_bin (e_var rfl) (e_fn (e_cons (e_var rfl) e_nil) o_lenL) (o_mod (by omega))
    have l1 := cutD_len ds none (some (t : Int))
    have l2 := cutD_len ds (some ((t : Int) + 1)) none
    refine ⟨cutD ds none (some (t : Int)) ++ [x] ++ cutD ds (some ((t : Int) + 1)) none, fn_rt (ρ := [some (.lst ds), some (.int a), some x]) rfl ?_, by simp only [List.length_append, List.length_singleton]; omega, fun e he => ?_⟩
    · unfold m_law_put
      refine e_seq (e_ifF h0 e_nx) (e_ret (e_bin (e_bin (e_sl (e_var rfl) rfl (e_part hm) slL) (e_fn (e_cons (e_var rfl) e_nil) rfl) (o_cat (by simp; omega))) (e_sl (e_var rfl) (e_part (e_bin hm e_c o_add)) rfl slL) (o_cat (by simp only [List.length_append, List.length_singleton]; omega))))
    · simp only [List.mem_append, List.mem_singleton] at he
      rcases he with (he | he) | he
      · exact .inr (cutD_mem he)
      · exact .inl he
      · exact .inr (cutD_mem he)
theorem jkL0 {n : Nat} : Jk (n + 1) (.lst []) = true := jk_L (by simp) all_nil
theorem jkT0 {n : Nat} : Jk (n + 1) (.tup []) = true := jk_T (by simp) all_nil
theorem jkL1 {n : Nat} {a : D} (h : Jk n a = true) : Jk (n + 1) (.lst [a]) = true := jk_L (by simp) (all_cons h all_nil)
theorem jkL2 {n : Nat} {a b : D} (h : Jk n a = true) (k : Jk n b = true) : Jk (n + 1) (.lst [a, b]) = true := jk_L (by simp) (all_cons h (all_cons k all_nil))
theorem jkT1 {n : Nat} {a : D} (h : Jk n a = true) : Jk (n + 1) (.tup [a]) = true := jk_T (by simp) (all_cons h all_nil)
theorem jkT2 {n : Nat} {a b : D} (h : Jk n a = true) (k : Jk n b = true) : Jk (n + 1) (.tup [a, b]) = true := jk_T (by simp) (all_cons h (all_cons k all_nil))
theorem jkT3 {n : Nat} {a b c : D} (h : Jk n a = true) (k : Jk n b = true) (l : Jk n c = true) : Jk (n + 1) (.tup [a, b, c]) = true := jk_T (by simp) (all_cons h (all_cons k (all_cons l all_nil)))
theorem bent_row_eq {R : List (List Int)} {c a : Int} (h : R.length ≤ 4) (h2 : ∀ r ∈ R, r.length ≤ 4) : ∃ d, M_law_row_bent [LR R, .int c, .int a] = some d ∧ Jk 3 d = true := by
  -- the row
  obtain ⟨r, hr, hrow⟩ : ∃ r : List Int, r.length ≤ 4 ∧ dIf (dB (dBin (gEqv true) (dVar 0) (dFn (fun ds => some (.lst ds)) dNil))) (dBin gIx (dVar 0) (dBin gMod (dVar 2) (dFn gLen (dCons (dVar 0) dNil)))) (dFn (fun ds => some (.lst ds)) (dCons (dC (.int 0)) dNil)) [some (LR R), some (.int c), some (.int a), none, none, none, none] = some (LI r) := by
    have h0 : dB (dBin (gEqv true) (dVar 0) (dFn (fun ds => some (.lst ds)) dNil)) [some (LR R), some (.int c), some (.int a), none, none, none, none] = some (!(R.map LI).isEmpty) := e_b (e_bin (e_var rfl) (e_fn e_nil rfl) (o_nil (neg := true) (eq_LR (n := 3)) (by decide)))
    cases hR : R with
    | nil =>
      subst hR
      exact ⟨[0], by simp, e_dIfF h0 (e_fn (e_cons e_c e_nil) rfl)⟩
    | cons q qs =>
      have hp : 0 < (R.map LI).length := by rw [hR]; simp
      have hne : (!(R.map LI).isEmpty) = true := by rw [hR]; rfl
      rw [hne] at h0
      obtain ⟨k, x, hk, e1, e2, e3⟩ := at_mod (xs := R.map LI) (a := a) (n := (R.map LI).length) rfl hp
      rw [List.getElem?_map] at e2
      cases e4 : R[k]? with
      | none => rw [e4] at e2; cases e2
      | some r =>
        rw [e4] at e2
        cases e2
        rw [← hR]
        refine ⟨r, h2 r (memAt e4), e_dIfT h0 ?_⟩
        refine e_bin (e_var rfl) (e_bin (e_var rfl) (e_fn (e_cons (e_var rfl) e_nil) o_lenL) (o_mod (by omega))) ?_
        exact e3
  obtain ⟨ko, odd, _, _, ho1, ho2⟩ := at_mod (a := c / 16) (n := 10) (xs := [D.int 1001, .int (-1001), .bl true, .non, .str "1", .lst [.int 0], .bl false, .int (10 ^ 20), .int 1000, .int (-1000)]) rfl (by decide)
  have hodd : Jk 1 odd = true := by
    have hm := memAt ho1
    simp only [List.mem_cons, List.not_mem_nil, or_false] at hm
    rcases hm with rfl | rfl | rfl | rfl | rfl | rfl | rfl | rfl | rfl | rfl
    · exact jk_int
    · exact jk_int
    · exact jk_bl
    · exact jk_non
    · exact jk_str
    · exact jkL1 jk_int
    · exact jk_bl
    · exact jk_int
    · exact jk_int
    · exact jk_int
  obtain ⟨ks, sm, _, _, hs1, hs2⟩ := at_mod (a := c / 16) (n := 9) (xs := [LI (cutD r (some 1) none), LI (r ++ [0]), .tup (r.map .int), .non, .int 5, .lst [], .str "0", .dct, .lst [LI r]]) rfl (by decide)
  have l1 := cutD_len r (some 1) none
  have hsm : Jk 2 sm = true := by
    have hm := memAt hs1
    simp only [List.mem_cons, List.not_mem_nil, or_false] at hm
    rcases hm with rfl | rfl | rfl | rfl | rfl | rfl | rfl | rfl | rfl
    · exact jk_LI (by omega)
    · exact jk_LI (by simp; omega)
    · refine jk_T (by simp; omega) fun d hd => ?_
      obtain ⟨x, _, rfl⟩ := List.mem_map.mp hd
      exact jk_int
    · exact jk_non
    · exact jk_int
    · exact jkL0
    · exact jk_str
    · exact jk_dct
    · exact jkL1 (jk_LI (by omega))
  obtain ⟨es, he1, he2, he3⟩ := put_eq (ds := r.map .int) (a := a / 4) (x := odd) (eq_LI (n := 3) (l := r)) (by decide) (by simp; omega)
  obtain ⟨kt, th, _, _, ht1, ht2⟩ := at_mod (a := c / 8) (n := 2) (xs := [D.lst es, sm]) rfl (by decide)
  have hth : Jk 2 th = true := by
    have hm := memAt ht1
    simp only [List.mem_cons, List.not_mem_nil, or_false] at hm
    rcases hm with rfl | rfl
    · refine jk_L (by omega) fun e he => ?_
      rcases he3 e he with rfl | he
      · exact hodd
      · obtain ⟨x, _, rfl⟩ := List.mem_map.mp he
        exact jk_int
    · exact hsm
  obtain ⟨fs, hf1, hf2, hf3⟩ := put_eq (ds := R.map LI) (a := a) (x := th) (eq_LR (n := 3) (l := R)) (by decide) (by simp; omega)
  refine ⟨.lst fs, fn_rt (ρ := [some (LR R), some (.int c), some (.int a), none, none, none, none]) rfl ?_, jk_L (by omega) fun e he => ?_⟩
  · unfold m_law_row_bent
    apply e_seq
    · exact e_set hrow
    dsimp only [List.set]
    apply e_seq
    · apply e_set
      apply e_bin
      · (repeat' (first | (with_reducible first | exact DN.e_c | exact DN.e_nil | apply DN.e_set | apply DN.e_ret | apply DN.e_bin | apply DN.e_un | apply DN.e_fn | apply DN.e_cons | apply DN.e_b | apply DN.e_notT | apply DN.e_not | apply DN.e_and | apply DN.e_or | apply DN.e_andT | apply DN.e_orT | apply DN.e_chain | apply DN.e_asg | exact DN.o_add | exact DN.o_sub | exact DN.o_eqI | exact DN.o_neI | exact DN.o_I | exact DN.o_neg | exact DN.o_lst | exact DN.o_tup | exact DN.o_isN | exact DN.o_notN | exact DN.o_ty (by rfl) | exact DN.o_inst (by rfl)) | ((with_reducible apply DN.e_var); exact rfl) | exact DN.o_mulL (by decide) | exact DN.o_mulR (by decide) | exact DN.o_div (by decide) (by decide) | exact DN.o_mod (by decide) | exact DN.o_lenL | exact DN.o_lenT | exact DN.o_lenS | exact (show gPow (.int 10) (.int 20) = some (.int (10 ^ 20)) from rfl)))
      · (repeat' (first | (with_reducible first | exact DN.e_c | exact DN.e_nil | apply DN.e_set | apply DN.e_ret | apply DN.e_bin | apply DN.e_un | apply DN.e_fn | apply DN.e_cons | apply DN.e_b | apply DN.e_notT | apply DN.e_not | apply DN.e_and | apply DN.e_or | apply DN.e_andT | apply DN.e_orT | apply DN.e_chain | apply DN.e_asg | exact DN.o_add | exact DN.o_sub | exact DN.o_eqI | exact DN.o_neI | exact DN.o_I | exact DN.o_neg | exact DN.o_lst | exact DN.o_tup | exact DN.o_isN | exact DN.o_notN | exact DN.o_ty (by rfl) | exact DN.o_inst (by rfl)) | ((with_reducible apply DN.e_var); exact rfl) | exact DN.o_mulL (by decide) | exact DN.o_mulR (by decide) | exact DN.o_div (by decide) (by decide) | exact DN.o_mod (by decide) | exact DN.o_lenL | exact DN.o_lenT | exact DN.o_lenS))
      · exact ho2
    dsimp only [List.set]
    apply e_seq
    · apply e_set
      apply e_bin
      · refine e_fn (e_cons (x := LI (cutD r (some 1) none)) (e_sl (e_var rfl) (e_part e_c) rfl slI) (e_cons (x := LI (r ++ [0])) (e_bin (e_var rfl) (e_fn (e_cons e_c e_nil) rfl) (o_catI (b := [0]) (by simp; omega))) (e_cons (x := .tup (r.map .int)) (e_fn (e_cons (e_var rfl) e_nil) rfl) (e_cons e_c (e_cons e_c (e_cons (e_fn e_nil rfl) (e_cons e_c (e_cons e_c (e_cons (e_fn (e_cons (e_var rfl) e_nil) rfl) e_nil))))))))) rfl
      · (repeat' (first | (with_reducible first | exact DN.e_c | exact DN.e_nil | apply DN.e_set | apply DN.e_ret | apply DN.e_bin | apply DN.e_un | apply DN.e_fn | apply DN.e_cons | apply DN.e_b | apply DN.e_notT | apply DN.e_not | apply DN.e_and | apply DN.e_or | apply DN.e_andT | apply DN.e_orT | apply DN.e_chain | apply DN.e_asg | exact DN.o_add | exact DN.o_sub | exact DN.o_eqI | exact DN.o_neI | exact DN.o_I | exact DN.o_neg | exact DN.o_lst | exact DN.o_tup | exact DN.o_isN | exact DN.o_notN | exact DN.o_ty (by rfl) | exact DN.o_inst (by rfl)) | ((with_reducible apply DN.e_var); exact rfl) | exact DN.o_mulL (by decide) | exact DN.o_mulR (by decide) | exact DN.o_div (by decide) (by decide) | exact DN.o_mod (by decide) | exact DN.o_lenL | exact DN.o_lenT | exact DN.o_lenS))
      · exact hs2
    dsimp only [List.set]
    apply e_seq
    · apply e_set
      apply e_bin
      · refine e_fn (e_cons (x := .lst es) (e_fn (e_cons (e_var rfl) (e_cons (e_bin (e_var rfl) e_c (o_div (by decide) (by decide))) (e_cons (e_var rfl) e_nil))) he1) (e_cons (e_var rfl) e_nil)) rfl
      · (repeat' (first | (with_reducible first | exact DN.e_c | exact DN.e_nil | apply DN.e_set | apply DN.e_ret | apply DN.e_bin | apply DN.e_un | apply DN.e_fn | apply DN.e_cons | apply DN.e_b | apply DN.e_notT | apply DN.e_not | apply DN.e_and | apply DN.e_or | apply DN.e_andT | apply DN.e_orT | apply DN.e_chain | apply DN.e_asg | exact DN.o_add | exact DN.o_sub | exact DN.o_eqI | exact DN.o_neI | exact DN.o_I | exact DN.o_neg | exact DN.o_lst | exact DN.o_tup | exact DN.o_isN | exact DN.o_notN | exact DN.o_ty (by rfl) | exact DN.o_inst (by rfl)) | ((with_reducible apply DN.e_var); exact rfl) | exact DN.o_mulL (by decide) | exact DN.o_mulR (by decide) | exact DN.o_div (by decide) (by decide) | exact DN.o_mod (by decide) | exact DN.o_lenL | exact DN.o_lenT | exact DN.o_lenS))
      · exact ht2
    dsimp only [List.set]
    exact e_ret (e_fn (e_cons (e_var rfl) (e_cons (e_var rfl) (e_cons (e_var rfl) e_nil))) hf1)
  · rcases hf3 e he with rfl | he
    · exact hth
    · obtain ⟨q, hq, rfl⟩ := List.mem_map.mp he
      exact jk_LI (by have := h2 q hq; omega)
theorem seqE {ρ ρ1 : DN.Env} {s t : SM} {G : D → Prop} (h : s ρ = some (.nx ρ1)) (h2 : ∃ d, t ρ1 = some (.rt d) ∧ G d) : ∃ d, sSeq s t ρ = some (.rt d) ∧ G d := let ⟨d, e, g⟩ := h2; ⟨d, e_seq h e, g⟩
theorem seqER {ρ : DN.Env} {s t : SM} {d : D} {G : D → Prop} (h : s ρ = some (.rt d)) (g : G d) : ∃ d, sSeq s t ρ = some (.rt d) ∧ G d := ⟨d, e_seqR h, g⟩
/-- a thing of the law: bounded, and the same as itself -/
def Tp (d : D) : Prop := Jk 6 d = true ∧ ∀ neg, gEqv neg d d = some (.bl (!neg))
theorem tp_seq {d : D} (h : Jk 6 d = true) (hs : seqD d = true) : Tp d := ⟨h, fun neg => o_selfX (jk_ok h) (by decide) hs neg⟩
theorem rep_mem {α : Type} {l : List α} {n : Nat} {x : α} (h : x ∈ (List.replicate n l).flatten) : x ∈ l := by
  obtain ⟨m, hm, hx⟩ := List.mem_flatten.mp h
  rw [List.eq_of_mem_replicate hm] at hx
  exact hx
theorem rep_len {α : Type} (l : List α) (n : Nat) : (List.replicate n l).flatten.length = n * l.length := by
  simp [List.length_flatten, List.map_replicate]
theorem bent_eq {L : Lp} {c a : Int} (h : LpOk L) : ∃ d, M_law_bent [dL L, .int c, .int a] = some d ∧ Tp d := by
  suffices hh : ∃ d, m_law_bent [some (dL L), some (.int c), some (.int a), none, none, none, none, none, none, none, none] = some (.rt d) ∧ Tp d by
    obtain ⟨d, e, g⟩ := hh
    exact ⟨d, fn_rt rfl e, g⟩
  unfold m_law_bent
  have m1 := h.m1
  have m3 := h.m3
  have w1 := h.w1
  have w3 := h.w3
  have hw := h.ok
  have jw : Jk 4 (.lst (L.ways.map dW)) = true := jk_ways (n := 0) h
  unfold dL
  generalize L.ways = ws at w1 w3 hw jw
  generalize L.many = m at m1 m3 hw
  have hl : (ws.map dW).length = ws.length := List.length_map dW
  apply seqE
  · exact e_asg (e_var rfl) rfl
  dsimp only [List.set]
  obtain ⟨k, x, hk, e1, e2, e3⟩ := at_mod (xs := ws.map dW) (a := a) (n := (ws.map dW).length) rfl (by omega)
  rw [List.getElem?_map] at e2
  obtain ⟨w, hwk⟩ : ∃ w, ws[k]? = some w := by
    cases e4 : ws[k]? with
    | none => rw [e4] at e2; cases e2
    | some w => exact ⟨w, rfl⟩
  rw [hwk] at e2
  cases e2
  obtain ⟨q1, q2, q3, q4⟩ := hw w (memAt hwk)
  apply seqE
  · refine e_set (d := .int (k : Nat)) ?_
    rw [← e1]
    exact e_bin (e_var rfl) (e_fn (e_cons (e_var rfl) e_nil) o_lenL) (o_mod (by omega))
  dsimp only [List.set]
  rw [e1] at e3
  apply seqE
  · exact e_asg (e_bin (e_var rfl) (e_var rfl) e3) rfl
  dsimp only [List.set]
  -- what comes at last
  have fin : ∀ {x0 x1 x2 x6 x7 x9 x10 : Option D} {y : D}, Jk 4 y = true → ∃ d, (sRet (dFn (fun ds => some (.tup ds)) (dCons (dVar 3) (dCons (dBin gAdd (dBin gAdd (dSl (dVar 4) dNoP (dPart (dVar 5))) (dFn (fun ds => some (.lst ds)) (dCons (dVar 8) dNil))) (dSl (dVar 4) (dPart (dBin gAdd (dVar 5) (dC (.int 1)))) dNoP)) dNil))))
        [x0, x1, x2, some (.int (m : Nat)), some (.lst (ws.map dW)), some (.int (k : Nat)), x6, x7, some y, x9, x10] = some (.rt d) ∧ Tp d := fun {x0 x1 x2 x6 x7 x9 x10 y} hy => by
    have l1 := cutD_len (ws.map dW) none (some (k : Int))
    have l2 := cutD_len (ws.map dW) (some ((k : Int) + 1)) none
    refine ⟨.tup [.int (m : Nat), .lst (cutD (ws.map dW) none (some (k : Int)) ++ [y] ++ cutD (ws.map dW) (some ((k : Int) + 1)) none)], ?_, tp_seq (jkT2 jk_int (jk_L (by simp only [List.length_append, List.length_singleton]; omega) fun e he => ?_)) rfl⟩
    · refine e_ret (e_fn (e_cons (e_var rfl) (e_cons (e_bin (e_bin (e_sl (e_var rfl) rfl (e_part (e_var rfl)) slL) (e_fn (e_cons (e_var rfl) e_nil) rfl) (o_cat (by simp only [List.length_singleton]; omega))) (e_sl (e_var rfl) (e_part (e_bin (e_var rfl) e_c o_add)) rfl slL) (o_cat (by simp only [List.length_append, List.length_singleton]; omega))) e_nil)) rfl)
    · simp only [List.mem_append, List.mem_singleton] at he
      obtain ⟨_, kk, ek, jm⟩ := jk_lst jw
      cases ek
      rcases he with (he | rfl) | he
      · exact jk_le (by omega) (jm e (cutD_mem he))
      · exact hy
      · exact jk_le (by omega) (jm e (cutD_mem he))
  have ja : Jk 3 (LR w.asks) = true := jk_LR (by omega) fun r hr => by have := (q2 r hr).1; omega
  have jg : Jk 3 (LR w.gives) = true := jk_LR (by omega) fun r hr => by have := (q4 r hr).1; omega
  have la : ∀ r ∈ w.asks, r.length ≤ 4 := fun r hr => by have := (q2 r hr).1; omega
  have lg : ∀ r ∈ w.gives, r.length ≤ 4 := fun r hr => by have := (q4 r hr).1; omega
  have hv0 := Int.emod_nonneg c (show (8 : Int) ≠ 0 by decide)
  have hv1 := Int.emod_lt_of_pos c (show (0 : Int) < 8 by decide)
  have c8 : ∀ {x0 x2 x3 x4 x5 x6 x7 x8 x9 x10 : Option D}, dBin gMod (dVar 1) (dC (.int 8)) [x0, some (.int c), x2, x3, x4, x5, x6, x7, x8, x9, x10] = some (.int (c % 8)) := e_bin (e_var rfl) e_c (o_mod (by decide))
  have d8 : ∀ {x0 x2 x3 x4 x5 x6 x7 x8 x9 x10 : Option D}, dBin gFdiv (dVar 1) (dC (.int 8)) [x0, some (.int c), x2, x3, x4, x5, x6, x7, x8, x9, x10] = some (.int (c / 8)) := e_bin (e_var rfl) e_c (o_div (by decide) (by decide))
  have a3 : ∀ {x0 x1 x3 x4 x5 x6 x7 x8 x9 x10 : Option D}, dBin gFdiv (dVar 2) (dC (.int 3)) [x0, x1, some (.int a), x3, x4, x5, x6, x7, x8, x9, x10] = some (.int (a / 3)) := e_bin (e_var rfl) e_c (o_div (by decide) (by decide))
  generalize hv : c % 8 = v at hv0 hv1 c8
  by_cases v2 : v < 2
  · obtain ⟨y, hy1, hy2⟩ := bent_row_eq (R := w.asks) (c := c) (a := a / 3) q1 la
    refine seqE (e_ifT (e_b ?_) (e_set (e_fn (e_cons (e_fn (e_cons (e_var rfl) (e_cons (e_var rfl) (e_cons a3 e_nil))) hy1) (e_cons (e_var rfl) e_nil)) rfl))) (fin (jkT2 hy2 jg))
    rw [show true = pLt v 2 from (decide_eq_true v2).symm]
    exact e_bin c8 e_c o_I
  have n2 : dB (dBin (gI pLt) (dBin gMod (dVar 1) (dC (.int 8))) (dC (.int 2))) [some (.tup [.int (m : Nat), .lst (ws.map dW)]), some (.int c), some (.int a), some (.int (m : Nat)), some (.lst (ws.map dW)), some (.int (k : Nat)), some (LR w.asks), some (LR w.gives), none, none, none] = some false := by
    rw [show false = pLt v 2 from (decide_eq_false v2).symm]
    exact e_b (e_bin c8 e_c o_I)
  by_cases v4 : v < 4
  · obtain ⟨y, hy1, hy2⟩ := bent_row_eq (R := w.gives) (c := c) (a := a / 3) (by omega) lg
    refine seqE (e_ifF n2 (e_ifT (e_b ?_) (e_set (e_fn (e_cons (e_var rfl) (e_cons (e_fn (e_cons (e_var rfl) (e_cons (e_var rfl) (e_cons a3 e_nil))) hy1) e_nil)) rfl)))) (fin (jkT2 ja hy2))
    rw [show true = pLt v 4 from (decide_eq_true v4).symm]
    exact e_bin c8 e_c o_I
  have n4 : dB (dBin (gI pLt) (dBin gMod (dVar 1) (dC (.int 8))) (dC (.int 4))) [some (.tup [.int (m : Nat), .lst (ws.map dW)]), some (.int c), some (.int a), some (.int (m : Nat)), some (.lst (ws.map dW)), some (.int (k : Nat)), some (LR w.asks), some (LR w.gives), none, none, none] = some false := by
    rw [show false = pLt v 4 from (decide_eq_false v4).symm]
    exact e_b (e_bin c8 e_c o_I)
  have eqv : ∀ j : Int, dB (dBin (gEqv false) (dBin gMod (dVar 1) (dC (.int 8))) (dC (.int j))) [some (.tup [.int (m : Nat), .lst (ws.map dW)]), some (.int c), some (.int a), some (.int (m : Nat)), some (.lst (ws.map dW)), some (.int (k : Nat)), some (LR w.asks), some (LR w.gives), none, none, none] = some (v == j) := fun j => e_b (e_bin c8 e_c o_eqI)
  have tupA : Jk 3 (.tup (w.asks.map LI)) = true := jk_T (by simp; omega) fun d hd => by
    obtain ⟨r, hr, rfl⟩ := List.mem_map.mp hd
    exact jk_LI (by have := la r hr; omega)
  have tupG : Jk 3 (.tup (w.gives.map LI)) = true := jk_T (by simp; omega) fun d hd => by
    obtain ⟨r, hr, rfl⟩ := List.mem_map.mp hd
    exact jk_LI (by have := lg r hr; omega)
  have cutA : ∀ lo hi, Jk 3 (LR (cutD w.asks lo hi)) = true := fun lo hi => jk_LR (by have := cutD_len w.asks lo hi; omega) fun r hr => by have := la r (cutD_mem hr); omega
  have cutG : ∀ lo hi, Jk 3 (LR (cutD w.gives lo hi)) = true := fun lo hi => jk_LR (by have := cutD_len w.gives lo hi; omega) fun r hr => by have := lg r (cutD_mem hr); omega
  by_cases e4 : v = 4
  · subst e4
    have hrep : (5 : Int) - ((w.asks.length : Nat) : Int) = ((5 - w.asks.length : Nat) : Int) := by omega
    have hz : gMul (.lst [.int 0]) (.int ((m : Int) + 1)) = some (LI (List.replicate (m + 1) 0)) := o_zeros (n := m + 1) (by omega)
    have hmul : gMul (.lst [LI (List.replicate (m + 1) 0)]) (.int (5 - (w.asks.length : Int))) = some (.lst (List.replicate (5 - w.asks.length) [LI (List.replicate (m + 1) 0)]).flatten) := by
      rw [hrep]
      exact o_rep (by omega) (by simp; omega)
    have hl5 := rep_len [LI (List.replicate (m + 1) 0)] (5 - w.asks.length)
    have hcat : gAdd (LR w.asks) (.lst (List.replicate (5 - w.asks.length) [LI (List.replicate (m + 1) 0)]).flatten) = some (.lst (w.asks.map LI ++ (List.replicate (5 - w.asks.length) [LI (List.replicate (m + 1) 0)]).flatten)) := o_cat (by rw [hl5]; simp; omega)
    have j5 : Jk 3 (.lst (w.asks.map LI ++ (List.replicate (5 - w.asks.length) [LI (List.replicate (m + 1) 0)]).flatten)) = true := jk_L (by rw [List.length_append, hl5]; simp; omega) fun d hd => by
      rcases List.mem_append.mp hd with hd | hd
      · obtain ⟨r, hr, rfl⟩ := List.mem_map.mp hd
        exact jk_LI (by have := la r hr; omega)
      · rw [List.mem_singleton.mp (rep_mem hd)]
        exact jk_LI (by simp; omega)
    generalize (D.lst (w.asks.map LI ++ (List.replicate (5 - w.asks.length) [LI (List.replicate (m + 1) 0)]).flatten)) = five at hcat j5
    obtain ⟨kt, y, _, _, hy1, hy2⟩ := at_mod (a := c / 8) (n := 8) (xs := [D.non, .tup (w.asks.map LI), five, .int 5, five, .str "", LR (cutD w.asks none (some 1)), five]) rfl (by decide)
    have jy : Jk 3 y = true := by
      have hm := memAt hy1
      simp only [List.mem_cons, List.not_mem_nil, or_false] at hm
      rcases hm with rfl | rfl | rfl | rfl | rfl | rfl | rfl | rfl
      · exact jk_non
      · exact tupA
      · exact j5
      · exact jk_int
      · exact j5
      · exact jk_str
      · exact cutA _ _
      · exact j5
    refine seqE (e_ifF n2 (e_ifF n4 (e_ifT (eqv 4) (e_seq (e_set (e_bin (e_var rfl) (e_bin (e_fn (e_cons (e_bin (e_fn (e_cons e_c e_nil) rfl) (e_bin (e_var rfl) e_c o_add) hz) e_nil) rfl) (e_bin e_c (e_fn (e_cons (e_var rfl) e_nil) o_lenR) o_sub) hmul) hcat)) (e_set (e_fn (e_cons (x := y) ?_ (e_cons (e_var rfl) e_nil)) rfl)))))) (fin (jkT2 jy jg))
    dsimp only [List.set]
    refine e_bin (e_fn (e_cons e_c (e_cons (e_fn (e_cons (e_var rfl) e_nil) rfl) (e_cons (e_var rfl) (e_cons e_c (e_cons (e_var rfl) (e_cons e_c (e_cons (e_sl (e_var rfl) rfl (e_part e_c) slR) (e_cons (e_var rfl) e_nil)))))))) rfl) (e_bin d8 e_c (o_mod (by decide))) hy2
  have n4' : (v == 4) = false := by simpa using e4
  by_cases e5 : v = 5
  · subst e5
    obtain ⟨g0, hg0⟩ : ∃ g0, w.gives[0]? = some g0 := ⟨w.gives[0], List.getElem?_eq_getElem (by omega)⟩
    have hi0 : gIx (LR w.gives) (.int 0) = some (LI g0) := at_nat (k := 0) (by rw [List.getElem?_map, hg0]; rfl)
    obtain ⟨kt, y, _, _, hy1, hy2⟩ := at_mod (a := c / 8) (n := 7) (xs := [D.non, .tup (w.gives.map LI), LR (cutD w.gives (some 1) none), LR (w.gives ++ [g0]), .int 5, .lst [], .dct]) rfl (by decide)
    have jy : Jk 3 y = true := by
      have hm := memAt hy1
      simp only [List.mem_cons, List.not_mem_nil, or_false] at hm
      rcases hm with rfl | rfl | rfl | rfl | rfl | rfl | rfl
      · exact jk_non
      · exact tupG
      · exact cutG _ _
      · refine jk_LR (by simp; omega) fun r hr => ?_
        rcases List.mem_append.mp hr with hr | hr
        · have := lg r hr; omega
        · rw [List.mem_singleton.mp hr]
          have := lg g0 (memAt hg0); omega
      · exact jk_int
      · exact jkL0
      · exact jk_dct
    refine seqE (e_ifF n2 (e_ifF n4 (e_ifF (eqv 4) (e_ifT (eqv 5) (e_set (e_fn (e_cons (e_var rfl) (e_cons (x := y) ?_ e_nil)) rfl)))))) (fin (jkT2 ja jy))
    refine e_bin (e_fn (e_cons e_c (e_cons (e_fn (e_cons (e_var rfl) e_nil) rfl) (e_cons (e_sl (e_var rfl) (e_part e_c) rfl slR) (e_cons (e_bin (e_var rfl) (e_fn (e_cons (e_bin (e_var rfl) e_c hi0) e_nil) rfl) (o_catR (b := [g0]) (by simp; omega))) (e_cons e_c (e_cons (e_fn e_nil rfl) (e_cons e_c e_nil))))))) rfl) (e_bin d8 e_c (o_mod (by decide))) hy2
  have n5' : (v == 5) = false := by simpa using e5
  by_cases e6 : v = 6
  · subst e6
    obtain ⟨kt, y, _, _, hy1, hy2⟩ := at_mod (a := c / 8) (n := 8) (xs := [D.lst [LR w.asks, LR w.gives], .tup [LR w.asks], .tup [LR w.asks, LR w.gives, .lst []], .non, .str "way", .int 5, .tup [LR w.gives, LR w.asks], .tup []]) rfl (by decide)
    have jy : Jk 4 y = true := by
      have hm := memAt hy1
      simp only [List.mem_cons, List.not_mem_nil, or_false] at hm
      rcases hm with rfl | rfl | rfl | rfl | rfl | rfl | rfl | rfl
      · exact jkL2 ja jg
      · exact jkT1 ja
      · exact jkT3 ja jg jkL0
      · exact jk_non
      · exact jk_str
      · exact jk_int
      · exact jkT2 jg ja
      · exact jkT0
    refine seqE (e_ifF n2 (e_ifF n4 (e_ifF (eqv 4) (e_ifF (eqv 5) (e_ifT (eqv 6) (e_set ?_)))))) (fin jy)
    refine e_bin (e_fn (e_cons (e_fn (e_cons (e_var rfl) (e_cons (e_var rfl) e_nil)) rfl) (e_cons (e_fn (e_cons (e_var rfl) e_nil) rfl) (e_cons (e_fn (e_cons (e_var rfl) (e_cons (e_var rfl) (e_cons (e_fn e_nil rfl) e_nil))) rfl) (e_cons e_c (e_cons e_c (e_cons e_c (e_cons (e_fn (e_cons (e_var rfl) (e_cons (e_var rfl) e_nil)) rfl) (e_cons (e_fn e_nil rfl) e_nil)))))))) rfl) (e_bin d8 e_c (o_mod (by decide))) hy2
  have n6' : (v == 6) = false := by simpa using e6
  have q4' := eqv 4
  have q5' := eqv 5
  have q6' := eqv 6
  rw [n4'] at q4'
  rw [n5'] at q5'
  rw [n6'] at q6'
  have jw' : ∀ d : D, Jk 5 d = true → Jk 6 (.tup [d, .lst (ws.map dW)]) = true := fun d hd => jkT2 hd (jk_le (by omega) jw)
  have hmul : gMul (.lst (ws.map dW)) (.int 4) = some (.lst (List.replicate 4 (ws.map dW)).flatten) := o_rep (n := 4) (by decide) (by omega)
  have hstr : gStr [.int (m : Nat)] = some (.str (toString (m : Int))) := by
    have : m = 1 ∨ m = 2 ∨ m = 3 := by omega
    rcases this with rfl | rfl | rfl <;> rfl
  obtain ⟨_, kk, ek, jm⟩ := jk_lst jw
  cases ek
  obtain ⟨kt, y, _, _, hy1, hy2⟩ := at_mod (a := c / 8) (n := 15) (xs := [D.lst [.int (m : Nat), .lst (ws.map dW)], .tup [.int (m : Nat)], .tup [.int (m : Nat), .lst (ws.map dW), .int 0], .non, .tup [.int 0, .lst (ws.map dW)], .tup [.int 4, .lst (ws.map dW)], .tup [.bl true, .lst (ws.map dW)], .tup [.int ((m : Nat) + 1), .lst (ws.map dW)],
    .tup [.int (m : Nat), .lst []], .tup [.int (m : Nat), .lst (List.replicate 4 (ws.map dW)).flatten], .tup [.int (m : Nat), .tup (ws.map dW)], .tup [.str (toString (m : Int)), .lst (ws.map dW)], .tup [.int (m : Nat), .non], .str "loop", .int 5]) rfl (by decide)
  have ty : Tp y := by
    have hm := memAt hy1
    simp only [List.mem_cons, List.not_mem_nil, or_false] at hm
    rcases hm with rfl | rfl | rfl | rfl | rfl | rfl | rfl | rfl | rfl | rfl | rfl | rfl | rfl | rfl | rfl
    · exact tp_seq (jkL2 jk_int (jk_le (by omega) jw)) rfl
    · exact tp_seq (jkT1 jk_int) rfl
    · exact tp_seq (jkT3 jk_int (jk_le (by omega) jw) jk_int) rfl
    · exact ⟨jk_non, fun neg => o_self (n := 0) eq_non (by decide) neg⟩
    · exact tp_seq (jw' _ jk_int) rfl
    · exact tp_seq (jw' _ jk_int) rfl
    · exact tp_seq (jw' _ jk_bl) rfl
    · exact tp_seq (jw' _ jk_int) rfl
    · exact tp_seq (jkT2 jk_int jkL0) rfl
    · exact tp_seq (jkT2 jk_int (jk_L (by rw [rep_len, hl]; omega) fun d hd => jk_le (by omega) (jm d (rep_mem hd)))) rfl
    · exact tp_seq (jkT2 jk_int (jk_T (by omega) fun d hd => jk_le (by omega) (jm d hd))) rfl
    · exact tp_seq (jw' _ jk_str) rfl
    · exact tp_seq (jkT2 jk_int jk_non) rfl
    · exact ⟨jk_str, fun neg => o_self (n := 0) ⟨_, rfl, by decide +kernel, by simp [PyData.depth]⟩ (by decide) neg⟩
    · exact ⟨jk_int, fun neg => o_self (n := 0) eq_int (by decide) neg⟩
  refine seqER (e_ifF n2 (e_ifF n4 (e_ifF q4' (e_ifF q5' (e_ifF q6' ?_))))) ty
  apply e_seq
  · apply e_set
    refine e_fn (e_cons (e_fn (e_cons (e_var rfl) (e_cons (e_var rfl) e_nil)) rfl) (e_cons (e_fn (e_cons (e_var rfl) e_nil) rfl) (e_cons (e_fn (e_cons (e_var rfl) (e_cons (e_var rfl) (e_cons e_c e_nil))) rfl) (e_cons e_c (e_cons (e_fn (e_cons e_c (e_cons (e_var rfl) e_nil)) rfl) (e_cons (e_fn (e_cons e_c (e_cons (e_var rfl) e_nil)) rfl) (e_cons (e_fn (e_cons e_c (e_cons (e_var rfl) e_nil)) rfl) (e_cons (e_fn (e_cons (e_bin (e_var rfl) e_c o_add) (e_cons (e_var rfl) e_nil)) rfl) e_nil)))))))) rfl
  dsimp only [List.set]
  apply e_seq
  · apply e_set
    refine e_bin (e_var rfl) (e_fn (e_cons (e_fn (e_cons (e_var rfl) (e_cons (e_fn e_nil rfl) e_nil)) rfl) (e_cons (e_fn (e_cons (e_var rfl) (e_cons (e_bin (e_var rfl) e_c hmul) e_nil)) rfl) (e_cons (e_fn (e_cons (e_var rfl) (e_cons (e_fn (e_cons (e_var rfl) e_nil) rfl) e_nil)) rfl) (e_cons (e_fn (e_cons (e_fn (e_cons (e_var rfl) e_nil) hstr) (e_cons (e_var rfl) e_nil)) rfl) (e_cons (e_fn (e_cons (e_var rfl) (e_cons e_c e_nil)) rfl) (e_cons e_c (e_cons e_c e_nil))))))) rfl) (o_cat (by simp))
  dsimp only [List.set]
  apply e_ret
  exact e_bin (e_var rfl) (e_bin d8 e_c (o_mod (by decide))) hy2
end K01

set_option Elab.async false
set_option linter.all false
set_option maxRecDepth 100000
set_option maxHeartbeats 400000
namespace K01
open PySem PySem.Spec PyProof.Rows L2 DN
/-! ### loops as texts -/
def numS (i : Int) : Str := toString i
theorem numS_len {i : Int} (h : -1000 ≤ i ∧ i ≤ 1000) : (numS i).length ≤ 5 := by
  have key : ∀ k : Fin 2001, (Str.ofString (toString ((k.val : Int) - 1000))).length ≤ 5 := by decide +kernel
  have := key ⟨(i + 1000).toNat, by omega⟩
  have e : (((i + 1000).toNat : Nat) : Int) - 1000 = i := by omega
  simp only [e] at this
  exact this
theorem str_eq {i : Int} (h : -1000 ≤ i ∧ i ≤ 1000) : gStr [.int i] = some (.str (numS i)) := by
  have hb : i.natAbs < 2 ^ 10 := by omega
  have : i.natAbs.log2 < 1920 := by
    rcases Nat.eq_zero_or_pos i.natAbs with h0 | hp
    · rw [h0]; decide
    · exact Nat.lt_of_lt_of_le ((Nat.log2_lt (Nat.ne_of_gt hp)).mpr hb) (by decide)
  show (if _ then _ else _) = _
  rw [if_pos this]
  rfl
theorem e_mth {g : D → List D → Option D} {ρ : DN.Env} {a : DM} {as : DN.Env → Option (List D)} {d e : D} {ds : List D} (h : a ρ = some d) (h2 : as ρ = some ds) (h3 : g d ds = some e) : dMth g a as ρ = some e := by unfold dMth; rw [h, h2]; exact h3
theorem strsD_map : ∀ l : List Str, strsD (l.map .str) = some l
  | [] => rfl
  | x :: l => by simp [strsD, strsD_map l]
theorem o_join {a : Str} {l : List Str} (h : (l.map (·.length)).sum + l.length * a.length ≤ 1000000) : gJoin (.str a) [.lst (l.map .str)] = some (.str (PySem.Txt.join a l)) := by
  show (strsD (l.map .str)).bind _ = _
  rw [strsD_map]
  exact if_pos h
def lineS (w : Str) (r : List Int) : Str := PySem.Txt.join " " (w :: r.map numS)
theorem sum_le {l : List Nat} {b : Nat} (h : ∀ x ∈ l, x ≤ b) : l.sum ≤ l.length * b := by
  induction l with
  | nil => simp
  | cons x l ih =>
    have h1 := h x List.mem_cons_self
    have h2 := ih fun y hy => h y (List.mem_cons_of_mem _ hy)
    rw [List.sum_cons, List.length_cons, Nat.add_mul]
    omega
theorem join_len {a : Str} {l : List Str} {b : Nat} (h : ∀ x ∈ l, x.length ≤ b) : (PySem.Txt.join a l).length ≤ l.length * b + l.length * a.length ∧ (l.map (·.length)).sum + l.length * a.length ≤ l.length * b + l.length * a.length := by
  have h1 : (l.map (·.length)).sum ≤ l.length * b := by
    have := sum_le (l := l.map (·.length)) (b := b) fun x hx => by
      obtain ⟨y, hy, rfl⟩ := List.mem_map.mp hx
      exact h y hy
    rwa [List.length_map] at this
  have h2 := PySem.StrLaws.join_length_le a l
  have h3 : PySem.Txt.join a l = a.join l := PySem.StrLaws.glued_eq_join a l
  rw [h3]
  omega
theorem line_parts {w : Str} {r : List Int} {m : Nat} (hw : w.length ≤ 5) (hr : RowOk m r) : ∀ x ∈ w :: r.map numS, x.length ≤ 5 := fun x hx => by
  rcases List.mem_cons.mp hx with rfl | hx
  · exact hw
  · obtain ⟨i, hi, rfl⟩ := List.mem_map.mp hx
    exact numS_len (hr.2 i hi)
theorem sp_len : (" " : Str).length = 1 := by decide +kernel
theorem nl_len : ("\n" : Str).length = 1 := by decide +kernel
theorem line_len {w : Str} {r : List Int} {m : Nat} (hm : m ≤ 3) (hw : w.length ≤ 5) (hr : RowOk m r) : (lineS w r).length ≤ 100 := by
  have h := (join_len (a := " ") (line_parts hw hr)).1
  have e := hr.1
  unfold lineS
  rw [sp_len] at h
  simp only [List.length_cons, List.length_map] at h
  omega
theorem row_line_eq {w : Str} {r : List Int} {m : Nat} (hm : m ≤ 3) (hw : w.length ≤ 5) (hr : RowOk m r) : M_row_line [.str w, LI r] = some (.str (lineS w r)) := by
  refine fn_rt (ρ := [some (.str w), some (LI r), none]) rfl ?_
  have e := hr.1
  have h := (join_len (a := " ") (line_parts hw hr)).2
  rw [sp_len] at h
  simp only [List.length_cons, List.length_map] at h
  refine e_ret (e_mth e_c (e_cons (x := .lst ((w :: r.map numS).map .str)) (e_bin (y := .lst ((r.map numS).map .str)) (e_fn (e_cons (e_var rfl) e_nil) rfl) ?_ (o_cat (by simp; omega))) e_nil) (o_join ?_))
  · rw [List.map_map]
    refine e_lc (l := r) (emb := D.int) (f := fun i => D.str (numS i)) (e_lsI (e_var rfl)) (by omega) fun i hi => ?_
    exact e_fn (e_cons (e_var rfl) e_nil) (str_eq (hr.2 i hi))
  · rw [sp_len]
    simp only [List.length_cons, List.length_map]
    omega
def wayS (w : Way) : List Str := ([("way" : Str)] : List Str) ++ w.asks.map (lineS "ask") ++ w.gives.map (lineS "set")
theorem way_lines_eq {m : Nat} {w : Way} (hm : m ≤ 3) (h : WayOk m w) : M_way_lines [dW w] = some (.lst ((wayS w).map .str)) := by
  obtain ⟨h1, h2, h3, h4⟩ := h
  refine fn_rt (ρ := [some (dW w), none, none, none]) rfl ?_
  unfold m_way_lines wayS
  apply e_seq
  · exact e_asg (e_var rfl) rfl
  dsimp only [List.set]
  rw [List.map_append, List.map_append, List.map_map, List.map_map]
  refine e_ret (e_bin (e_bin (e_fn (e_cons e_c e_nil) rfl) ?_ (o_cat (by simp; omega))) ?_ (o_cat (by simp; omega)))
  · refine e_lc (l := w.asks) (emb := LI) (f := fun r => D.str (lineS "ask" r)) (e_lsR (e_var rfl)) (by omega) fun r hr => ?_
    exact e_fn (e_cons e_c (e_cons (e_var rfl) e_nil)) (row_line_eq hm (by decide +kernel) (h2 r hr))
  · refine e_lc (l := w.gives) (emb := LI) (f := fun r => D.str (lineS "set" r)) (e_lsR (e_var rfl)) (by omega) fun r hr => ?_
    exact e_fn (e_cons e_c (e_cons (e_var rfl) e_nil)) (row_line_eq hm (by decide +kernel) (h4 r hr))
theorem wayS_ok {m : Nat} {w : Way} (hm : m ≤ 3) (h : WayOk m w) : (wayS w).length ≤ 8 ∧ ∀ x ∈ wayS w, x.length ≤ 100 := by
  obtain ⟨h1, h2, h3, h4⟩ := h
  refine ⟨by unfold wayS; simp; omega, fun x hx => ?_⟩
  unfold wayS at hx
  simp only [List.mem_append, List.mem_singleton, List.mem_map] at hx
  rcases hx with (rfl | ⟨r, hr, rfl⟩) | ⟨r, hr, rfl⟩
  · exact Nat.le_trans (show ("way" : Str).length ≤ 5 by decide +kernel) (by decide)
  · exact line_len hm (by decide +kernel) (h2 r hr)
  · exact line_len hm (by decide +kernel) (h4 r hr)
def waysS (ws : List Way) : List Str := (ws.map wayS).flatten
def loopS (L : Lp) : List Str := ("names " ++ numS (L.many : Nat)) :: waysS L.ways
def textS (L : Lp) : Str := PySem.Txt.join "\n" (loopS L)
theorem waysS_ok {m : Nat} {ws : List Way} (hm : m ≤ 3) (h : ∀ w ∈ ws, WayOk m w) : (waysS ws).length ≤ ws.length * 8 ∧ ∀ x ∈ waysS ws, x.length ≤ 100 := by
  induction ws with
  | nil => exact ⟨by simp [waysS], fun x hx => by simp [waysS] at hx⟩
  | cons w ws ih =>
    obtain ⟨a1, a2⟩ := wayS_ok hm (h w List.mem_cons_self)
    obtain ⟨b1, b2⟩ := ih fun v hv => h v (List.mem_cons_of_mem _ hv)
    have e : waysS (w :: ws) = wayS w ++ waysS ws := by unfold waysS; simp
    rw [e]
    refine ⟨by rw [List.length_append, List.length_cons]; omega, fun x hx => ?_⟩
    rcases List.mem_append.mp hx with hx | hx
    · exact a2 x hx
    · exact b2 x hx
theorem loopS_ok {L : Lp} (h : LpOk L) : (loopS L).length ≤ 25 ∧ ∀ x ∈ loopS L, x.length ≤ 100 := by
  obtain ⟨a1, a2⟩ := waysS_ok h.m3 h.ok
  have w3 := h.w3
  have m3 := h.m3
  unfold loopS
  refine ⟨by rw [List.length_cons]; omega, fun x hx => ?_⟩
  rcases List.mem_cons.mp hx with rfl | hx
  · rw [strLen_append]
    have e1 : ("names " : Str).length = 6 := by decide +kernel
    have e2 := numS_len (i := (L.many : Nat)) (by omega)
    omega
  · exact a2 x hx
theorem names_eq {ρ : DN.Env} {m : Nat} {e : DM} (h : e ρ = some (.int (m : Nat))) (hm : m ≤ 1000) : dFs2 "names " e ρ = some (.str ("names " ++ numS (m : Nat))) := by
  have hs := str_eq (i := (m : Nat)) (by omega)
  have hl := numS_len (i := (m : Nat)) (by omega)
  have e1 : ("names " : Str).length = 6 := by decide +kernel
  have hf : hFmt (.int (m : Nat)) = some (numS (m : Nat)) := by
    have hs : (if ((m : Nat) : Int).natAbs.log2 < 1920 then some (D.str (toString ((m : Nat) : Int))) else none) = some (D.str (numS (m : Nat))) := hs
    by_cases hc : ((m : Nat) : Int).natAbs.log2 < 1920
    · exact if_pos hc
    · rw [if_neg hc] at hs; cases hs
  unfold dFs2
  rw [h]
  simp only [Option.bind_some, hf]
  exact if_pos (by omega)
theorem written_loop {L : Lp} {m : Nat} {a0 a1 : Option D} (hm : m ≤ 3) : ∀ (ws : List Way) (acc : List Str) (a2 x4 : Option D), (∀ w ∈ ws, WayOk m w) → acc.length + 8 * ws.length < 1000 → ∃ y4,
    forGo [3] (bd1 4) (sExt 3 false (ev false [3] (dFn M_way_lines (dCons (dVar 4) dNil)))) (ws.map dW) [a0, a1, a2, some (.lst (acc.map .str)), x4] = some (.nx [a0, a1, a2, some (.lst ((acc ++ waysS ws).map .str)), y4])
  | [], acc, a2, x4, _, _ => ⟨x4, by simp [forGo, waysS]⟩
  | w :: ws, acc, a2, x4, h, hl => by
    have hw := h w List.mem_cons_self
    obtain ⟨l1, _⟩ := wayS_ok hm hw
    rw [List.length_cons] at hl
    obtain ⟨y4, e⟩ := written_loop (L := L) hm ws (acc ++ wayS w) a2 (some (dW w)) (fun v hv => h v (List.mem_cons_of_mem _ hv)) (by rw [List.length_append]; omega)
    refine ⟨y4, ?_⟩
    have e2 : acc ++ waysS (w :: ws) = acc ++ wayS w ++ waysS ws := by unfold waysS; simp
    rw [e2, List.map_cons]
    refine forO_cons (ρ1 := [a0, a1, a2, none, some (dW w)]) rfl ?_ e
    have hm2 : mrg [3] [a0, a1, a2, some (D.lst (acc.map .str)), x4] [a0, a1, a2, none, some (dW w)] = [a0, a1, a2, some (D.lst (acc.map .str)), some (dW w)] := rfl
    rw [hm2]
    have hv : ev false [3] (dFn M_way_lines (dCons (dVar 4) dNil)) [a0, a1, a2, some (D.lst (acc.map .str)), some (dW w)] = some (.lst ((wayS w).map .str)) := e_ev (e_fn (e_cons (e_var rfl) e_nil) (way_lines_eq hm hw))
    unfold sExt
    rw [hv]
    simp only [Option.bind_some]
    show (if _ then _ else _) = _
    rw [if_pos ⟨by simp; omega, fun z => nomatch z⟩, List.map_append]
    rfl
theorem written_eq {L : Lp} (h : LpOk L) : M_written [dL L] = some (.ok (.str (textS L))) := by
  have m3 := h.m3
  have w3 := h.w3
  obtain ⟨s1, s2⟩ := loopS_ok h
  refine fr_rt (ρ := [some (dL L), none, none, none, none]) rfl ?_
  unfold m_written
  apply e_seq
  · exact e_x (e_cons (e_var rfl) e_nil) (need_loop_eq h)
  apply e_seq
  · exact e_asg (e_var rfl) rfl
  dsimp only [List.set]
  apply e_seq
  · have : dCons (dFs2 "names " (dVar 1)) dNil [some (dL L), some (.int (L.many : Nat)), some (.lst (L.ways.map dW)), none, none] = some [.str ("names " ++ numS (L.many : Nat))] := e_cons (names_eq (e_var rfl) (by omega)) e_nil
    show sLst 3 [] _ _ = some (.nx [some (dL L), some (.int (L.many : Nat)), some (.lst (L.ways.map dW)), some (.lst ([("names " ++ numS (L.many : Nat))].map .str)), none])
    unfold sLst
    rw [show wipeD [some (dL L), some (.int (L.many : Nat)), some (.lst (L.ways.map dW)), none, none] [] = [some (dL L), some (.int (L.many : Nat)), some (.lst (L.ways.map dW)), none, none] from rfl, this]
    rfl
  obtain ⟨y4, e⟩ := written_loop (L := L) (a0 := some (dL L)) (a1 := some (.int (L.many : Nat))) h.m3 L.ways [("names " ++ numS (L.many : Nat))] (some (.lst (L.ways.map dW))) none h.ok (by simp; omega)
  apply e_seq
  · exact e_forO (ds := L.ways.map dW) rfl e
  · have hj := (join_len (a := "\n") s2).2
    rw [nl_len] at hj
    refine e_ret (e_mth e_c (e_cons (e_var rfl) e_nil) (o_join ?_))
    show _ + (loopS L).length * _ ≤ _
    rw [nl_len]
    show ((loopS L).map _).sum + _ ≤ _
    omega
end K01

set_option Elab.async false
set_option linter.all false
set_option maxRecDepth 100000
set_option maxHeartbeats 400000
namespace K01
open PySem PySem.Spec PyProof.Rows L2 DN
/-! ### what a loop is made of -/
theorem row_of {m : Nat} {d : D} (h : isRowD m d = true) : ∃ r, d = LI r ∧ RowOk m r := by
  cases d with
  | lst ds =>
    have h : (decide (ds.length = m + 1) && ds.all (within (-1000) 1000)) = true := h
    rw [Bool.and_eq_true, decide_eq_true_eq] at h
    have hi : ds.all isI = true := all_of fun x hx => by
      have := List.all_eq_true.mp h.2 x hx
      cases x <;> first | rfl | cases this
    obtain ⟨r, rfl⟩ := ints_of hi
    refine ⟨r, rfl, by have := h.1; rwa [List.length_map] at this, fun x hx => ?_⟩
    have := List.all_eq_true.mp h.2 (.int x) (List.mem_map.mpr ⟨x, hx, rfl⟩)
    have : (decide (-1000 ≤ x) && decide (x ≤ 1000)) = true := this
    rw [Bool.and_eq_true, decide_eq_true_eq, decide_eq_true_eq] at this
    exact this
  | _ => cases h
theorem each_of {α : Type} {P : α → Prop} {f : α → D} {p : D → Bool} (hp : ∀ d, p d = true → ∃ a, d = f a ∧ P a) : ∀ {ds : List D}, ds.all p = true → ∃ l : List α, ds = l.map f ∧ ∀ a ∈ l, P a
  | [], _ => ⟨[], rfl, fun a h => nomatch h⟩
  | d :: ds, h => by
    rw [List.all_cons, Bool.and_eq_true] at h
    obtain ⟨a, rfl, ha⟩ := hp d h.1
    obtain ⟨l, rfl, hl⟩ := each_of hp h.2
    exact ⟨a :: l, rfl, fun b hb => by
      rcases List.mem_cons.mp hb with rfl | hb
      · exact ha
      · exact hl b hb⟩
theorem rows_of {m lo hi : Nat} {d : D} (h : isRowsD m lo hi d = true) : ∃ R, d = LR R ∧ lo ≤ R.length ∧ R.length ≤ hi ∧ ∀ r ∈ R, RowOk m r := by
  cases d with
  | lst ds =>
    have h : ((decide (lo ≤ ds.length) && decide (ds.length ≤ hi)) && ds.all (isRowD m)) = true := h
    rw [Bool.and_eq_true, Bool.and_eq_true, decide_eq_true_eq, decide_eq_true_eq] at h
    obtain ⟨R, rfl, hR⟩ := each_of (fun d hd => row_of hd) h.2
    rw [List.length_map] at h
    exact ⟨R, rfl, h.1.1, h.1.2, hR⟩
  | _ => cases h
theorem way_of {m : Nat} {d : D} (h : isWayD m d = true) : ∃ w, d = dW w ∧ WayOk m w := by
  cases d with
  | tup ds =>
    match ds with
    | [a, b] =>
      have h : (isRowsD m 0 4 a && isRowsD m m m b) = true := h
      rw [Bool.and_eq_true] at h
      obtain ⟨A, rfl, a1, a2, a3⟩ := rows_of h.1
      obtain ⟨B, rfl, b1, b2, b3⟩ := rows_of h.2
      exact ⟨⟨A, B⟩, rfl, a2, a3, by show B.length = m; omega, b3⟩
    | [] => cases h
    | [a] => cases h
    | a :: b :: c :: r => cases h
  | _ => cases h
theorem loop_of {d : D} (h : isLoopD d = true) : ∃ L, d = dL L ∧ LpOk L := by
  cases hq : isPair d with
  | false =>
    have : isLoopD d = false := by
      cases d with
      | tup ds =>
        match ds with
        | [a, b] => cases hq
        | [] => rfl
        | [a] => cases a <;> rfl
        | a :: b :: c :: r => cases a <;> cases b <;> rfl
      | _ => rfl
    rw [this] at h; cases h
  | true =>
    obtain ⟨a, b, rfl⟩ := isPair_of hq
    cases a with
    | int n =>
      cases b with
      | lst ws =>
        have h : ((decide (1 ≤ n) && decide (n ≤ 3)) && (decide (1 ≤ ws.length) && decide (ws.length ≤ 3)) && ws.all (isWayD n.toNat)) = true := h
        simp only [Bool.and_eq_true, decide_eq_true_eq] at h
        obtain ⟨⟨⟨h1, h2⟩, h3, h4⟩, h5⟩ := h
        obtain ⟨l, rfl, hl⟩ := each_of (fun d hd => way_of hd) h5
        rw [List.length_map] at h3 h4
        refine ⟨⟨n.toNat, l⟩, ?_, by show 1 ≤ n.toNat; omega, by show n.toNat ≤ 3; omega, h3, h4, hl⟩
        unfold dL
        have : ((n.toNat : Nat) : Int) = n := by omega
        show D.tup [.int n, _] = D.tup [.int (n.toNat : Nat), _]
        rw [this]
      | _ => cases h
    | _ => cases b <;> cases h
end K01

set_option Elab.async false
set_option linter.all false
set_option maxRecDepth 100000
set_option maxHeartbeats 400000
namespace K01
open PySem PySem.Spec PyProof.Rows L2 DN
/-! ### the law -/
theorem xrE {ρ : DN.Env} {as : DN.Env → Option (List D)} {g : List D → Option Res} {ds : List D} {n : Str} (h : as ρ = some ds) (k : g ds = some (.er n)) : xRet as g ρ = some (.ex n) := by unfold xRet; rw [h]; simp only [Option.bind_some]; rw [k]; rfl
theorem xrO {ρ : DN.Env} {as : DN.Env → Option (List D)} {g : List D → Option Res} {ds : List D} {d : D} (h : as ρ = some ds) (k : g ds = some (.ok d)) : xRet as g ρ = some (.rt d) := by unfold xRet; rw [h]; simp only [Option.bind_some]; rw [k]; rfl
theorem asked_bad {w : Int} {d : D} (hp : Pln d = true) (hl : isLoopD d = false) (h0 : 0 ≤ w) (h7 : w ≤ 7) : M_law_asked [.int w, d] = some (.er "BadLoop") := by
  have hn : M_need_loop [d] = some (.er "BadLoop") := by rw [need_loopD hp, hl]; rfl
  refine fr_ex (ρ := [some (.int w), some d]) rfl ?_
  unfold m_law_asked
  have hq : ∀ j : Int, dB (dBin (gEqv false) (dVar 0) (dC (.int j))) [some (.int w), some d] = some (w == j) := fun j => e_b (e_bin (e_var rfl) e_c o_eqI)
  have f1 : M_after [d, .non, .int 5] = some (.er "BadLoop") := fr_ex (ρ := [some d, some .non, some (.int 5), none, none]) rfl (e_seqX (e_xE (e_cons (e_var rfl) e_nil) hn))
  have f2 : M_run [d, .non, .int (-1)] = some (.er "BadLoop") := fr_ex (ρ := [some d, some .non, some (.int (-1)), none, none, none, none, none]) rfl (e_seqX (e_xE (e_cons (e_var rfl) e_nil) hn))
  have f3 : M_told [d] = some (.er "BadLoop") := fr_ex (ρ := [some d, none, none]) rfl (e_seqX (e_xE (e_cons (e_var rfl) e_nil) hn))
  have f4 : M_is_reason [d, .non, .int 5] = some (.er "BadLoop") := fr_ex (ρ := [some d, some .non, some (.int 5), none, none, none, none]) rfl (e_seqX (e_xE (e_cons (e_var rfl) e_nil) hn))
  have f5 : M_are_spots [d, .non] = some (.er "BadLoop") := fr_ex (ρ := [some d, some .non, none, none, none, none, none, none]) rfl (e_seqX (e_xE (e_cons (e_var rfl) e_nil) hn))
  have f6 : M_most_turns [d, .non, .int 5] = some (.er "BadLoop") := fr_ex (ρ := [some d, some .non, some (.int 5), none, none, none, none, none]) rfl (e_seqX (e_xE (e_cons (e_var rfl) e_nil) hn))
  have f7 : M_written [d] = some (.er "BadLoop") := fr_ex (ρ := [some d, none, none, none, none]) rfl (e_seqX (e_xE (e_cons (e_var rfl) e_nil) hn))
  have a1 : ∀ e : D, dCons (dVar 1) (dCons (dC .non) (dCons (dC (.int 5)) dNil)) [some e, some d] = some [d, .non, .int 5] := fun e => e_cons (e_var rfl) (e_cons e_c (e_cons e_c e_nil))
  have : w = 0 ∨ w = 1 ∨ w = 2 ∨ w = 3 ∨ w = 4 ∨ w = 5 ∨ w = 6 ∨ w = 7 := by omega
  rcases this with rfl | rfl | rfl | rfl | rfl | rfl | rfl | rfl
  · exact e_seqX (e_ifT (hq 0) (xrE (e_cons (e_var rfl) e_nil) hn))
  · exact e_seq (e_ifF (hq 0) e_nx) (e_seqX (e_ifT (hq 1) (xrE (a1 _) f1)))
  · exact e_seq (e_ifF (hq 0) e_nx) (e_seq (e_ifF (hq 1) e_nx) (e_seqX (e_ifT (hq 2) (xrE (e_cons (e_var rfl) (e_cons e_c (e_cons (e_un e_c o_neg) e_nil))) f2))))
  · exact e_seq (e_ifF (hq 0) e_nx) (e_seq (e_ifF (hq 1) e_nx) (e_seq (e_ifF (hq 2) e_nx) (e_seqX (e_ifT (hq 3) (xrE (e_cons (e_var rfl) e_nil) f3)))))
  · exact e_seq (e_ifF (hq 0) e_nx) (e_seq (e_ifF (hq 1) e_nx) (e_seq (e_ifF (hq 2) e_nx) (e_seq (e_ifF (hq 3) e_nx) (e_seqX (e_ifT (hq 4) (xrE (a1 _) f4))))))
  · exact e_seq (e_ifF (hq 0) e_nx) (e_seq (e_ifF (hq 1) e_nx) (e_seq (e_ifF (hq 2) e_nx) (e_seq (e_ifF (hq 3) e_nx) (e_seq (e_ifF (hq 4) e_nx) (e_seqX (e_ifT (hq 5) (xrE (e_cons (e_var rfl) (e_cons e_c e_nil)) f5)))))))
  · exact e_seq (e_ifF (hq 0) e_nx) (e_seq (e_ifF (hq 1) e_nx) (e_seq (e_ifF (hq 2) e_nx) (e_seq (e_ifF (hq 3) e_nx) (e_seq (e_ifF (hq 4) e_nx) (e_seq (e_ifF (hq 5) e_nx) (e_seqX (e_ifT (hq 6) (xrE (a1 _) f6))))))))
  · exact e_seq (e_ifF (hq 0) e_nx) (e_seq (e_ifF (hq 1) e_nx) (e_seq (e_ifF (hq 2) e_nx) (e_seq (e_ifF (hq 3) e_nx) (e_seq (e_ifF (hq 4) e_nx) (e_seq (e_ifF (hq 5) e_nx) (e_seq (e_ifF (hq 6) e_nx) (xrE (e_cons (e_var rfl) e_nil) f7)))))))
theorem tell_loop : tellE "BadLoop" = ("loop " : Str) := by decide +kernel
theorem word_bad {w : Int} {d : D} (hp : Pln d = true) (hl : isLoopD d = false) (h0 : 0 ≤ w) (h7 : w ≤ 7) : M_law_word [.int w, d] = some (.str "loop ") := by
  refine fn_rt (ρ := [some (.int w), some d, none]) rfl ?_
  rw [← tell_loop]
  exact e_seqR (e_try (e_xE (e_cons (e_var rfl) (e_cons (e_var rfl) e_nil)) (asked_bad hp hl h0 h7)) (by decide))
theorem word_good {w : Int} {d r : D} (h : M_law_asked [.int w, d] = some (.ok r)) : M_law_word [.int w, d] = some (.str "") := by
  refine fn_rt (ρ := [some (.int w), some d, none]) rfl ?_
  exact e_seq (e_tryOk (e_x (e_cons (e_var rfl) (e_cons (e_var rfl) e_nil)) h)) (e_ret e_c)
theorem asked_0 {d : D} (hp : Pln d = true) (hl : isLoopD d = true) : M_law_asked [.int 0, d] = some (.ok .non) := by
  have hn : M_need_loop [d] = some (.ok .non) := by rw [need_loopD hp, hl]; rfl
  refine fr_rt (ρ := [some (.int 0), some d]) rfl ?_
  exact e_seqR (e_ifT (e_b (e_bin (e_var rfl) e_c o_eqI)) (xrO (e_cons (e_var rfl) e_nil) hn))
theorem asked_7 {L : Lp} (h : LpOk L) : M_law_asked [.int 7, dL L] = some (.ok (.str (textS L))) := by
  refine fr_rt (ρ := [some (.int 7), some (dL L)]) rfl ?_
  have hq : ∀ j : Int, dB (dBin (gEqv false) (dVar 0) (dC (.int j))) [some (.int 7), some (dL L)] = some ((7 : Int) == j) := fun j => e_b (e_bin (e_var rfl) e_c o_eqI)
  exact e_seq (e_ifF (hq 0) e_nx) (e_seq (e_ifF (hq 1) e_nx) (e_seq (e_ifF (hq 2) e_nx) (e_seq (e_ifF (hq 3) e_nx) (e_seq (e_ifF (hq 4) e_nx) (e_seq (e_ifF (hq 5) e_nx) (e_seq (e_ifF (hq 6) e_nx) (xrO (e_cons (e_var rfl) e_nil) (written_eq h))))))))
theorem eq_strs {n : Nat} : EqOk n (.str "loop ") ∧ EqOk n (.str "") := ⟨⟨_, rfl, by decide +kernel, by simp [PyData.depth]⟩, ⟨_, rfl, by decide +kernel, by simp [PyData.depth]⟩⟩
theorem law_eq (ns : List Int) : M_law [.scr ns] = some (.bl true) := by
  have h : LpOk (loopF ns 3) := loopF_ok ns 3
  generalize hL : loopF ns 3 = L at h
  have hloop : M_law_loop_by [.scr ns, .int 3] = some (dL L) := by rw [← hL]; exact loop_eq (at_ := 3)
  have fcell : ∀ k : Nat, M_law_cell_at [.scr ns, .int (k : Nat)] = some (.int (cell ns k)) := fun k => cell_eq
  have c0 : M_law_cell_at [.scr ns, .int 0] = some (.int (cell ns 0)) := fcell 0
  have c1 : M_law_cell_at [.scr ns, .int 1] = some (.int (cell ns 1)) := fcell 1
  have c2 : M_law_cell_at [.scr ns, .int 2] = some (.int (cell ns 2)) := fcell 2
  refine fn_rt (ρ := [some (.scr ns), none, none, none, none, none]) rfl ?_
  unfold m_law
  apply e_seq
  · exact e_set (e_fn (e_cons (e_var rfl) (e_cons e_c e_nil)) hloop)
  dsimp only [List.set]
  apply e_seq
  · exact e_set (e_fn (e_cons (e_var rfl) (e_cons e_c e_nil)) c0)
  dsimp only [List.set]
  apply e_seq
  · exact e_set (e_var rfl)
  dsimp only [List.set]
  obtain ⟨t, ht, tj, te⟩ : ∃ t, sIf (dB (dBin (gI pGt) (dBin gMod (dVar 2) (dC (.int 6))) (dC (.int 0)))) (sSet 3 (ev false [] (dFn M_law_bent (dCons (dVar 1) (dCons (dBin gFdiv (dVar 2) (dC (.int 6))) (dCons (dFn M_law_cell_at (dCons (dVar 0) (dCons (dC (.int 1)) dNil))) dNil)))))) sNx
      [some (.scr ns), some (dL L), some (.int (cell ns 0)), some (dL L), none, none] = some (.nx [some (.scr ns), some (dL L), some (.int (cell ns 0)), some t, none, none]) ∧ Tp t := by
    have hc : dB (dBin (gI pGt) (dBin gMod (dVar 2) (dC (.int 6))) (dC (.int 0))) [some (.scr ns), some (dL L), some (.int (cell ns 0)), some (dL L), none, none] = some (pGt (cell ns 0 % 6) 0) := e_b (e_bin (e_bin (e_var rfl) e_c (o_mod (by decide))) e_c o_I)
    cases hk : pGt (cell ns 0 % 6) 0 with
    | true =>
      rw [hk] at hc
      obtain ⟨d, e, g⟩ := bent_eq (c := cell ns 0 / 6) (a := cell ns 1) h
      exact ⟨d, e_ifT hc (e_set (e_fn (e_cons (e_var rfl) (e_cons (e_bin (e_var rfl) e_c (o_div (by decide) (by decide))) (e_cons (e_fn (e_cons (e_var rfl) (e_cons e_c e_nil)) c1) e_nil))) e)), g⟩
    | false =>
      rw [hk] at hc
      exact ⟨dL L, e_ifF hc e_nx, tp_seq (jk_dL (n := 1) h) rfl⟩
  apply e_seq
  · exact ht
  have hp := jk_pln tj
  apply e_seq
  · exact e_set (e_fn (e_cons (e_var rfl) e_nil) (copied_jk 6 t tj))
  dsimp only [List.set]
  apply e_seq
  · exact e_set (e_fn (e_cons (e_var rfl) e_nil) (lloop_eq tj))
  dsimp only [List.set]
  have ne : gEqv true t t = some (.bl false) := te true
  have eq : gEqv false t t = some (.bl true) := te false
  have sn0 : gEqv true (.str "loop ") (.str "loop ") = some (.bl false) := o_self (n := 0) eq_strs.1 (by decide) true
  have sn1 : gEqv true (.str "") (.str "") = some (.bl false) := o_self (n := 0) eq_strs.2 (by decide) true
  have se0 : gEqv false (.str "loop ") (.str "loop ") = some (.bl true) := o_self (n := 0) eq_strs.1 (by decide) false
  have se1 : gEqv false (.str "") (.str "") = some (.bl true) := o_self (n := 0) eq_strs.2 (by decide) false
  cases hg : isLoopD t with
  | true =>
    apply e_seq
    · refine e_ifF (e_orT (k := false) (l := false) (e_b (e_bin (e_fn (e_cons e_c (e_cons (e_var rfl) e_nil)) (word_good (asked_0 hp hg))) ?_ sn1)) fun _ => e_b (e_bin (e_var rfl) (e_var rfl) ne)) e_nx
      refine e_bin (e_fn (e_cons e_c (e_cons e_c e_nil)) rfl) (e_fn (e_cons (e_var rfl) e_nil) rfl) rfl
    refine e_seqR (e_ifT (e_tr (e_var rfl) rfl) (e_ret (e_and (k := true) (l := true && true) ?_ fun _ => e_and ?_ fun _ => e_bin (e_var rfl) (e_var rfl) eq)))
    · have hn : okOf M_need_loop [t] = some .non := by
        unfold okOf
        rw [need_loopD hp, hg]; rfl
      exact e_bin (e_fn (e_cons (e_var rfl) e_nil) hn) e_c o_isN
    · obtain ⟨L', rfl, hL'⟩ := loop_of hg
      exact e_bin (e_fn (e_cons e_c (e_cons (e_var rfl) e_nil)) (word_good (asked_7 hL'))) e_c se1
  | false =>
    apply e_seq
    · refine e_ifF (e_orT (k := false) (l := false) (e_b (e_bin (e_fn (e_cons e_c (e_cons (e_var rfl) e_nil)) (word_bad (w := 0) hp hg (by decide) (by decide))) ?_ sn0)) fun _ => e_b (e_bin (e_var rfl) (e_var rfl) ne)) e_nx
      refine e_bin (e_fn (e_cons e_c (e_cons e_c e_nil)) rfl) (e_fn (e_cons (e_var rfl) e_nil) rfl) rfl
    apply e_seq
    · exact e_ifF (e_tr (e_var rfl) rfl) e_nx
    have hj : 0 ≤ 1 + cell ns 2 % 7 ∧ 1 + cell ns 2 % 7 ≤ 7 := by omega
    exact e_ret (e_and (k := true) (l := true) (e_bin (e_fn (e_cons (e_bin e_c (e_bin (e_fn (e_cons (e_var rfl) (e_cons e_c e_nil)) c2) e_c (o_mod (by decide))) o_add) (e_cons (e_var rfl) e_nil)) (word_bad hp hg hj.1 hj.2)) e_c se0) fun _ => e_bin (e_var rfl) (e_var rfl) eq)
end K01

set_option Elab.async false
set_option linter.all false
set_option maxRecDepth 100000
set_option maxHeartbeats 8000000
namespace K01
open PySem PySem.Spec PyProof.Rows L2 L2H GxR GX DN
theorem all_mk {l : PySem.W.OpenLaw} {w : World} {K : PySem.W.Frag} {h : Heap} {mg : Str → Option Value} {fa : Addr} {f_is_whole c_is_whole f_is_whole_within c_is_whole_within f_is_list_of c_is_list_of f_are_wholes c_are_wholes f_is_pair c_is_pair f_is_row c_is_row f_are_rows c_are_rows f_is_way c_is_way f_is_loop c_is_loop f_need_loop c_need_loop f_after c_after f_run c_run f_told c_told f_is_reason c_is_reason f_are_spots c_are_spots f_most_turns c_most_turns f_row_line c_row_line f_way_lines c_way_lines f_written c_written f_law_cell_at c_law_cell_at f_law_drawn c_law_drawn f_law_row_by c_law_row_by f_law_way_by c_law_way_by f_law_far c_law_far f_law_loop_by c_law_loop_by f_law_name_of c_law_name_of f_law_copied c_law_copied f_law_asked c_law_asked f_law_word c_law_word f_law_put c_law_put f_law_row_bent c_law_row_bent f_law_bent c_law_bent f_law_is_row c_law_is_row f_law_is_loop c_law_is_loop f_law c_law p_are_wholes p_is_row p_are_rows p_is_loop p_are_spots x_LoopError x_BadLoop x_BadState x_BadCount x_BadGauge x_BadTable x_BadText : Addr} (X : K.In h) (G : h.Ns mainGlobals mg) (hfa : mg "law" = some (.ref fa)) (em : Empties K mg PySem.Challenge.pw_loopgauge_k01_what_is_no_loop h)
    {od_is_whole an_is_whole od_is_whole_within an_is_whole_within od_is_list_of an_is_list_of od_are_wholes an_are_wholes od_is_pair an_is_pair od_is_row an_is_row od_are_rows an_are_rows od_is_way an_is_way od_is_loop an_is_loop od_need_loop an_need_loop od_after an_after od_run an_run od_told an_told od_is_reason an_is_reason od_are_spots an_are_spots od_most_turns an_most_turns od_row_line an_row_line od_way_lines an_way_lines od_written an_written od_law_cell_at an_law_cell_at od_law_drawn an_law_drawn od_law_row_by an_law_row_by od_law_way_by an_law_way_by od_law_far an_law_far od_law_loop_by an_law_loop_by od_law_name_of an_law_name_of od_law_copied an_law_copied od_law_asked an_law_asked od_law_word an_law_word od_law_put an_law_put od_law_row_bent an_law_row_bent od_law_bent an_law_bent od_law_is_row an_law_is_row od_law_is_loop an_law_is_loop od_law an_law : Option Addr} {sl_is_whole sl_is_whole_within sl_is_list_of sl_are_wholes sl_is_pair sl_is_row sl_are_rows sl_is_way sl_is_loop sl_need_loop sl_after sl_run sl_told sl_is_reason sl_are_spots sl_most_turns sl_row_line sl_way_lines sl_written sl_law_cell_at sl_law_drawn sl_law_row_by sl_law_way_by sl_law_far sl_law_loop_by sl_law_name_of sl_law_copied sl_law_asked sl_law_word sl_law_put sl_law_row_bent sl_law_bent sl_law_is_row sl_law_is_loop sl_law : Array (Option Value)} {oc_is_whole kV_is_whole dc_is_whole pm_is_whole ct_is_whole oc_is_whole_within kV_is_whole_within dc_is_whole_within pm_is_whole_within ct_is_whole_within oc_is_list_of kV_is_list_of dc_is_list_of pm_is_list_of ct_is_list_of oc_are_wholes kV_are_wholes dc_are_wholes pm_are_wholes ct_are_wholes oc_is_pair kV_is_pair dc_is_pair pm_is_pair ct_is_pair oc_is_row kV_is_row dc_is_row pm_is_row ct_is_row oc_are_rows kV_are_rows dc_are_rows pm_are_rows ct_are_rows oc_is_way kV_is_way dc_is_way pm_is_way ct_is_way oc_is_loop kV_is_loop dc_is_loop pm_is_loop ct_is_loop oc_need_loop kV_need_loop dc_need_loop pm_need_loop ct_need_loop oc_after kV_after dc_after pm_after ct_after oc_run kV_run dc_run pm_run ct_run oc_told kV_told dc_told pm_told ct_told oc_is_reason kV_is_reason dc_is_reason pm_is_reason ct_is_reason oc_are_spots kV_are_spots dc_are_spots pm_are_spots ct_are_spots oc_most_turns kV_most_turns dc_most_turns pm_most_turns ct_most_turns oc_row_line kV_row_line dc_row_line pm_row_line ct_row_line oc_way_lines kV_way_lines dc_way_lines pm_way_lines ct_way_lines oc_written kV_written dc_written pm_written ct_written oc_law_cell_at kV_law_cell_at dc_law_cell_at pm_law_cell_at ct_law_cell_at oc_law_drawn kV_law_drawn dc_law_drawn pm_law_drawn ct_law_drawn oc_law_row_by kV_law_row_by dc_law_row_by pm_law_row_by ct_law_row_by oc_law_way_by kV_law_way_by dc_law_way_by pm_law_way_by ct_law_way_by oc_law_far kV_law_far dc_law_far pm_law_far ct_law_far oc_law_loop_by kV_law_loop_by dc_law_loop_by pm_law_loop_by ct_law_loop_by oc_law_name_of kV_law_name_of dc_law_name_of pm_law_name_of ct_law_name_of oc_law_copied kV_law_copied dc_law_copied pm_law_copied ct_law_copied oc_law_asked kV_law_asked dc_law_asked pm_law_asked ct_law_asked oc_law_word kV_law_word dc_law_word pm_law_word ct_law_word oc_law_put kV_law_put dc_law_put pm_law_put ct_law_put oc_law_row_bent kV_law_row_bent dc_law_row_bent pm_law_row_bent ct_law_row_bent oc_law_bent kV_law_bent dc_law_bent pm_law_bent ct_law_bent oc_law_is_row kV_law_is_row dc_law_is_row pm_law_is_row ct_law_is_row oc_law_is_loop kV_law_is_loop dc_law_is_loop pm_law_is_loop ct_law_is_loop oc_law kV_law dc_law pm_law ct_law : Value}
    {e_are_wholes e_is_row e_are_rows e_is_loop e_are_spots : Value} {dd_are_wholes dd_is_row dd_are_rows dd_is_loop dd_are_spots : Option Addr} {vs_are_wholes vs_is_row vs_are_rows vs_is_loop vs_are_spots : Array Value} {sm_are_wholes sm_is_row sm_are_rows sm_is_loop sm_are_spots : Array (Option Value)}
    {t_FARTHEST t_MOST_ASKS t_MOST_NAMES t_MOST_WAYS : Tok}
    (a_is_whole : PySem.W.nsIn K mainGlobals "is_whole" = some (some (.ref f_is_whole)))
    (l_is_whole : K.lookup f_is_whole = some ⟨oc_is_whole, od_is_whole, .func (PySem.W.fnOf "is_whole" "is_whole" (defArgs s_is_whole) (defBody s_is_whole) (defScope s_is_whole) .none kV_is_whole dc_is_whole pm_is_whole an_is_whole (.ref c_is_whole) ct_is_whole), sl_is_whole⟩)
    (q_is_whole : PySem.W.codeIn K (.ref c_is_whole) "is_whole" = true)
    (k_is_whole : PySem.W.keepIn K (.ref f_is_whole) = true)
    (a_is_whole_within : PySem.W.nsIn K mainGlobals "is_whole_within" = some (some (.ref f_is_whole_within)))
    (l_is_whole_within : K.lookup f_is_whole_within = some ⟨oc_is_whole_within, od_is_whole_within, .func (PySem.W.fnOf "is_whole_within" "is_whole_within" (defArgs s_is_whole_within) (defBody s_is_whole_within) (defScope s_is_whole_within) .none kV_is_whole_within dc_is_whole_within pm_is_whole_within an_is_whole_within (.ref c_is_whole_within) ct_is_whole_within), sl_is_whole_within⟩)
    (q_is_whole_within : PySem.W.codeIn K (.ref c_is_whole_within) "is_whole_within" = true)
    (k_is_whole_within : PySem.W.keepIn K (.ref f_is_whole_within) = true)
    (a_is_list_of : PySem.W.nsIn K mainGlobals "is_list_of" = some (some (.ref f_is_list_of)))
    (l_is_list_of : K.lookup f_is_list_of = some ⟨oc_is_list_of, od_is_list_of, .func (PySem.W.fnOf "is_list_of" "is_list_of" (defArgs s_is_list_of) (defBody s_is_list_of) (defScope s_is_list_of) .none kV_is_list_of dc_is_list_of pm_is_list_of an_is_list_of (.ref c_is_list_of) ct_is_list_of), sl_is_list_of⟩)
    (q_is_list_of : PySem.W.codeIn K (.ref c_is_list_of) "is_list_of" = true)
    (k_is_list_of : PySem.W.keepIn K (.ref f_is_list_of) = true)
    (a_are_wholes : PySem.W.nsIn K mainGlobals "are_wholes" = some (some (.ref f_are_wholes)))
    (l_are_wholes : K.lookup f_are_wholes = some ⟨oc_are_wholes, od_are_wholes, .func (PySem.W.fnOf "are_wholes" "are_wholes" (defArgs s_are_wholes) (defBody s_are_wholes) (defScope s_are_wholes) .none kV_are_wholes dc_are_wholes pm_are_wholes an_are_wholes (.ref c_are_wholes) ct_are_wholes), sl_are_wholes⟩)
    (q_are_wholes : PySem.W.codeIn K (.ref c_are_wholes) "are_wholes" = true)
    (k_are_wholes : PySem.W.keepIn K (.ref f_are_wholes) = true)
    (a_is_pair : PySem.W.nsIn K mainGlobals "is_pair" = some (some (.ref f_is_pair)))
    (l_is_pair : K.lookup f_is_pair = some ⟨oc_is_pair, od_is_pair, .func (PySem.W.fnOf "is_pair" "is_pair" (defArgs s_is_pair) (defBody s_is_pair) (defScope s_is_pair) .none kV_is_pair dc_is_pair pm_is_pair an_is_pair (.ref c_is_pair) ct_is_pair), sl_is_pair⟩)
    (q_is_pair : PySem.W.codeIn K (.ref c_is_pair) "is_pair" = true)
    (k_is_pair : PySem.W.keepIn K (.ref f_is_pair) = true)
    (a_is_row : PySem.W.nsIn K mainGlobals "is_row" = some (some (.ref f_is_row)))
    (l_is_row : K.lookup f_is_row = some ⟨oc_is_row, od_is_row, .func (PySem.W.fnOf "is_row" "is_row" (defArgs s_is_row) (defBody s_is_row) (defScope s_is_row) .none kV_is_row dc_is_row pm_is_row an_is_row (.ref c_is_row) ct_is_row), sl_is_row⟩)
    (q_is_row : PySem.W.codeIn K (.ref c_is_row) "is_row" = true)
    (k_is_row : PySem.W.keepIn K (.ref f_is_row) = true)
    (a_are_rows : PySem.W.nsIn K mainGlobals "are_rows" = some (some (.ref f_are_rows)))
    (l_are_rows : K.lookup f_are_rows = some ⟨oc_are_rows, od_are_rows, .func (PySem.W.fnOf "are_rows" "are_rows" (defArgs s_are_rows) (defBody s_are_rows) (defScope s_are_rows) .none kV_are_rows dc_are_rows pm_are_rows an_are_rows (.ref c_are_rows) ct_are_rows), sl_are_rows⟩)
    (q_are_rows : PySem.W.codeIn K (.ref c_are_rows) "are_rows" = true)
    (k_are_rows : PySem.W.keepIn K (.ref f_are_rows) = true)
    (a_is_way : PySem.W.nsIn K mainGlobals "is_way" = some (some (.ref f_is_way)))
    (l_is_way : K.lookup f_is_way = some ⟨oc_is_way, od_is_way, .func (PySem.W.fnOf "is_way" "is_way" (defArgs s_is_way) (defBody s_is_way) (defScope s_is_way) .none kV_is_way dc_is_way pm_is_way an_is_way (.ref c_is_way) ct_is_way), sl_is_way⟩)
    (q_is_way : PySem.W.codeIn K (.ref c_is_way) "is_way" = true)
    (k_is_way : PySem.W.keepIn K (.ref f_is_way) = true)
    (a_is_loop : PySem.W.nsIn K mainGlobals "is_loop" = some (some (.ref f_is_loop)))
    (l_is_loop : K.lookup f_is_loop = some ⟨oc_is_loop, od_is_loop, .func (PySem.W.fnOf "is_loop" "is_loop" (defArgs s_is_loop) (defBody s_is_loop) (defScope s_is_loop) .none kV_is_loop dc_is_loop pm_is_loop an_is_loop (.ref c_is_loop) ct_is_loop), sl_is_loop⟩)
    (q_is_loop : PySem.W.codeIn K (.ref c_is_loop) "is_loop" = true)
    (k_is_loop : PySem.W.keepIn K (.ref f_is_loop) = true)
    (a_need_loop : PySem.W.nsIn K mainGlobals "need_loop" = some (some (.ref f_need_loop)))
    (l_need_loop : K.lookup f_need_loop = some ⟨oc_need_loop, od_need_loop, .func (PySem.W.fnOf "need_loop" "need_loop" (defArgs s_need_loop) (defBody s_need_loop) (defScope s_need_loop) .none kV_need_loop dc_need_loop pm_need_loop an_need_loop (.ref c_need_loop) ct_need_loop), sl_need_loop⟩)
    (q_need_loop : PySem.W.codeIn K (.ref c_need_loop) "need_loop" = true)
    (k_need_loop : PySem.W.keepIn K (.ref f_need_loop) = true)
    (a_after : PySem.W.nsIn K mainGlobals "after" = some (some (.ref f_after)))
    (l_after : K.lookup f_after = some ⟨oc_after, od_after, .func (PySem.W.fnOf "after" "after" (defArgs s_after) (defBody s_after) (defScope s_after) .none kV_after dc_after pm_after an_after (.ref c_after) ct_after), sl_after⟩)
    (q_after : PySem.W.codeIn K (.ref c_after) "after" = true)
    (k_after : PySem.W.keepIn K (.ref f_after) = true)
    (a_run : PySem.W.nsIn K mainGlobals "run" = some (some (.ref f_run)))
    (l_run : K.lookup f_run = some ⟨oc_run, od_run, .func (PySem.W.fnOf "run" "run" (defArgs s_run) (defBody s_run) (defScope s_run) .none kV_run dc_run pm_run an_run (.ref c_run) ct_run), sl_run⟩)
    (q_run : PySem.W.codeIn K (.ref c_run) "run" = true)
    (k_run : PySem.W.keepIn K (.ref f_run) = true)
    (a_told : PySem.W.nsIn K mainGlobals "told" = some (some (.ref f_told)))
    (l_told : K.lookup f_told = some ⟨oc_told, od_told, .func (PySem.W.fnOf "told" "told" (defArgs s_told) (defBody s_told) (defScope s_told) .none kV_told dc_told pm_told an_told (.ref c_told) ct_told), sl_told⟩)
    (q_told : PySem.W.codeIn K (.ref c_told) "told" = true)
    (k_told : PySem.W.keepIn K (.ref f_told) = true)
    (a_is_reason : PySem.W.nsIn K mainGlobals "is_reason" = some (some (.ref f_is_reason)))
    (l_is_reason : K.lookup f_is_reason = some ⟨oc_is_reason, od_is_reason, .func (PySem.W.fnOf "is_reason" "is_reason" (defArgs s_is_reason) (defBody s_is_reason) (defScope s_is_reason) .none kV_is_reason dc_is_reason pm_is_reason an_is_reason (.ref c_is_reason) ct_is_reason), sl_is_reason⟩)
    (q_is_reason : PySem.W.codeIn K (.ref c_is_reason) "is_reason" = true)
    (k_is_reason : PySem.W.keepIn K (.ref f_is_reason) = true)
    (a_are_spots : PySem.W.nsIn K mainGlobals "are_spots" = some (some (.ref f_are_spots)))
    (l_are_spots : K.lookup f_are_spots = some ⟨oc_are_spots, od_are_spots, .func (PySem.W.fnOf "are_spots" "are_spots" (defArgs s_are_spots) (defBody s_are_spots) (defScope s_are_spots) .none kV_are_spots dc_are_spots pm_are_spots an_are_spots (.ref c_are_spots) ct_are_spots), sl_are_spots⟩)
    (q_are_spots : PySem.W.codeIn K (.ref c_are_spots) "are_spots" = true)
    (k_are_spots : PySem.W.keepIn K (.ref f_are_spots) = true)
    (a_most_turns : PySem.W.nsIn K mainGlobals "most_turns" = some (some (.ref f_most_turns)))
    (l_most_turns : K.lookup f_most_turns = some ⟨oc_most_turns, od_most_turns, .func (PySem.W.fnOf "most_turns" "most_turns" (defArgs s_most_turns) (defBody s_most_turns) (defScope s_most_turns) .none kV_most_turns dc_most_turns pm_most_turns an_most_turns (.ref c_most_turns) ct_most_turns), sl_most_turns⟩)
    (q_most_turns : PySem.W.codeIn K (.ref c_most_turns) "most_turns" = true)
    (k_most_turns : PySem.W.keepIn K (.ref f_most_turns) = true)
    (a_row_line : PySem.W.nsIn K mainGlobals "row_line" = some (some (.ref f_row_line)))
    (l_row_line : K.lookup f_row_line = some ⟨oc_row_line, od_row_line, .func (PySem.W.fnOf "row_line" "row_line" (defArgs s_row_line) (defBody s_row_line) (defScope s_row_line) .none kV_row_line dc_row_line pm_row_line an_row_line (.ref c_row_line) ct_row_line), sl_row_line⟩)
    (q_row_line : PySem.W.codeIn K (.ref c_row_line) "row_line" = true)
    (k_row_line : PySem.W.keepIn K (.ref f_row_line) = true)
    (a_way_lines : PySem.W.nsIn K mainGlobals "way_lines" = some (some (.ref f_way_lines)))
    (l_way_lines : K.lookup f_way_lines = some ⟨oc_way_lines, od_way_lines, .func (PySem.W.fnOf "way_lines" "way_lines" (defArgs s_way_lines) (defBody s_way_lines) (defScope s_way_lines) .none kV_way_lines dc_way_lines pm_way_lines an_way_lines (.ref c_way_lines) ct_way_lines), sl_way_lines⟩)
    (q_way_lines : PySem.W.codeIn K (.ref c_way_lines) "way_lines" = true)
    (k_way_lines : PySem.W.keepIn K (.ref f_way_lines) = true)
    (a_written : PySem.W.nsIn K mainGlobals "written" = some (some (.ref f_written)))
    (l_written : K.lookup f_written = some ⟨oc_written, od_written, .func (PySem.W.fnOf "written" "written" (defArgs s_written) (defBody s_written) (defScope s_written) .none kV_written dc_written pm_written an_written (.ref c_written) ct_written), sl_written⟩)
    (q_written : PySem.W.codeIn K (.ref c_written) "written" = true)
    (k_written : PySem.W.keepIn K (.ref f_written) = true)
    (a_law_cell_at : PySem.W.nsIn K mainGlobals "_law_cell_at" = some (some (.ref f_law_cell_at)))
    (l_law_cell_at : K.lookup f_law_cell_at = some ⟨oc_law_cell_at, od_law_cell_at, .func (PySem.W.fnOf "_law_cell_at" "_law_cell_at" (defArgs s_law_cell_at) (defBody s_law_cell_at) (defScope s_law_cell_at) .none kV_law_cell_at dc_law_cell_at pm_law_cell_at an_law_cell_at (.ref c_law_cell_at) ct_law_cell_at), sl_law_cell_at⟩)
    (q_law_cell_at : PySem.W.codeIn K (.ref c_law_cell_at) "_law_cell_at" = true)
    (k_law_cell_at : PySem.W.keepIn K (.ref f_law_cell_at) = true)
    (a_law_drawn : PySem.W.nsIn K mainGlobals "_law_drawn" = some (some (.ref f_law_drawn)))
    (l_law_drawn : K.lookup f_law_drawn = some ⟨oc_law_drawn, od_law_drawn, .func (PySem.W.fnOf "_law_drawn" "_law_drawn" (defArgs s_law_drawn) (defBody s_law_drawn) (defScope s_law_drawn) .none kV_law_drawn dc_law_drawn pm_law_drawn an_law_drawn (.ref c_law_drawn) ct_law_drawn), sl_law_drawn⟩)
    (q_law_drawn : PySem.W.codeIn K (.ref c_law_drawn) "_law_drawn" = true)
    (k_law_drawn : PySem.W.keepIn K (.ref f_law_drawn) = true)
    (a_law_row_by : PySem.W.nsIn K mainGlobals "_law_row_by" = some (some (.ref f_law_row_by)))
    (l_law_row_by : K.lookup f_law_row_by = some ⟨oc_law_row_by, od_law_row_by, .func (PySem.W.fnOf "_law_row_by" "_law_row_by" (defArgs s_law_row_by) (defBody s_law_row_by) (defScope s_law_row_by) .none kV_law_row_by dc_law_row_by pm_law_row_by an_law_row_by (.ref c_law_row_by) ct_law_row_by), sl_law_row_by⟩)
    (q_law_row_by : PySem.W.codeIn K (.ref c_law_row_by) "_law_row_by" = true)
    (k_law_row_by : PySem.W.keepIn K (.ref f_law_row_by) = true)
    (a_law_way_by : PySem.W.nsIn K mainGlobals "_law_way_by" = some (some (.ref f_law_way_by)))
    (l_law_way_by : K.lookup f_law_way_by = some ⟨oc_law_way_by, od_law_way_by, .func (PySem.W.fnOf "_law_way_by" "_law_way_by" (defArgs s_law_way_by) (defBody s_law_way_by) (defScope s_law_way_by) .none kV_law_way_by dc_law_way_by pm_law_way_by an_law_way_by (.ref c_law_way_by) ct_law_way_by), sl_law_way_by⟩)
    (q_law_way_by : PySem.W.codeIn K (.ref c_law_way_by) "_law_way_by" = true)
    (k_law_way_by : PySem.W.keepIn K (.ref f_law_way_by) = true)
    (a_law_far : PySem.W.nsIn K mainGlobals "_law_far" = some (some (.ref f_law_far)))
    (l_law_far : K.lookup f_law_far = some ⟨oc_law_far, od_law_far, .func (PySem.W.fnOf "_law_far" "_law_far" (defArgs s_law_far) (defBody s_law_far) (defScope s_law_far) .none kV_law_far dc_law_far pm_law_far an_law_far (.ref c_law_far) ct_law_far), sl_law_far⟩)
    (q_law_far : PySem.W.codeIn K (.ref c_law_far) "_law_far" = true)
    (k_law_far : PySem.W.keepIn K (.ref f_law_far) = true)
    (a_law_loop_by : PySem.W.nsIn K mainGlobals "_law_loop_by" = some (some (.ref f_law_loop_by)))
    (l_law_loop_by : K.lookup f_law_loop_by = some ⟨oc_law_loop_by, od_law_loop_by, .func (PySem.W.fnOf "_law_loop_by" "_law_loop_by" (defArgs s_law_loop_by) (defBody s_law_loop_by) (defScope s_law_loop_by) .none kV_law_loop_by dc_law_loop_by pm_law_loop_by an_law_loop_by (.ref c_law_loop_by) ct_law_loop_by), sl_law_loop_by⟩)
    (q_law_loop_by : PySem.W.codeIn K (.ref c_law_loop_by) "_law_loop_by" = true)
    (k_law_loop_by : PySem.W.keepIn K (.ref f_law_loop_by) = true)
    (a_law_name_of : PySem.W.nsIn K mainGlobals "_law_name_of" = some (some (.ref f_law_name_of)))
    (l_law_name_of : K.lookup f_law_name_of = some ⟨oc_law_name_of, od_law_name_of, .func (PySem.W.fnOf "_law_name_of" "_law_name_of" (defArgs s_law_name_of) (defBody s_law_name_of) (defScope s_law_name_of) .none kV_law_name_of dc_law_name_of pm_law_name_of an_law_name_of (.ref c_law_name_of) ct_law_name_of), sl_law_name_of⟩)
    (q_law_name_of : PySem.W.codeIn K (.ref c_law_name_of) "_law_name_of" = true)
    (k_law_name_of : PySem.W.keepIn K (.ref f_law_name_of) = true)
    (a_law_copied : PySem.W.nsIn K mainGlobals "_law_copied" = some (some (.ref f_law_copied)))
    (l_law_copied : K.lookup f_law_copied = some ⟨oc_law_copied, od_law_copied, .func (PySem.W.fnOf "_law_copied" "_law_copied" (defArgs s_law_copied) (defBody s_law_copied) (defScope s_law_copied) .none kV_law_copied dc_law_copied pm_law_copied an_law_copied (.ref c_law_copied) ct_law_copied), sl_law_copied⟩)
    (q_law_copied : PySem.W.codeIn K (.ref c_law_copied) "_law_copied" = true)
    (k_law_copied : PySem.W.keepIn K (.ref f_law_copied) = true)
    (a_law_asked : PySem.W.nsIn K mainGlobals "_law_asked" = some (some (.ref f_law_asked)))
    (l_law_asked : K.lookup f_law_asked = some ⟨oc_law_asked, od_law_asked, .func (PySem.W.fnOf "_law_asked" "_law_asked" (defArgs s_law_asked) (defBody s_law_asked) (defScope s_law_asked) .none kV_law_asked dc_law_asked pm_law_asked an_law_asked (.ref c_law_asked) ct_law_asked), sl_law_asked⟩)
    (q_law_asked : PySem.W.codeIn K (.ref c_law_asked) "_law_asked" = true)
    (k_law_asked : PySem.W.keepIn K (.ref f_law_asked) = true)
    (a_law_word : PySem.W.nsIn K mainGlobals "_law_word" = some (some (.ref f_law_word)))
    (l_law_word : K.lookup f_law_word = some ⟨oc_law_word, od_law_word, .func (PySem.W.fnOf "_law_word" "_law_word" (defArgs s_law_word) (defBody s_law_word) (defScope s_law_word) .none kV_law_word dc_law_word pm_law_word an_law_word (.ref c_law_word) ct_law_word), sl_law_word⟩)
    (q_law_word : PySem.W.codeIn K (.ref c_law_word) "_law_word" = true)
    (k_law_word : PySem.W.keepIn K (.ref f_law_word) = true)
    (a_law_put : PySem.W.nsIn K mainGlobals "_law_put" = some (some (.ref f_law_put)))
    (l_law_put : K.lookup f_law_put = some ⟨oc_law_put, od_law_put, .func (PySem.W.fnOf "_law_put" "_law_put" (defArgs s_law_put) (defBody s_law_put) (defScope s_law_put) .none kV_law_put dc_law_put pm_law_put an_law_put (.ref c_law_put) ct_law_put), sl_law_put⟩)
    (q_law_put : PySem.W.codeIn K (.ref c_law_put) "_law_put" = true)
    (k_law_put : PySem.W.keepIn K (.ref f_law_put) = true)
    (a_law_row_bent : PySem.W.nsIn K mainGlobals "_law_row_bent" = some (some (.ref f_law_row_bent)))
    (l_law_row_bent : K.lookup f_law_row_bent = some ⟨oc_law_row_bent, od_law_row_bent, .func (PySem.W.fnOf "_law_row_bent" "_law_row_bent" (defArgs s_law_row_bent) (defBody s_law_row_bent) (defScope s_law_row_bent) .none kV_law_row_bent dc_law_row_bent pm_law_row_bent an_law_row_bent (.ref c_law_row_bent) ct_law_row_bent), sl_law_row_bent⟩)
    (q_law_row_bent : PySem.W.codeIn K (.ref c_law_row_bent) "_law_row_bent" = true)
    (k_law_row_bent : PySem.W.keepIn K (.ref f_law_row_bent) = true)
    (a_law_bent : PySem.W.nsIn K mainGlobals "_law_bent" = some (some (.ref f_law_bent)))
    (l_law_bent : K.lookup f_law_bent = some ⟨oc_law_bent, od_law_bent, .func (PySem.W.fnOf "_law_bent" "_law_bent" (defArgs s_law_bent) (defBody s_law_bent) (defScope s_law_bent) .none kV_law_bent dc_law_bent pm_law_bent an_law_bent (.ref c_law_bent) ct_law_bent), sl_law_bent⟩)
    (q_law_bent : PySem.W.codeIn K (.ref c_law_bent) "_law_bent" = true)
    (k_law_bent : PySem.W.keepIn K (.ref f_law_bent) = true)
    (a_law_is_row : PySem.W.nsIn K mainGlobals "_law_is_row" = some (some (.ref f_law_is_row)))
    (l_law_is_row : K.lookup f_law_is_row = some ⟨oc_law_is_row, od_law_is_row, .func (PySem.W.fnOf "_law_is_row" "_law_is_row" (defArgs s_law_is_row) (defBody s_law_is_row) (defScope s_law_is_row) .none kV_law_is_row dc_law_is_row pm_law_is_row an_law_is_row (.ref c_law_is_row) ct_law_is_row), sl_law_is_row⟩)
    (q_law_is_row : PySem.W.codeIn K (.ref c_law_is_row) "_law_is_row" = true)
    (k_law_is_row : PySem.W.keepIn K (.ref f_law_is_row) = true)
    (a_law_is_loop : PySem.W.nsIn K mainGlobals "_law_is_loop" = some (some (.ref f_law_is_loop)))
    (l_law_is_loop : K.lookup f_law_is_loop = some ⟨oc_law_is_loop, od_law_is_loop, .func (PySem.W.fnOf "_law_is_loop" "_law_is_loop" (defArgs s_law_is_loop) (defBody s_law_is_loop) (defScope s_law_is_loop) .none kV_law_is_loop dc_law_is_loop pm_law_is_loop an_law_is_loop (.ref c_law_is_loop) ct_law_is_loop), sl_law_is_loop⟩)
    (q_law_is_loop : PySem.W.codeIn K (.ref c_law_is_loop) "_law_is_loop" = true)
    (k_law_is_loop : PySem.W.keepIn K (.ref f_law_is_loop) = true)
    (a_law : PySem.W.nsIn K mainGlobals "law" = some (some (.ref f_law)))
    (l_law : K.lookup f_law = some ⟨oc_law, od_law, .func (PySem.W.fnOf "law" "law" (defArgs s_law) (defBody s_law) (defScope s_law) .none kV_law dc_law pm_law an_law (.ref c_law) ct_law), sl_law⟩)
    (q_law : PySem.W.codeIn K (.ref c_law) "law" = true)
    (k_law : PySem.W.keepIn K (.ref f_law) = true)
    (m_lk_are_wholes : K.lookup c_are_wholes = some ⟨e_are_wholes, dd_are_wholes, .fields vs_are_wholes, sm_are_wholes⟩)
    (m_at_are_wholes : vs_are_wholes[11]? = some (.ref p_are_wholes))
    (m_hd_are_wholes : PySem.W.codeHdIn K c_are_wholes p_are_wholes = true)
    (m_no_are_wholes : K.lookup p_are_wholes = none)
    (m_lk_is_row : K.lookup c_is_row = some ⟨e_is_row, dd_is_row, .fields vs_is_row, sm_is_row⟩)
    (m_at_is_row : vs_is_row[11]? = some (.ref p_is_row))
    (m_hd_is_row : PySem.W.codeHdIn K c_is_row p_is_row = true)
    (m_no_is_row : K.lookup p_is_row = none)
    (m_lk_are_rows : K.lookup c_are_rows = some ⟨e_are_rows, dd_are_rows, .fields vs_are_rows, sm_are_rows⟩)
    (m_at_are_rows : vs_are_rows[11]? = some (.ref p_are_rows))
    (m_hd_are_rows : PySem.W.codeHdIn K c_are_rows p_are_rows = true)
    (m_no_are_rows : K.lookup p_are_rows = none)
    (m_lk_is_loop : K.lookup c_is_loop = some ⟨e_is_loop, dd_is_loop, .fields vs_is_loop, sm_is_loop⟩)
    (m_at_is_loop : vs_is_loop[11]? = some (.ref p_is_loop))
    (m_hd_is_loop : PySem.W.codeHdIn K c_is_loop p_is_loop = true)
    (m_no_is_loop : K.lookup p_is_loop = none)
    (m_lk_are_spots : K.lookup c_are_spots = some ⟨e_are_spots, dd_are_spots, .fields vs_are_spots, sm_are_spots⟩)
    (m_at_are_spots : vs_are_spots[11]? = some (.ref p_are_spots))
    (m_hd_are_spots : PySem.W.codeHdIn K c_are_spots p_are_spots = true)
    (m_no_are_spots : K.lookup p_are_spots = none)
    (kc_FARTHEST : PySem.W.nsIn K mainGlobals "FARTHEST" = some (some (.int 1000 t_FARTHEST)))
    (kc_MOST_ASKS : PySem.W.nsIn K mainGlobals "MOST_ASKS" = some (some (.int 4 t_MOST_ASKS)))
    (kc_MOST_NAMES : PySem.W.nsIn K mainGlobals "MOST_NAMES" = some (some (.int 3 t_MOST_NAMES)))
    (kc_MOST_WAYS : PySem.W.nsIn K mainGlobals "MOST_WAYS" = some (some (.int 3 t_MOST_WAYS)))
    (z_ValueError : PySem.W.nsIn K mainGlobals "ValueError" = some none)
    (z_all : PySem.W.nsIn K mainGlobals "all" = some none)
    (z_bool : PySem.W.nsIn K mainGlobals "bool" = some none)
    (z_int : PySem.W.nsIn K mainGlobals "int" = some none)
    (z_isinstance : PySem.W.nsIn K mainGlobals "isinstance" = some none)
    (z_len : PySem.W.nsIn K mainGlobals "len" = some none)
    (z_list : PySem.W.nsIn K mainGlobals "list" = some none)
    (z_max : PySem.W.nsIn K mainGlobals "max" = some none)
    (z_min : PySem.W.nsIn K mainGlobals "min" = some none)
    (z_range : PySem.W.nsIn K mainGlobals "range" = some none)
    (z_str : PySem.W.nsIn K mainGlobals "str" = some none)
    (z_tuple : PySem.W.nsIn K mainGlobals "tuple" = some none)
    (z_type : PySem.W.nsIn K mainGlobals "type" = some none)
    (g_LoopError : PySem.W.nsIn K mainGlobals "LoopError" = some (some (.ref x_LoopError)))
    (g_BadLoop : PySem.W.nsIn K mainGlobals "BadLoop" = some (some (.ref x_BadLoop)))
    (g_BadState : PySem.W.nsIn K mainGlobals "BadState" = some (some (.ref x_BadState)))
    (g_BadCount : PySem.W.nsIn K mainGlobals "BadCount" = some (some (.ref x_BadCount)))
    (g_BadGauge : PySem.W.nsIn K mainGlobals "BadGauge" = some (some (.ref x_BadGauge)))
    (g_BadTable : PySem.W.nsIn K mainGlobals "BadTable" = some (some (.ref x_BadTable)))
    (g_BadText : PySem.W.nsIn K mainGlobals "BadText" = some (some (.ref x_BadText)))
    (xi_BadLoop : PySem.W.excIn K x_BadLoop [.type "ValueError", .type "Exception", .type "BaseException", .type "object"] "ValueError.__new__" = true)
    (xk_BadLoop : PySem.W.keepIn K (.ref x_BadLoop) = true)
    (xs_BadLoop : PySem.W.subIn K (.ref x_BadLoop) (.type "BaseException") = some true)
    (xt_BadLoop : PySem.W.typeIn K (.ref x_BadLoop) = some (.type "type"))
    (e1_BadLoop : PySem.W.findIn K (.ref x_BadLoop) "__getattribute__" = some (some (.builtin "BaseException.__getattribute__")))
    (e2_BadLoop : PySem.W.findIn K (.ref x_BadLoop) "__getattr__" = some none)
    (e3_BadLoop : PySem.W.hasDictIn K x_BadLoop = true)
    (e4_BadLoop : PySem.W.findIn K (.ref x_BadLoop) "__class__" = some (some (.builtin "object.__class__")))
    (e5_BadLoop : PySem.W.mroIn K x_BadLoop (.type "object") = some true)
    (em_BadLoop : PySem.W.exmOne K (.ref x_BadLoop) (.ref x_LoopError) = some true)
    (kt_BadLoop_BadLoop : PySem.W.kitOne K (.ref x_BadLoop) (.ref x_BadLoop) = some true)
    (kt_BadLoop_BadState : PySem.W.kitOne K (.ref x_BadLoop) (.ref x_BadState) = some false)
    (kt_BadLoop_BadCount : PySem.W.kitOne K (.ref x_BadLoop) (.ref x_BadCount) = some false)
    (kt_BadLoop_BadGauge : PySem.W.kitOne K (.ref x_BadLoop) (.ref x_BadGauge) = some false)
    (kt_BadLoop_BadTable : PySem.W.kitOne K (.ref x_BadLoop) (.ref x_BadTable) = some false)
    (kt_BadLoop_BadText : PySem.W.kitOne K (.ref x_BadLoop) (.ref x_BadText) = some false)
    (kv_BadLoop : PySem.W.kitOne K (.ref x_BadLoop) (.type "ValueError") = some true)
    (eg : PySem.W.specialIn K (.builtin "object.__class__") "__get__" = some (some (.builtin "getset_descriptor.__get__")))
    (et : PySem.W.takesIn K (.builtin "object.__class__") = some true)
    : LamX.LawAtS l w K CX0 14 63 "_law_script" mg fa h := by
  have e : f_law = fa := Value.ref.inj (Option.some.inj ((PySem.W.mg_of X G a_law).symm.trans hfa))
  subst e
  let A : Ad := {
    f_is_whole := f_is_whole, c_is_whole := c_is_whole, fd_is_whole := PySem.W.fnOf "is_whole" "is_whole" (defArgs s_is_whole) (defBody s_is_whole) (defScope s_is_whole) .none kV_is_whole dc_is_whole pm_is_whole an_is_whole (.ref c_is_whole) ct_is_whole,
    f_is_whole_within := f_is_whole_within, c_is_whole_within := c_is_whole_within, fd_is_whole_within := PySem.W.fnOf "is_whole_within" "is_whole_within" (defArgs s_is_whole_within) (defBody s_is_whole_within) (defScope s_is_whole_within) .none kV_is_whole_within dc_is_whole_within pm_is_whole_within an_is_whole_within (.ref c_is_whole_within) ct_is_whole_within,
    f_is_list_of := f_is_list_of, c_is_list_of := c_is_list_of, fd_is_list_of := PySem.W.fnOf "is_list_of" "is_list_of" (defArgs s_is_list_of) (defBody s_is_list_of) (defScope s_is_list_of) .none kV_is_list_of dc_is_list_of pm_is_list_of an_is_list_of (.ref c_is_list_of) ct_is_list_of,
    f_are_wholes := f_are_wholes, c_are_wholes := c_are_wholes, fd_are_wholes := PySem.W.fnOf "are_wholes" "are_wholes" (defArgs s_are_wholes) (defBody s_are_wholes) (defScope s_are_wholes) .none kV_are_wholes dc_are_wholes pm_are_wholes an_are_wholes (.ref c_are_wholes) ct_are_wholes,
    f_is_pair := f_is_pair, c_is_pair := c_is_pair, fd_is_pair := PySem.W.fnOf "is_pair" "is_pair" (defArgs s_is_pair) (defBody s_is_pair) (defScope s_is_pair) .none kV_is_pair dc_is_pair pm_is_pair an_is_pair (.ref c_is_pair) ct_is_pair,
    f_is_row := f_is_row, c_is_row := c_is_row, fd_is_row := PySem.W.fnOf "is_row" "is_row" (defArgs s_is_row) (defBody s_is_row) (defScope s_is_row) .none kV_is_row dc_is_row pm_is_row an_is_row (.ref c_is_row) ct_is_row,
    f_are_rows := f_are_rows, c_are_rows := c_are_rows, fd_are_rows := PySem.W.fnOf "are_rows" "are_rows" (defArgs s_are_rows) (defBody s_are_rows) (defScope s_are_rows) .none kV_are_rows dc_are_rows pm_are_rows an_are_rows (.ref c_are_rows) ct_are_rows,
    f_is_way := f_is_way, c_is_way := c_is_way, fd_is_way := PySem.W.fnOf "is_way" "is_way" (defArgs s_is_way) (defBody s_is_way) (defScope s_is_way) .none kV_is_way dc_is_way pm_is_way an_is_way (.ref c_is_way) ct_is_way,
    f_is_loop := f_is_loop, c_is_loop := c_is_loop, fd_is_loop := PySem.W.fnOf "is_loop" "is_loop" (defArgs s_is_loop) (defBody s_is_loop) (defScope s_is_loop) .none kV_is_loop dc_is_loop pm_is_loop an_is_loop (.ref c_is_loop) ct_is_loop,
    f_need_loop := f_need_loop, c_need_loop := c_need_loop, fd_need_loop := PySem.W.fnOf "need_loop" "need_loop" (defArgs s_need_loop) (defBody s_need_loop) (defScope s_need_loop) .none kV_need_loop dc_need_loop pm_need_loop an_need_loop (.ref c_need_loop) ct_need_loop,
    f_after := f_after, c_after := c_after, fd_after := PySem.W.fnOf "after" "after" (defArgs s_after) (defBody s_after) (defScope s_after) .none kV_after dc_after pm_after an_after (.ref c_after) ct_after,
    f_run := f_run, c_run := c_run, fd_run := PySem.W.fnOf "run" "run" (defArgs s_run) (defBody s_run) (defScope s_run) .none kV_run dc_run pm_run an_run (.ref c_run) ct_run,
    f_told := f_told, c_told := c_told, fd_told := PySem.W.fnOf "told" "told" (defArgs s_told) (defBody s_told) (defScope s_told) .none kV_told dc_told pm_told an_told (.ref c_told) ct_told,
    f_is_reason := f_is_reason, c_is_reason := c_is_reason, fd_is_reason := PySem.W.fnOf "is_reason" "is_reason" (defArgs s_is_reason) (defBody s_is_reason) (defScope s_is_reason) .none kV_is_reason dc_is_reason pm_is_reason an_is_reason (.ref c_is_reason) ct_is_reason,
    f_are_spots := f_are_spots, c_are_spots := c_are_spots, fd_are_spots := PySem.W.fnOf "are_spots" "are_spots" (defArgs s_are_spots) (defBody s_are_spots) (defScope s_are_spots) .none kV_are_spots dc_are_spots pm_are_spots an_are_spots (.ref c_are_spots) ct_are_spots,
    f_most_turns := f_most_turns, c_most_turns := c_most_turns, fd_most_turns := PySem.W.fnOf "most_turns" "most_turns" (defArgs s_most_turns) (defBody s_most_turns) (defScope s_most_turns) .none kV_most_turns dc_most_turns pm_most_turns an_most_turns (.ref c_most_turns) ct_most_turns,
    f_row_line := f_row_line, c_row_line := c_row_line, fd_row_line := PySem.W.fnOf "row_line" "row_line" (defArgs s_row_line) (defBody s_row_line) (defScope s_row_line) .none kV_row_line dc_row_line pm_row_line an_row_line (.ref c_row_line) ct_row_line,
    f_way_lines := f_way_lines, c_way_lines := c_way_lines, fd_way_lines := PySem.W.fnOf "way_lines" "way_lines" (defArgs s_way_lines) (defBody s_way_lines) (defScope s_way_lines) .none kV_way_lines dc_way_lines pm_way_lines an_way_lines (.ref c_way_lines) ct_way_lines,
    f_written := f_written, c_written := c_written, fd_written := PySem.W.fnOf "written" "written" (defArgs s_written) (defBody s_written) (defScope s_written) .none kV_written dc_written pm_written an_written (.ref c_written) ct_written,
    f_law_cell_at := f_law_cell_at, c_law_cell_at := c_law_cell_at, fd_law_cell_at := PySem.W.fnOf "_law_cell_at" "_law_cell_at" (defArgs s_law_cell_at) (defBody s_law_cell_at) (defScope s_law_cell_at) .none kV_law_cell_at dc_law_cell_at pm_law_cell_at an_law_cell_at (.ref c_law_cell_at) ct_law_cell_at,
    f_law_drawn := f_law_drawn, c_law_drawn := c_law_drawn, fd_law_drawn := PySem.W.fnOf "_law_drawn" "_law_drawn" (defArgs s_law_drawn) (defBody s_law_drawn) (defScope s_law_drawn) .none kV_law_drawn dc_law_drawn pm_law_drawn an_law_drawn (.ref c_law_drawn) ct_law_drawn,
    f_law_row_by := f_law_row_by, c_law_row_by := c_law_row_by, fd_law_row_by := PySem.W.fnOf "_law_row_by" "_law_row_by" (defArgs s_law_row_by) (defBody s_law_row_by) (defScope s_law_row_by) .none kV_law_row_by dc_law_row_by pm_law_row_by an_law_row_by (.ref c_law_row_by) ct_law_row_by,
    f_law_way_by := f_law_way_by, c_law_way_by := c_law_way_by, fd_law_way_by := PySem.W.fnOf "_law_way_by" "_law_way_by" (defArgs s_law_way_by) (defBody s_law_way_by) (defScope s_law_way_by) .none kV_law_way_by dc_law_way_by pm_law_way_by an_law_way_by (.ref c_law_way_by) ct_law_way_by,
    f_law_far := f_law_far, c_law_far := c_law_far, fd_law_far := PySem.W.fnOf "_law_far" "_law_far" (defArgs s_law_far) (defBody s_law_far) (defScope s_law_far) .none kV_law_far dc_law_far pm_law_far an_law_far (.ref c_law_far) ct_law_far,
    f_law_loop_by := f_law_loop_by, c_law_loop_by := c_law_loop_by, fd_law_loop_by := PySem.W.fnOf "_law_loop_by" "_law_loop_by" (defArgs s_law_loop_by) (defBody s_law_loop_by) (defScope s_law_loop_by) .none kV_law_loop_by dc_law_loop_by pm_law_loop_by an_law_loop_by (.ref c_law_loop_by) ct_law_loop_by,
    f_law_name_of := f_law_name_of, c_law_name_of := c_law_name_of, fd_law_name_of := PySem.W.fnOf "_law_name_of" "_law_name_of" (defArgs s_law_name_of) (defBody s_law_name_of) (defScope s_law_name_of) .none kV_law_name_of dc_law_name_of pm_law_name_of an_law_name_of (.ref c_law_name_of) ct_law_name_of,
    f_law_copied := f_law_copied, c_law_copied := c_law_copied, fd_law_copied := PySem.W.fnOf "_law_copied" "_law_copied" (defArgs s_law_copied) (defBody s_law_copied) (defScope s_law_copied) .none kV_law_copied dc_law_copied pm_law_copied an_law_copied (.ref c_law_copied) ct_law_copied,
    f_law_asked := f_law_asked, c_law_asked := c_law_asked, fd_law_asked := PySem.W.fnOf "_law_asked" "_law_asked" (defArgs s_law_asked) (defBody s_law_asked) (defScope s_law_asked) .none kV_law_asked dc_law_asked pm_law_asked an_law_asked (.ref c_law_asked) ct_law_asked,
    f_law_word := f_law_word, c_law_word := c_law_word, fd_law_word := PySem.W.fnOf "_law_word" "_law_word" (defArgs s_law_word) (defBody s_law_word) (defScope s_law_word) .none kV_law_word dc_law_word pm_law_word an_law_word (.ref c_law_word) ct_law_word,
    f_law_put := f_law_put, c_law_put := c_law_put, fd_law_put := PySem.W.fnOf "_law_put" "_law_put" (defArgs s_law_put) (defBody s_law_put) (defScope s_law_put) .none kV_law_put dc_law_put pm_law_put an_law_put (.ref c_law_put) ct_law_put,
    f_law_row_bent := f_law_row_bent, c_law_row_bent := c_law_row_bent, fd_law_row_bent := PySem.W.fnOf "_law_row_bent" "_law_row_bent" (defArgs s_law_row_bent) (defBody s_law_row_bent) (defScope s_law_row_bent) .none kV_law_row_bent dc_law_row_bent pm_law_row_bent an_law_row_bent (.ref c_law_row_bent) ct_law_row_bent,
    f_law_bent := f_law_bent, c_law_bent := c_law_bent, fd_law_bent := PySem.W.fnOf "_law_bent" "_law_bent" (defArgs s_law_bent) (defBody s_law_bent) (defScope s_law_bent) .none kV_law_bent dc_law_bent pm_law_bent an_law_bent (.ref c_law_bent) ct_law_bent,
    f_law_is_row := f_law_is_row, c_law_is_row := c_law_is_row, fd_law_is_row := PySem.W.fnOf "_law_is_row" "_law_is_row" (defArgs s_law_is_row) (defBody s_law_is_row) (defScope s_law_is_row) .none kV_law_is_row dc_law_is_row pm_law_is_row an_law_is_row (.ref c_law_is_row) ct_law_is_row,
    f_law_is_loop := f_law_is_loop, c_law_is_loop := c_law_is_loop, fd_law_is_loop := PySem.W.fnOf "_law_is_loop" "_law_is_loop" (defArgs s_law_is_loop) (defBody s_law_is_loop) (defScope s_law_is_loop) .none kV_law_is_loop dc_law_is_loop pm_law_is_loop an_law_is_loop (.ref c_law_is_loop) ct_law_is_loop,
    f_law := f_law, c_law := c_law, fd_law := PySem.W.fnOf "law" "law" (defArgs s_law) (defBody s_law) (defScope s_law) .none kV_law dc_law pm_law an_law (.ref c_law) ct_law,
    p_are_wholes := p_are_wholes,
    p_is_row := p_is_row,
    p_are_rows := p_are_rows,
    p_is_loop := p_is_loop,
    p_are_spots := p_are_spots,
    x_LoopError := x_LoopError,
    x_BadLoop := x_BadLoop,
    x_BadState := x_BadState,
    x_BadCount := x_BadCount,
    x_BadGauge := x_BadGauge,
    x_BadTable := x_BadTable,
    x_BadText := x_BadText }
  have T : Txt K mg A := {
    F_is_whole := funC_mk l_is_whole q_is_whole k_is_whole, g_is_whole := PySem.W.mg_of X G a_is_whole, b_is_whole := (funC_mk (st := s_is_whole) l_is_whole q_is_whole k_is_whole).F.binds (ps := ["thing"]) fun _ _ _ _ _ _ us hl => match us, hl with | [_], _ => rfl,
    F_is_whole_within := funC_mk l_is_whole_within q_is_whole_within k_is_whole_within, g_is_whole_within := PySem.W.mg_of X G a_is_whole_within, b_is_whole_within := (funC_mk (st := s_is_whole_within) l_is_whole_within q_is_whole_within k_is_whole_within).F.binds (ps := ["thing", "low", "high"]) fun _ _ _ _ _ _ us hl => match us, hl with | [_, _, _], _ => rfl,
    F_is_list_of := funC_mk l_is_list_of q_is_list_of k_is_list_of, g_is_list_of := PySem.W.mg_of X G a_is_list_of, b_is_list_of := (funC_mk (st := s_is_list_of) l_is_list_of q_is_list_of k_is_list_of).F.binds (ps := ["thing", "least", "most"]) fun _ _ _ _ _ _ us hl => match us, hl with | [_, _, _], _ => rfl,
    F_are_wholes := funC_mk l_are_wholes q_are_wholes k_are_wholes, g_are_wholes := PySem.W.mg_of X G a_are_wholes, b_are_wholes := (funC_mk (st := s_are_wholes) l_are_wholes q_are_wholes k_are_wholes).F.binds (ps := ["thing", "length"]) fun _ _ _ _ _ _ us hl => match us, hl with | [_, _], _ => rfl,
    F_is_pair := funC_mk l_is_pair q_is_pair k_is_pair, g_is_pair := PySem.W.mg_of X G a_is_pair, b_is_pair := (funC_mk (st := s_is_pair) l_is_pair q_is_pair k_is_pair).F.binds (ps := ["thing"]) fun _ _ _ _ _ _ us hl => match us, hl with | [_], _ => rfl,
    F_is_row := funC_mk l_is_row q_is_row k_is_row, g_is_row := PySem.W.mg_of X G a_is_row, b_is_row := (funC_mk (st := s_is_row) l_is_row q_is_row k_is_row).F.binds (ps := ["thing", "many"]) fun _ _ _ _ _ _ us hl => match us, hl with | [_, _], _ => rfl,
    F_are_rows := funC_mk l_are_rows q_are_rows k_are_rows, g_are_rows := PySem.W.mg_of X G a_are_rows, b_are_rows := (funC_mk (st := s_are_rows) l_are_rows q_are_rows k_are_rows).F.binds (ps := ["thing", "many", "least", "most"]) fun _ _ _ _ _ _ us hl => match us, hl with | [_, _, _, _], _ => rfl,
    F_is_way := funC_mk l_is_way q_is_way k_is_way, g_is_way := PySem.W.mg_of X G a_is_way, b_is_way := (funC_mk (st := s_is_way) l_is_way q_is_way k_is_way).F.binds (ps := ["thing", "many"]) fun _ _ _ _ _ _ us hl => match us, hl with | [_, _], _ => rfl,
    F_is_loop := funC_mk l_is_loop q_is_loop k_is_loop, g_is_loop := PySem.W.mg_of X G a_is_loop, b_is_loop := (funC_mk (st := s_is_loop) l_is_loop q_is_loop k_is_loop).F.binds (ps := ["thing"]) fun _ _ _ _ _ _ us hl => match us, hl with | [_], _ => rfl,
    F_need_loop := funC_mk l_need_loop q_need_loop k_need_loop, g_need_loop := PySem.W.mg_of X G a_need_loop, b_need_loop := (funC_mk (st := s_need_loop) l_need_loop q_need_loop k_need_loop).F.binds (ps := ["thing"]) fun _ _ _ _ _ _ us hl => match us, hl with | [_], _ => rfl,
    F_after := funC_mk l_after q_after k_after, g_after := PySem.W.mg_of X G a_after, b_after := (funC_mk (st := s_after) l_after q_after k_after).F.binds (ps := ["loop", "number", "state"]) fun _ _ _ _ _ _ us hl => match us, hl with | [_, _, _], _ => rfl,
    F_run := funC_mk l_run q_run k_run, g_run := PySem.W.mg_of X G a_run, b_run := (funC_mk (st := s_run) l_run q_run k_run).F.binds (ps := ["loop", "state", "most"]) fun _ _ _ _ _ _ us hl => match us, hl with | [_, _, _], _ => rfl,
    F_told := funC_mk l_told q_told k_told, g_told := PySem.W.mg_of X G a_told, b_told := (funC_mk (st := s_told) l_told q_told k_told).F.binds (ps := ["loop"]) fun _ _ _ _ _ _ us hl => match us, hl with | [_], _ => rfl,
    F_is_reason := funC_mk l_is_reason q_is_reason k_is_reason, g_is_reason := PySem.W.mg_of X G a_is_reason, b_is_reason := (funC_mk (st := s_is_reason) l_is_reason q_is_reason k_is_reason).F.binds (ps := ["loop", "gauge", "reason"]) fun _ _ _ _ _ _ us hl => match us, hl with | [_, _, _], _ => rfl,
    F_are_spots := funC_mk l_are_spots q_are_spots k_are_spots, g_are_spots := PySem.W.mg_of X G a_are_spots, b_are_spots := (funC_mk (st := s_are_spots) l_are_spots q_are_spots k_are_spots).F.binds (ps := ["loop", "spots"]) fun _ _ _ _ _ _ us hl => match us, hl with | [_, _], _ => rfl,
    F_most_turns := funC_mk l_most_turns q_most_turns k_most_turns, g_most_turns := PySem.W.mg_of X G a_most_turns, b_most_turns := (funC_mk (st := s_most_turns) l_most_turns q_most_turns k_most_turns).F.binds (ps := ["loop", "gauge", "state"]) fun _ _ _ _ _ _ us hl => match us, hl with | [_, _, _], _ => rfl,
    F_row_line := funC_mk l_row_line q_row_line k_row_line, g_row_line := PySem.W.mg_of X G a_row_line, b_row_line := (funC_mk (st := s_row_line) l_row_line q_row_line k_row_line).F.binds (ps := ["word", "row"]) fun _ _ _ _ _ _ us hl => match us, hl with | [_, _], _ => rfl,
    F_way_lines := funC_mk l_way_lines q_way_lines k_way_lines, g_way_lines := PySem.W.mg_of X G a_way_lines, b_way_lines := (funC_mk (st := s_way_lines) l_way_lines q_way_lines k_way_lines).F.binds (ps := ["way"]) fun _ _ _ _ _ _ us hl => match us, hl with | [_], _ => rfl,
    F_written := funC_mk l_written q_written k_written, g_written := PySem.W.mg_of X G a_written, b_written := (funC_mk (st := s_written) l_written q_written k_written).F.binds (ps := ["loop"]) fun _ _ _ _ _ _ us hl => match us, hl with | [_], _ => rfl,
    F_law_cell_at := funC_mk l_law_cell_at q_law_cell_at k_law_cell_at, g_law_cell_at := PySem.W.mg_of X G a_law_cell_at, b_law_cell_at := (funC_mk (st := s_law_cell_at) l_law_cell_at q_law_cell_at k_law_cell_at).F.binds (ps := ["_law_script", "_law_k"]) fun _ _ _ _ _ _ us hl => match us, hl with | [_, _], _ => rfl,
    F_law_drawn := funC_mk l_law_drawn q_law_drawn k_law_drawn, g_law_drawn := PySem.W.mg_of X G a_law_drawn, b_law_drawn := (funC_mk (st := s_law_drawn) l_law_drawn q_law_drawn k_law_drawn).F.binds (ps := ["_law_seed", "_law_k"]) fun _ _ _ _ _ _ us hl => match us, hl with | [_, _], _ => rfl,
    F_law_row_by := funC_mk l_law_row_by q_law_row_by k_law_row_by, g_law_row_by := PySem.W.mg_of X G a_law_row_by, b_law_row_by := (funC_mk (st := s_law_row_by) l_law_row_by q_law_row_by k_law_row_by).F.binds (ps := ["_law_cell", "_law_k", "_law_many"]) fun _ _ _ _ _ _ us hl => match us, hl with | [_, _, _], _ => rfl,
    F_law_way_by := funC_mk l_law_way_by q_law_way_by k_law_way_by, g_law_way_by := PySem.W.mg_of X G a_law_way_by, b_law_way_by := (funC_mk (st := s_law_way_by) l_law_way_by q_law_way_by k_law_way_by).F.binds (ps := ["_law_cell", "_law_many"]) fun _ _ _ _ _ _ us hl => match us, hl with | [_, _], _ => rfl,
    F_law_far := funC_mk l_law_far q_law_far k_law_far, g_law_far := PySem.W.mg_of X G a_law_far, b_law_far := (funC_mk (st := s_law_far) l_law_far q_law_far k_law_far).F.binds (ps := ["_law_row"]) fun _ _ _ _ _ _ us hl => match us, hl with | [_], _ => rfl,
    F_law_loop_by := funC_mk l_law_loop_by q_law_loop_by k_law_loop_by, g_law_loop_by := PySem.W.mg_of X G a_law_loop_by, b_law_loop_by := (funC_mk (st := s_law_loop_by) l_law_loop_by q_law_loop_by k_law_loop_by).F.binds (ps := ["_law_script", "_law_at"]) fun _ _ _ _ _ _ us hl => match us, hl with | [_, _], _ => rfl,
    F_law_name_of := funC_mk l_law_name_of q_law_name_of k_law_name_of, g_law_name_of := PySem.W.mg_of X G a_law_name_of, b_law_name_of := (funC_mk (st := s_law_name_of) l_law_name_of q_law_name_of k_law_name_of).F.binds (ps := ["_law_error"]) fun _ _ _ _ _ _ us hl => match us, hl with | [_], _ => rfl,
    F_law_copied := funC_mk l_law_copied q_law_copied k_law_copied, g_law_copied := PySem.W.mg_of X G a_law_copied, b_law_copied := (funC_mk (st := s_law_copied) l_law_copied q_law_copied k_law_copied).F.binds (ps := ["_law_thing"]) fun _ _ _ _ _ _ us hl => match us, hl with | [_], _ => rfl,
    F_law_asked := funC_mk l_law_asked q_law_asked k_law_asked, g_law_asked := PySem.W.mg_of X G a_law_asked, b_law_asked := (funC_mk (st := s_law_asked) l_law_asked q_law_asked k_law_asked).F.binds (ps := ["_law_which", "_law_thing"]) fun _ _ _ _ _ _ us hl => match us, hl with | [_, _], _ => rfl,
    F_law_word := funC_mk l_law_word q_law_word k_law_word, g_law_word := PySem.W.mg_of X G a_law_word, b_law_word := (funC_mk (st := s_law_word) l_law_word q_law_word k_law_word).F.binds (ps := ["_law_which", "_law_thing"]) fun _ _ _ _ _ _ us hl => match us, hl with | [_, _], _ => rfl,
    F_law_put := funC_mk l_law_put q_law_put k_law_put, g_law_put := PySem.W.mg_of X G a_law_put, b_law_put := (funC_mk (st := s_law_put) l_law_put q_law_put k_law_put).F.binds (ps := ["_law_row", "_law_at", "_law_thing"]) fun _ _ _ _ _ _ us hl => match us, hl with | [_, _, _], _ => rfl,
    F_law_row_bent := funC_mk l_law_row_bent q_law_row_bent k_law_row_bent, g_law_row_bent := PySem.W.mg_of X G a_law_row_bent, b_law_row_bent := (funC_mk (st := s_law_row_bent) l_law_row_bent q_law_row_bent k_law_row_bent).F.binds (ps := ["_law_rows", "_law_cell", "_law_at"]) fun _ _ _ _ _ _ us hl => match us, hl with | [_, _, _], _ => rfl,
    F_law_bent := funC_mk l_law_bent q_law_bent k_law_bent, g_law_bent := PySem.W.mg_of X G a_law_bent, b_law_bent := (funC_mk (st := s_law_bent) l_law_bent q_law_bent k_law_bent).F.binds (ps := ["_law_loop", "_law_cell", "_law_at"]) fun _ _ _ _ _ _ us hl => match us, hl with | [_, _, _], _ => rfl,
    F_law_is_row := funC_mk l_law_is_row q_law_is_row k_law_is_row, g_law_is_row := PySem.W.mg_of X G a_law_is_row, b_law_is_row := (funC_mk (st := s_law_is_row) l_law_is_row q_law_is_row k_law_is_row).F.binds (ps := ["_law_thing", "_law_many"]) fun _ _ _ _ _ _ us hl => match us, hl with | [_, _], _ => rfl,
    F_law_is_loop := funC_mk l_law_is_loop q_law_is_loop k_law_is_loop, g_law_is_loop := PySem.W.mg_of X G a_law_is_loop, b_law_is_loop := (funC_mk (st := s_law_is_loop) l_law_is_loop q_law_is_loop k_law_is_loop).F.binds (ps := ["_law_thing"]) fun _ _ _ _ _ _ us hl => match us, hl with | [_], _ => rfl,
    F_law := funC_mk l_law q_law k_law, g_law := PySem.W.mg_of X G a_law, b_law := (funC_mk (st := s_law) l_law q_law k_law).F.binds (ps := ["_law_script"]) fun _ _ _ _ _ _ us hl => match us, hl with | [_], _ => rfl,
    k_FARTHEST := ⟨_, PySem.W.mg_of X G kc_FARTHEST⟩,
    k_MOST_ASKS := ⟨_, PySem.W.mg_of X G kc_MOST_ASKS⟩,
    k_MOST_NAMES := ⟨_, PySem.W.mg_of X G kc_MOST_NAMES⟩,
    k_MOST_WAYS := ⟨_, PySem.W.mg_of X G kc_MOST_WAYS⟩,
    z_ValueError := PySem.W.mg_none_of X G z_ValueError,
    z_all := PySem.W.mg_none_of X G z_all,
    z_bool := PySem.W.mg_none_of X G z_bool,
    z_int := PySem.W.mg_none_of X G z_int,
    z_isinstance := PySem.W.mg_none_of X G z_isinstance,
    z_len := PySem.W.mg_none_of X G z_len,
    z_list := PySem.W.mg_none_of X G z_list,
    z_max := PySem.W.mg_none_of X G z_max,
    z_min := PySem.W.mg_none_of X G z_min,
    z_range := PySem.W.mg_none_of X G z_range,
    z_str := PySem.W.mg_none_of X G z_str,
    z_tuple := PySem.W.mg_none_of X G z_tuple,
    z_type := PySem.W.mg_none_of X G z_type,
    gx_LoopError := PySem.W.mg_of X G g_LoopError,
    gx_BadLoop := PySem.W.mg_of X G g_BadLoop,
    gx_BadState := PySem.W.mg_of X G g_BadState,
    gx_BadCount := PySem.W.mg_of X G g_BadCount,
    gx_BadGauge := PySem.W.mg_of X G g_BadGauge,
    gx_BadTable := PySem.W.mg_of X G g_BadTable,
    gx_BadText := PySem.W.mg_of X G g_BadText,
    x_BadLoop := xi_BadLoop, kx_BadLoop := xk_BadLoop, ex_BadLoop := xs_BadLoop, tx_BadLoop := xt_BadLoop,
    exm := fun n hn => by
      simp only [errs, List.mem_cons, List.not_mem_nil, or_false] at hn; rcases hn with rfl
      · exact em_BadLoop,
    exC := fun n hn => by
      simp only [errs, List.mem_cons, List.not_mem_nil, or_false] at hn; rcases hn with rfl
      · exact ⟨e1_BadLoop, e2_BadLoop, xs_BadLoop, e3_BadLoop, e4_BadLoop, eg, et, e5_BadLoop⟩,
    kit := fun n hn m hm => by
      simp only [errs, List.mem_cons, List.not_mem_nil, or_false] at hn; rcases hn with rfl
      · simp only [all6, List.mem_cons, List.not_mem_nil, or_false] at hm; rcases hm with rfl | rfl | rfl | rfl | rfl | rfl
        · exact kt_BadLoop_BadLoop
        · exact kt_BadLoop_BadState
        · exact kt_BadLoop_BadCount
        · exact kt_BadLoop_BadGauge
        · exact kt_BadLoop_BadTable
        · exact kt_BadLoop_BadText,
    kitV := fun n hn => by
      simp only [errs, List.mem_cons, List.not_mem_nil, or_false] at hn; rcases hn with rfl
      · exact kv_BadLoop }
  have hE : ∀ p ∈ ([(c_are_wholes, p_are_wholes), (c_is_row, p_is_row), (c_are_rows, p_are_rows), (c_is_loop, p_is_loop), (c_are_spots, p_are_spots)] : List (Addr × Addr)), h.get? p.2 = some { cls := .none, data := .fields #[] } ∧ K.lookup p.2 = none ∧ PySem.W.CodeHd h p.1 p.2 := fun p hp => by
    simp only [List.mem_cons, List.not_mem_nil, or_false] at hp
    rcases hp with rfl | rfl | rfl | rfl | rfl
    · exact ⟨em "are_wholes" f_are_wholes c_are_wholes p_are_wholes _ _ (by decide +kernel) (PySem.W.mg_of X G a_are_wholes) l_are_wholes rfl rfl (PySem.W.codeHd_of_K X m_hd_are_wholes), m_no_are_wholes, PySem.W.codeHd_of_K X m_hd_are_wholes⟩
    · exact ⟨em "is_row" f_is_row c_is_row p_is_row _ _ (by decide +kernel) (PySem.W.mg_of X G a_is_row) l_is_row rfl rfl (PySem.W.codeHd_of_K X m_hd_is_row), m_no_is_row, PySem.W.codeHd_of_K X m_hd_is_row⟩
    · exact ⟨em "are_rows" f_are_rows c_are_rows p_are_rows _ _ (by decide +kernel) (PySem.W.mg_of X G a_are_rows) l_are_rows rfl rfl (PySem.W.codeHd_of_K X m_hd_are_rows), m_no_are_rows, PySem.W.codeHd_of_K X m_hd_are_rows⟩
    · exact ⟨em "is_loop" f_is_loop c_is_loop p_is_loop _ _ (by decide +kernel) (PySem.W.mg_of X G a_is_loop) l_is_loop rfl rfl (PySem.W.codeHd_of_K X m_hd_is_loop), m_no_is_loop, PySem.W.codeHd_of_K X m_hd_is_loop⟩
    · exact ⟨em "are_spots" f_are_spots c_are_spots p_are_spots _ _ (by decide +kernel) (PySem.W.mg_of X G a_are_spots) l_are_spots rfl rfl (PySem.W.codeHd_of_K X m_hd_are_spots), m_no_are_spots, PySem.W.codeHd_of_K X m_hd_are_spots⟩
  refine ⟨A.fd_law, [(c_are_wholes, p_are_wholes), (c_is_row, p_is_row), (c_are_rows, p_are_rows), (c_is_loop, p_is_loop), (c_are_spots, p_are_spots)], spPN K (tl A) false 1 M_law, fun p hp => (hE p hp).1, fun p hp => (hE p hp).2.1, fun p hp => (hE p hp).2.2, fun s u => .of_eq rfl, fun H a ns _ _ hT hS => law_sp (cs := [(c_are_wholes, p_are_wholes), (c_is_row, p_is_row), (c_are_rows, p_are_rows), (c_is_loop, p_is_loop), (c_are_spots, p_are_spots)]) (fun P hP => ?_) law_eq H a ns hT hS, fun base _ _ TB => ok_law T ⟨tabG_of (TB (c_are_wholes, p_are_wholes) (by simp)), tabG_of (TB (c_is_row, p_is_row) (by simp)), tabG_of (TB (c_are_rows, p_are_rows) (by simp)), tabG_of (TB (c_is_loop, p_is_loop) (by simp)), tabG_of (TB (c_are_spots, p_are_spots) (by simp))⟩⟩
  simp only [tl, List.mem_cons, List.not_mem_nil, or_false] at hP
  rcases hP with rfl | rfl | rfl | rfl | rfl
  · exact ⟨(c_are_wholes, P), by simp, rfl⟩
  · exact ⟨(c_is_row, P), by simp, rfl⟩
  · exact ⟨(c_are_rows, P), by simp, rfl⟩
  · exact ⟨(c_is_loop, P), by simp, rfl⟩
  · exact ⟨(c_are_spots, P), by simp, rfl⟩
end K01
open PySem PySem.W PyProof.Rows
set_option maxHeartbeats 0 in
theorem PySem.Challenge.cw_loopgauge_k01_what_is_no_loop_holds : PySem.Challenge.rw_loopgauge_k01_what_is_no_loop.Holds := by
  w_on; o_law; k_head; (case hw => w_witness2)
  k_fill
  refine DN.walkN (l := PySem.Challenge.rw_loopgauge_k01_what_is_no_loop) (n := 63) (k := 14) (x := "_law_script") (CX := fun _ => L2.CX0) rfl (by decide) rfl ⟨by decide, by decide, by decide⟩ (fun w h Y => PySem.W.kIn_of Y) ?F (fun _ _ _ _ _ h => h)
  case F =>
    intro w mg fa h Y KX G hmg em
    refine' K01.all_mk KX G hmg em ?a_is_whole ?l_is_whole ?q_is_whole ?k_is_whole ?a_is_whole_within ?l_is_whole_within ?q_is_whole_within ?k_is_whole_within ?a_is_list_of ?l_is_list_of ?q_is_list_of ?k_is_list_of ?a_are_wholes ?l_are_wholes ?q_are_wholes ?k_are_wholes ?a_is_pair ?l_is_pair ?q_is_pair ?k_is_pair ?a_is_row ?l_is_row ?q_is_row ?k_is_row ?a_are_rows ?l_are_rows ?q_are_rows ?k_are_rows ?a_is_way ?l_is_way ?q_is_way ?k_is_way ?a_is_loop ?l_is_loop ?q_is_loop ?k_is_loop ?a_need_loop ?l_need_loop ?q_need_loop ?k_need_loop ?a_after ?l_after ?q_after ?k_after ?a_run ?l_run ?q_run ?k_run ?a_told ?l_told ?q_told ?k_told ?a_is_reason ?l_is_reason ?q_is_reason ?k_is_reason ?a_are_spots ?l_are_spots ?q_are_spots ?k_are_spots ?a_most_turns ?l_most_turns ?q_most_turns ?k_most_turns ?a_row_line ?l_row_line ?q_row_line ?k_row_line ?a_way_lines ?l_way_lines ?q_way_lines ?k_way_lines ?a_written ?l_written ?q_written ?k_written ?a_law_cell_at ?l_law_cell_at ?q_law_cell_at ?k_law_cell_at ?a_law_drawn ?l_law_drawn ?q_law_drawn ?k_law_drawn ?a_law_row_by ?l_law_row_by ?q_law_row_by ?k_law_row_by ?a_law_way_by ?l_law_way_by ?q_law_way_by ?k_law_way_by ?a_law_far ?l_law_far ?q_law_far ?k_law_far ?a_law_loop_by ?l_law_loop_by ?q_law_loop_by ?k_law_loop_by ?a_law_name_of ?l_law_name_of ?q_law_name_of ?k_law_name_of ?a_law_copied ?l_law_copied ?q_law_copied ?k_law_copied ?a_law_asked ?l_law_asked ?q_law_asked ?k_law_asked ?a_law_word ?l_law_word ?q_law_word ?k_law_word ?a_law_put ?l_law_put ?q_law_put ?k_law_put ?a_law_row_bent ?l_law_row_bent ?q_law_row_bent ?k_law_row_bent ?a_law_bent ?l_law_bent ?q_law_bent ?k_law_bent ?a_law_is_row ?l_law_is_row ?q_law_is_row ?k_law_is_row ?a_law_is_loop ?l_law_is_loop ?q_law_is_loop ?k_law_is_loop ?a_law ?l_law ?q_law ?k_law ?m_lk_are_wholes ?m_at_are_wholes ?m_hd_are_wholes ?m_no_are_wholes ?m_lk_is_row ?m_at_is_row ?m_hd_is_row ?m_no_is_row ?m_lk_are_rows ?m_at_are_rows ?m_hd_are_rows ?m_no_are_rows ?m_lk_is_loop ?m_at_is_loop ?m_hd_is_loop ?m_no_is_loop ?m_lk_are_spots ?m_at_are_spots ?m_hd_are_spots ?m_no_are_spots ?kc_FARTHEST ?kc_MOST_ASKS ?kc_MOST_NAMES ?kc_MOST_WAYS ?z_ValueError ?z_all ?z_bool ?z_int ?z_isinstance ?z_len ?z_list ?z_max ?z_min ?z_range ?z_str ?z_tuple ?z_type ?g_LoopError ?g_BadLoop ?g_BadState ?g_BadCount ?g_BadGauge ?g_BadTable ?g_BadText ?xi_BadLoop ?xk_BadLoop ?xs_BadLoop ?xt_BadLoop ?e1_BadLoop ?e2_BadLoop ?e3_BadLoop ?e4_BadLoop ?e5_BadLoop ?em_BadLoop ?kt_BadLoop_BadLoop ?kt_BadLoop_BadState ?kt_BadLoop_BadCount ?kt_BadLoop_BadGauge ?kt_BadLoop_BadTable ?kt_BadLoop_BadText ?kv_BadLoop ?eg ?et
    (case a_is_whole => k_is)
    (case l_is_whole => k_is)
    (case q_is_whole => k_is)
    (case k_is_whole => k_is)
    (case a_is_whole_within => k_is)
    (case l_is_whole_within => k_is)
    (case q_is_whole_within => k_is)
    (case k_is_whole_within => k_is)
    (case a_is_list_of => k_is)
    (case l_is_list_of => k_is)
    (case q_is_list_of => k_is)
    (case k_is_list_of => k_is)
    (case a_are_wholes => k_is)
    (case l_are_wholes => k_is)
    (case q_are_wholes => k_is)
    (case k_are_wholes => k_is)
    (case a_is_pair => k_is)
    (case l_is_pair => k_is)
    (case q_is_pair => k_is)
    (case k_is_pair => k_is)
    (case a_is_row => k_is)
    (case l_is_row => k_is)
    (case q_is_row => k_is)
    (case k_is_row => k_is)
    (case a_are_rows => k_is)
    (case l_are_rows => k_is)
    (case q_are_rows => k_is)
    (case k_are_rows => k_is)
    (case a_is_way => k_is)
    (case l_is_way => k_is)
    (case q_is_way => k_is)
    (case k_is_way => k_is)
    (case a_is_loop => k_is)
    (case l_is_loop => k_is)
    (case q_is_loop => k_is)
    (case k_is_loop => k_is)
    (case a_need_loop => k_is)
    (case l_need_loop => k_is)
    (case q_need_loop => k_is)
    (case k_need_loop => k_is)
    (case a_after => k_is)
    (case l_after => k_is)
    (case q_after => k_is)
    (case k_after => k_is)
    (case a_run => k_is)
    (case l_run => k_is)
    (case q_run => k_is)
    (case k_run => k_is)
    (case a_told => k_is)
    (case l_told => k_is)
    (case q_told => k_is)
    (case k_told => k_is)
    (case a_is_reason => k_is)
    (case l_is_reason => k_is)
    (case q_is_reason => k_is)
    (case k_is_reason => k_is)
    (case a_are_spots => k_is)
    (case l_are_spots => k_is)
    (case q_are_spots => k_is)
    (case k_are_spots => k_is)
    (case a_most_turns => k_is)
    (case l_most_turns => k_is)
    (case q_most_turns => k_is)
    (case k_most_turns => k_is)
    (case a_row_line => k_is)
    (case l_row_line => k_is)
    (case q_row_line => k_is)
    (case k_row_line => k_is)
    (case a_way_lines => k_is)
    (case l_way_lines => k_is)
    (case q_way_lines => k_is)
    (case k_way_lines => k_is)
    (case a_written => k_is)
    (case l_written => k_is)
    (case q_written => k_is)
    (case k_written => k_is)
    (case a_law_cell_at => k_is)
    (case l_law_cell_at => k_is)
    (case q_law_cell_at => k_is)
    (case k_law_cell_at => k_is)
    (case a_law_drawn => k_is)
    (case l_law_drawn => k_is)
    (case q_law_drawn => k_is)
    (case k_law_drawn => k_is)
    (case a_law_row_by => k_is)
    (case l_law_row_by => k_is)
    (case q_law_row_by => k_is)
    (case k_law_row_by => k_is)
    (case a_law_way_by => k_is)
    (case l_law_way_by => k_is)
    (case q_law_way_by => k_is)
    (case k_law_way_by => k_is)
    (case a_law_far => k_is)
    (case l_law_far => k_is)
    (case q_law_far => k_is)
    (case k_law_far => k_is)
    (case a_law_loop_by => k_is)
    (case l_law_loop_by => k_is)
    (case q_law_loop_by => k_is)
    (case k_law_loop_by => k_is)
    (case a_law_name_of => k_is)
    (case l_law_name_of => k_is)
    (case q_law_name_of => k_is)
    (case k_law_name_of => k_is)
    (case a_law_copied => k_is)
    (case l_law_copied => k_is)
    (case q_law_copied => k_is)
    (case k_law_copied => k_is)
    (case a_law_asked => k_is)
    (case l_law_asked => k_is)
    (case q_law_asked => k_is)
    (case k_law_asked => k_is)
    (case a_law_word => k_is)
    (case l_law_word => k_is)
    (case q_law_word => k_is)
    (case k_law_word => k_is)
    (case a_law_put => k_is)
    (case l_law_put => k_is)
    (case q_law_put => k_is)
    (case k_law_put => k_is)
    (case a_law_row_bent => k_is)
    (case l_law_row_bent => k_is)
    (case q_law_row_bent => k_is)
    (case k_law_row_bent => k_is)
    (case a_law_bent => k_is)
    (case l_law_bent => k_is)
    (case q_law_bent => k_is)
    (case k_law_bent => k_is)
    (case a_law_is_row => k_is)
    (case l_law_is_row => k_is)
    (case q_law_is_row => k_is)
    (case k_law_is_row => k_is)
    (case a_law_is_loop => k_is)
    (case l_law_is_loop => k_is)
    (case q_law_is_loop => k_is)
    (case k_law_is_loop => k_is)
    (case a_law => k_is)
    (case l_law => k_is)
    (case q_law => k_is)
    (case k_law => k_is)
    (case m_lk_are_wholes => k_is)
    (case m_at_are_wholes => first | rfl | k_is)
    (case m_hd_are_wholes => first | k_exc | kernel_rfl | rfl | k_is)
    (case m_no_are_wholes => first | k_exc | kernel_rfl | rfl | k_is)
    (case m_lk_is_row => k_is)
    (case m_at_is_row => first | rfl | k_is)
    (case m_hd_is_row => first | k_exc | kernel_rfl | rfl | k_is)
    (case m_no_is_row => first | k_exc | kernel_rfl | rfl | k_is)
    (case m_lk_are_rows => k_is)
    (case m_at_are_rows => first | rfl | k_is)
    (case m_hd_are_rows => first | k_exc | kernel_rfl | rfl | k_is)
    (case m_no_are_rows => first | k_exc | kernel_rfl | rfl | k_is)
    (case m_lk_is_loop => k_is)
    (case m_at_is_loop => first | rfl | k_is)
    (case m_hd_is_loop => first | k_exc | kernel_rfl | rfl | k_is)
    (case m_no_is_loop => first | k_exc | kernel_rfl | rfl | k_is)
    (case m_lk_are_spots => k_is)
    (case m_at_are_spots => first | rfl | k_is)
    (case m_hd_are_spots => first | k_exc | kernel_rfl | rfl | k_is)
    (case m_no_are_spots => first | k_exc | kernel_rfl | rfl | k_is)
    (case kc_FARTHEST => k_is)
    (case kc_MOST_ASKS => k_is)
    (case kc_MOST_NAMES => k_is)
    (case kc_MOST_WAYS => k_is)
    (case z_ValueError => k_is)
    (case z_all => k_is)
    (case z_bool => k_is)
    (case z_int => k_is)
    (case z_isinstance => k_is)
    (case z_len => k_is)
    (case z_list => k_is)
    (case z_max => k_is)
    (case z_min => k_is)
    (case z_range => k_is)
    (case z_str => k_is)
    (case z_tuple => k_is)
    (case z_type => k_is)
    (case g_LoopError => k_is)
    (case g_BadLoop => k_is)
    (case g_BadState => k_is)
    (case g_BadCount => k_is)
    (case g_BadGauge => k_is)
    (case g_BadTable => k_is)
    (case g_BadText => k_is)
    (case xi_BadLoop => first | k_exc | kernel_rfl | rfl | k_is)
    (case xk_BadLoop => k_is)
    (case xs_BadLoop => k_is)
    (case xt_BadLoop => k_is)
    (case e1_BadLoop => k_is)
    (case e2_BadLoop => k_is)
    (case e3_BadLoop => k_is)
    (case e4_BadLoop => k_is)
    (case e5_BadLoop => k_is)
    (case em_BadLoop => first | k_exc | kernel_rfl | rfl | k_is)
    (case kt_BadLoop_BadLoop => first | k_exc | kernel_rfl | rfl | k_is)
    (case kt_BadLoop_BadState => first | k_exc | kernel_rfl | rfl | k_is)
    (case kt_BadLoop_BadCount => first | k_exc | kernel_rfl | rfl | k_is)
    (case kt_BadLoop_BadGauge => first | k_exc | kernel_rfl | rfl | k_is)
    (case kt_BadLoop_BadTable => first | k_exc | kernel_rfl | rfl | k_is)
    (case kt_BadLoop_BadText => first | k_exc | kernel_rfl | rfl | k_is)
    (case kv_BadLoop => first | k_exc | kernel_rfl | rfl | k_is)
    (case eg => k_is)
    (case et => k_is)

