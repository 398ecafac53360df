import PyProof.Rows.All
import Wide.All
import OpenK.AllK
import Wide.FinOn
import HandS.ForMost
import HandS.AnyAll
import HandS.GenList
import PyProof.TupleOfGen
import HandS.Zip
import HandS.Exc
import HandS.ExcInit
import HandS.CallSlots
import HandS.Lambda
import HandS.TupAny
import HandS.Wide
import HandS.WideBits
import HandS.IsInst
import HandS.Conv
import HandS.Comp
import HandS.Iter
import HandS.ExcOwn
import HandS.WordsExc
import HandS.ExcCtx
import HandS.Defaults
import HandS.HeadHook4
import HandS.HotCalls
import HandS.ExcIs
import HandS.ExcField
import HandS.Codes
import HandS.Head0
import HandS.Head1
import HandS.Head2
import HandS.HeadEnd
import HandS.HeadHook1
import HandS.HeadHook2
import HandS.HeadHook3
import HandS.HeadWalk
import HandS.EndTab
import PySem.Challenge.RW_lookundone_k29_products_of_tables
set_option Elab.async false
set_option linter.all false
set_option maxRecDepth 100000
set_option maxHeartbeats 2000000
/-! Gx: generator expressions whose parts are any, walked by all, any, tuple, sum -/
namespace Gx
open PySem PySem.Spec PyProof.Rows L2

abbrev gex (elt tg iter : Expr) (ifs : List Expr) (scope : Scope) (pos : Pos) : Expr := .GeneratorExp elt [⟨tg, iter, ifs, 0⟩] scope pos
theorem over_gen {A : Around} {elt tg iter : Expr} {ifs : List Expr} {scope : Scope} {pos : Pos} {it : Value} {env : PySem.Env} :
    A.over (.compLoop (gex elt tg iter ifs scope pos) 0 it .none env) [] = A.deeper env := by
  first
    | rfl
    | (obtain ⟨hd, d, fr, gs, u⟩ := A; simp [Around.over, Around.deeper, marksOver, frameCount, unitsOf, envsOf, guardsOf, pushEnvs, pushGuards, Code.envs, Code.env?, Code.isFrame, Code.guards, Code.isGuard, Code.weight, Code.frames, Code.isCreation, Code.isCaller, Code.cUnits])
theorem over_gen0 {A : Around} {elt tg iter : Expr} {ifs : List Expr} {scope : Scope} {pos : Pos} {it : Value} {env : PySem.Env} :
    A.over (.compStart (gex elt tg iter ifs scope pos) 0 it .none env) [] = A.deeper env := by
  first
    | rfl
    | (obtain ⟨hd, d, fr, gs, u⟩ := A; simp [Around.over, Around.deeper, marksOver, frameCount, unitsOf, envsOf, guardsOf, pushEnvs, pushGuards, Code.envs, Code.env?, Code.isFrame, Code.guards, Code.isGuard, Code.weight, Code.frames, Code.isCreation, Code.isCaller, Code.cUnits])

/-- the context of the generator's frame: s, H where it was made; env its own frame; fp its source's objects -/
abbrev gcx (X : Cx) (B : Around) (s : Shared) (H : Hp) (env : PySem.Env) (fp : List Addr) : Cx :=
  { X with A := B.deeper env, s_0 := s, H_0 := H, env := env, outer := X.stack, stack := env :: X.stack, ex := fp, fn := fun _ => false, pn := [], xe := fun _ _ => False }
abbrev genv (X : Cx) (scope : Scope) (C : Addr) (code : Value) (bi : Addr) : PySem.Env := genEnv scope (cloFrom X.env.cells scope.names []) C code bi X.env

section
variable {X : Cx} {pins : List (Addr × Obj)} {σ : L2.St} {H : Hp} {s : Shared}
theorem gen_start {scope : Scope} {own : List (Str × Nat)} {fp : List Addr} {code it : Value} {bi : Addr} {h' : Heap} {G : Array GenState} {t : Nat} (I : Inv X pins σ H s) (hcalm : X.calm = true) (hN : X.N.Nodup) (ok : BlkOk X.N X.env.scope scope own)
    (ncell : ∀ y ∈ scope.names, y.2 ≠ .cell) (hfp : ∀ b ∈ fp, FpOk X pins H b ∧ b < s.heap.objs.size) (hbi : bi = builtinsNs)
    (kp : ∀ b o, s.heap.get? b = some o → h'.get? b = some o) (hns : h'.Ns s.heap.objs.size (fun y => if y = ".0" then some it else none)) (hG : AllBare G) {B : Around} (hB : B.frames = X.A.frames) (hB0 : B.handled = X.A.handled) :
    Inv (gcx X B s H (genv X scope s.heap.objs.size code bi) fp) [] (wipe σ (own.map (·.2))) H { s with heap := h', gens := G, toks := t } := by
  have hfree : ∀ y ∈ scope.names, y.2 = .free → ∃ c, X.env.cells.lookup y.1 = some c := fun y hy e => by
    rcases ok.free y hy e with k | k
    · exact I.ok.has _ (.inl k)
    · exact I.ok.has _ (.inr k)
  have cm : ∀ {y c}, (cloFrom X.env.cells scope.names []).lookup y = some c → X.env.cells.lookup y = some c := fun {y c} e => by
    rcases cloFrom_mem (PySem.mem_of_lookup e) with hm | ⟨h1, h2⟩
    · cases hm
    · obtain ⟨c1, hc⟩ := hfree _ h1 rfl
      have hc : X.env.cells.lookup y = some c1 := hc
      have e2 : c = c1 := by rw [h2, hc] <;> rfl
      rw [e2]; exact hc
  have look : ∀ {y}, scope.names.lookup y = some .free → ∃ c, (cloFrom X.env.cells scope.names []).lookup y = some c := fun {y} hl =>
    mem_lookup (cloFrom_has (cells := X.env.cells) (acc := []) (PySem.mem_of_lookup hl))
  have cellK : ∀ {c : Addr} {v : Option Value}, s.heap.IsCell c v → h'.IsCell c v := fun {c v} ⟨o, ho, hd⟩ => ⟨o, kp _ _ ho, hd⟩
  have celt : ∀ {y c}, X.env.cells.lookup y = some c → c < s.heap.objs.size := fun {y c} e => let ⟨_, z⟩ := I.cell y c e; z.lt
  refine ⟨⟨I.ok.mod, ok.kind, I.ok.glob, hbi, Nat.le_refl _, fun y z c e1 e2 => I.ok.inj y z c (cm e1) (cm e2), fun y hy => ?_, fun y c z _ => ?_, fun _ => (hB0.trans (I.ok.hd hcalm) : B.handled = none), Around.frames_deeper (hB.trans I.ok.frames), .inr ⟨rfl, rfl⟩,
      fun b hb => ⟨Nat.ne_of_lt (hfp b hb).2, fun y c e z => (hfp b hb).1.2.2.2.2.1 y c (cm e) z⟩, I.bs, Nat.le_trans I.ok.bsz I.sz, fun b o e hb => ?_, fun b hb z => ?_, I.stack, I.stkFree⟩,
    rfl, hG, Un.kept kp, ⟨_, hns, fun i y v e1 e2 e3 => ?_⟩, fun y c e => ?_, I.hok.fresh (Nat.le_refl _), fun y c e => I.freeC y c (cm e), fun q hq => absurd (show q ∈ ([] : List (Addr × Obj)) ++ [] from hq) (by simp), I.hok.kept kp, by rw [wipe_length]; exact I.len⟩
  · have hy : scope.names.lookup y = some .cell ∨ scope.names.lookup y = some .free := hy
    rcases hy with hy | hy
    · exact absurd rfl (ncell _ (PySem.mem_of_lookup hy))
    · exact look hy
  · exact absurd (show false = true from z) (by simp)
  · rcases (hfp b hb).1.2.2.2.1 with z | z
    · exact I.ok.noex b o e z
    · exact absurd (Nat.lt_of_lt_of_le (Heap.lt_size e) (Nat.le_trans I.ok.bsz z)) (Nat.lt_irrefl _)
  · rcases List.mem_cons.mp (I.stkSub b z) with z | z
    · exact (hfp b hb).1.2.1 z
    · exact (hfp b hb).1.2.2.1 z
  · obtain ⟨e2, hne⟩ := wipe_some e2
    have e3 : Vis scope y := e3
    have noown : ∀ k, scope.names.lookup y = some k → k = .local ∨ k = .cell → False := fun k hk hk' => by
      rcases ok.own _ (PySem.mem_of_lookup hk) hk' with z | z
      · obtain ⟨p, hp, hpy⟩ := List.mem_map.mp z
        have hpy : p.1 = y := hpy
        have q := ok.ix p hp
        rw [hpy] at q
        have e1 : X.N[i]? = some y := e1
        exact hne (by rw [nodup_ix hN e1 q]; exact List.mem_map_of_mem hp)
      · exact z (List.mem_of_getElem? e1)
    rcases e3 with k | k | k
    · exact (noown _ k (.inl rfl)).elim
    · exact (noown _ k (.inr rfl)).elim
    · obtain ⟨m, hn, hl⟩ := I.loc
      have hvis : Vis X.env.scope y := (ok.free _ (PySem.mem_of_lookup k) rfl).elim (fun k => .inr (.inl k)) (fun k => .inr (.inr k))
      obtain ⟨w', r, q⟩ := hl i y v e1 e2 hvis
      obtain ⟨c2, h2⟩ := look k
      refine ⟨w', r, .inr ⟨.inr k, c2, h2, ?_⟩⟩
      have c1 := cm h2
      rcases q with ⟨k', _⟩ | ⟨_, c3, e', z⟩
      · have k' : X.env.scope.names.lookup y = some .local := k'
        rcases ok.free _ (PySem.mem_of_lookup k) rfl with k2 | k2 <;> rw [show X.env.scope.names.lookup y = _ from k2] at k' <;> cases k'
      · rw [c1] at e'
        cases e'
        exact cellK z
  · obtain ⟨w', z⟩ := I.cell y c (cm e)
    exact ⟨w', cellK z⟩
end
end Gx

set_option Elab.async false
set_option linter.all false
set_option maxRecDepth 100000
set_option maxHeartbeats 4000000
namespace Gx
open PySem PySem.Spec PyProof.Rows L2

/-- a generator over J at a, not begun, in the state s5; s4: where its frame was made -/
structure Fresh (X : Cx) (pins : List (Addr × Obj)) (σ : L2.St) (elt tg iter : Expr) (ifs : List Expr) (scope : Scope) (gpos : Pos) (J : It) (H2 : Hp) (a : Addr) (s5 : Shared) (it : Addr) (fp : List Addr) (tn : Nat → Heap → Prop) (code : Value) (g : Nat) (s4 : Shared) : Prop where
  inv : Inv X pins σ H2 s4
  fps : ∀ b ∈ fp, FpOk X pins H2 b ∧ b < s4.heap.objs.size
  turn : Turn X.prog X.w X.K tg J fp it tn
  at0 : tn 0 s4.heap
  kp : ∀ b o, s4.heap.get? b = some o → s5.heap.get? b = some o
  ns : s5.heap.Ns s4.heap.objs.size (fun y => if y = ".0" then some (.ref it) else none)
  gen : s5.gens[g]? = some (.fresh (.compStart (gex elt tg iter ifs scope gpos) 0 (.ref it) .none (genv X scope s4.heap.objs.size code builtinsNs)))
  isg : s5.heap.IsGen a g
  os : s5.os = s4.os
  bare : AllBare s5.gens
  new : s4.heap.objs.size ≤ a

section
variable {X : Cx} {pins : List (Addr × Obj)} {σ : L2.St} {H : Hp} {s : Shared}
theorem gen_make {c P : Addr} {elt tg iter : Expr} {ifs : List Expr} {scope : Scope} {gpos : Pos} {wi : TI} {k : Nat} {Q' : Value → Shared → Prop} {R : It → Hp → Prop}
    (hr : Room k X.A) (TB : GxR.TabB X.base X.mg c P) (hcode : X.env.code = .ref c) (free : ∀ y ∈ scope.names, y.2 = .free → ∃ c, X.env.cells.lookup y.1 = some c) (ncell : ∀ y ∈ scope.names, y.2 ≠ .cell)
    (hco : scope.isCoroutine = false) (hkind : scope.kind = .function) (dot : scope.names.lookup (".0" : Str) = some NameKind.local) (hi : PI X tg iter wi) (hs : ∀ v, genFold iter X.env v = pure v)
    (I : Inv X pins σ H s) (h : wi σ H fun J H1 => GxR.TabG H1 P ∧ R J H1)
    (hQ : ∀ J H1 H2 a s5 it fp tn code g s4, R J H1 → GxR.Tabbed P H1 H2 → Fresh X pins σ elt tg iter ifs scope gpos J H2 a s5 it fp tn code g s4 → Q' (.ref a) s5) :
    wpAny (model X.prog X.w) X.A (eval (gex elt tg iter ifs scope gpos) X.env) Q' X.xe s := by
  refine wpAny_GeneratorExp_make hco (closure_ok free) ncell dot hkind (by have := hr.dp; omega) ?_ hs
  refine thn (hi.run pins s σ H _ I h) fun xv s0 hx => thn hx fun itv s1 hpie => ?_
  obtain ⟨it, fp, tn, J, H1, rfl, I1, T, st1, f1, ⟨ps, hP, ht⟩, q1⟩ := hpie
  have hPs : s1.heap.get? P = some { cls := .none, data := .fields ps } := I1.hok P _ hP
  have cd : PySem.W.CodeHd s1.heap c P := TB.code.keeps fun b u e => I1.bk b u e
  have lt1 : ∀ b ∈ fp, b < s1.heap.objs.size := fun b hb => by
    obtain ⟨o, e, _⟩ := T.obj _ _ st1 b hb
    exact Heap.lt_size e
  have fnP : ∀ b ∈ fp, b ≠ P := fun b hb z => by
    have := (f1 b hb).1
    rw [z, hP] at this; cases this
  refine ⟨I1.nolimit, ?_⟩
  have cont : ∀ (code : Value) (h3 : Heap) (tk : Nat) (more : Array Value), (∀ b o, b ≠ P → s1.heap.get? b = some o → h3.get? b = some o) → h3.get? P = some { cls := .none, data := .fields (ps ++ more) } → s1.heap.objs.size ≤ h3.objs.size → TriplesOk (ps ++ more).toList →
      wpAny (model X.prog X.w) X.A (builtinsFor X.env.globals X.env.builtins) (fun bi s₄ => ∀ h', h'.Ns s₄.heap.objs.size (fun y => if y = ".0" then some (.ref it) else none) → Heap.SameBut s₄.heap.objs.size (s₄.heap.push { cls := .type "frame", data := .dict #[] }) h' →
          Q' (.ref h'.objs.size) { s₄ with
            gens := s₄.gens.push (.fresh (.compStart (.GeneratorExp elt [⟨tg, iter, ifs, 0⟩] scope gpos) 0 (.ref it) .none (genEnv scope (cloFrom X.env.cells scope.names []) s₄.heap.objs.size code bi X.env))),
            toks := s₄.toks + 1 + 1 + 1,
            heap := h'.push { cls := .type "generator", data := .fields #[.int s₄.gens.size 0, .str "<genexpr>" (s₄.toks + 1), .str (X.env.qual ++ "<genexpr>") (s₄.toks + 1 + 1)] } }) X.xe { s1 with heap := h3, toks := tk } := by
    intro code h3 tk more k3 hP3 hsz ht3
    obtain ⟨bm, ob, e1, e2, e3, e4, e5, e6, e7, e8⟩ := TB.bm
    have gl : h3.Ns mainGlobals X.mg := by
      obtain ⟨og, es, ep, ho, r⟩ := I1.mod.glob.keeps I1.bk
      exact ⟨og, es, ep, k3 _ og TB.gP ho, r⟩
    refine wpAny_builtinsFor (m := X.mg) (by rw [I1.ok.glob]; exact gl) e1 e2 (k3 _ _ e4 (I1.bk _ _ e5)) e6 e7 e8 ?_
    intro h' hn' hs'
    have J3 : Inv X pins σ (upd H1 P (.tbl (ps ++ more))) { s1 with heap := h3, gens := s1.gens, drawn := s1.drawn, toks := tk } := GxR.inv_tab (more := more) I1 hP k3 hP3 I1.bare
    have keep' : ∀ b o, h3.get? b = some o → h'.get? b = some o := fun b o e => hs'.extBut b o (Nat.ne_of_lt (Heap.lt_size e)) (Heap.get?_push_of_some _ e)
    refine hQ J H1 (upd H1 P (.tbl (ps ++ more))) _ _ it fp tn code s1.gens.size { s1 with heap := h3, toks := tk } q1 ⟨⟨ps ++ more, upd_same, ht3⟩, fun b hb => upd_ne hb⟩
      ⟨J3, fun b hb => ⟨⟨by rw [upd_ne (fnP b hb)]; exact (f1 b hb).1, (f1 b hb).2⟩, Nat.lt_of_lt_of_le (lt1 b hb) hsz⟩, T, T.keep _ _ _ st1 fun b hb o e => k3 b o (fnP b hb) e,
        fun b o e => Heap.get?_push_of_some _ (keep' b o e), hn'.push _, by show (s1.gens.push _)[s1.gens.size]? = _; simp, ⟨_, _, _, Heap.get?_push_size _ rfl, rfl, rfl, rfl⟩, rfl, AllBare.push I1.bare rfl, ?_⟩
    show h3.objs.size ≤ h'.objs.size
    have : h'.objs.size = h3.objs.size + 1 := by rw [hs'.1, Heap.size_push]
    omega
  cases hf : codeAmong gpos ps.toList with
  | none =>
    refine wpAny_genexprCodeX hcode (cd.code hPs ht) (cd.tab hPs) hf fun c' h' tk hx hge hlt hco' _ htab' _ => ?_
    obtain ⟨o1, vs, f1', tf, fl, tg', inF, tx, tt, op, _, _, _, _, _, _, _, _, _, htr, _⟩ := hco'
    exact cont _ h' tk _ (fun b o hb e => hx b o hb e) htab'.2 (Nat.le_trans hge (Nat.le_of_lt hlt)) htr
  | some cv =>
    refine wpAny_genexprCode_hit hcode (cd.code hPs ht) hf ?_
    have := cont cv s1.heap s1.toks #[] (fun b o _ e => e) (by simpa using hPs) (Nat.le_refl _) (by simpa using ht)
    exact this
end
end Gx

set_option Elab.async false
set_option linter.all false
set_option maxRecDepth 100000
set_option maxHeartbeats 4000000
namespace Gx
open PySem PySem.Spec PyProof.Rows L2

/-- while the generator sleeps nothing that is there changes -/
structure Sl (s s' : Shared) : Prop where
  os : s'.os = s.os
  bare : AllBare s'.gens
  keep : ∀ b o, s.heap.get? b = some o → s'.heap.get? b = some o
/-- one walk of the source, and what is made of each item: go on with Nx, or Out -/
def TurnR (K : PySem.W.Frag) (J : It) (g : TG) (tt : TT) (te : TE) (σ : L2.St) (vs : List Nat) (CONS : V → Hp → (Hp → Prop) → Prop) (W : Nat → Nat → Hp → Prop) (End : Hp → Prop) : Prop :=
  ∀ i m H, W i m H → (J.stop i H ∧ End H) ∨ (J.go i H ∧ ∃ Nx : Hp → Prop, (∀ H', Nx H' → ∃ m', m' < m ∧ W (i + 1) m' H') ∧ ∀ x H', J.yld i H x H' →
    g x (wipe σ vs) H' fun σ2 H2 => wipe σ2 vs = wipe σ vs ∧ tt σ2 H2 fun b H3 => if b = true then te σ2 H3 fun y H4 => CONS y H4 Nx else Nx H3)

section
variable {X : Cx} {pins : List (Addr × Obj)} {σ : L2.St} {H : Hp} {s : Shared}
/-- the whole goes on from s to s' where all objects are kept -/
theorem Inv.slept {s' : Shared} (I : Inv X pins σ H s) (z : Sl s s') : Inv X pins σ H s' := by
  obtain ⟨h, g, d, t, o⟩ := s'
  obtain ⟨e, b, k⟩ := z
  have e : o = s.os := e
  subst e
  refine I.step (g' := g) (t' := t) (d' := d) (ch := []) (fun _ z => nomatch z) (fun b o _ _ _ e _ => k b o e) (fun b o _ _ _ e _ => ⟨o.slots, k b o e⟩) (fun _ _ _ _ n => n) (fun b o _ e => ⟨o, k b o e⟩)
    (fun _ _ e => e) (fun _ _ _ e => e) (fun b ps e => ⟨#[], by rw [e]; simp⟩) (fun m hm => ?_) (I.hok.kept k) b
  exact hm.keeps k
def GYb (X : Cx) (pins : List (Addr × Obj)) (σ : L2.St) (a : Addr) (g : Nat) (CONS : V → Hp → (Hp → Prop) → Prop) : Protocol := fun _ _ v s1 kap =>
  ∃ y H4 Nx, Inv X pins σ H4 s1 ∧ s1.heap.IsGen a g ∧ RelV y v ∧ CONS y H4 Nx ∧ ∀ s', Sl s1 s' → Nx H4 → kap (.send .none) s'
def GRb (X : Cx) (pins : List (Addr × Obj)) (σ : L2.St) (End : Hp → Prop) : GenEnd := fun _ _ r s1 => r = .ok .next ∧ ∃ H', Inv X pins σ H' s1 ∧ End H'

theorem gen_seg {elt tg iter : Expr} {ifs : List Expr} {scope : Scope} {gpos : Pos} {J : It} {fp : List Addr} {it a : Addr} {g' : Nat} {go : Obj} {tn : Nat → Heap → Prop} {g : TG} {tt : TT} {te : TE} {vs : List Nat} {s4 : Shared} {H2 : Hp} {env : PySem.Env} {B : Around}
    {CONS : V → Hp → (Hp → Prop) → Prop} {W : Nat → Nat → Hp → Prop} {End : Hp → Prop}
    (hc : X.calm = true) (hco : env.scope.isCoroutine = false) (I4 : Inv X pins σ H2 s4) (hfp : ∀ b ∈ fp, FpOk X pins H2 b ∧ b < s4.heap.objs.size) (T : Turn X.prog X.w X.K tg J fp it tn)
    (pg : PG (gcx X B s4 H2 env fp) tg g) (pt : PTs (gcx X B s4 H2 env fp) ifs tt) (pe : PE (gcx X B s4 H2 env fp) elt te) (TR : TurnR X.K J g tt te σ vs CONS W End) (hgo : ∀ h : Heap, h.get? a = some go → h.IsGen a g') (ha : s4.heap.objs.size ≤ a) :
    ∀ (m i n : Nat) (s₀ s : Shared) (H : Hp), m < n → W i m H → Inv (gcx X B s4 H2 env fp) [(a, go)] (wipe σ vs) H s → tn i s.heap → (∀ b ∈ fp, H b = none) →
      Seg (model X.prog X.w) B (GRb X pins σ End) (GYb X pins σ a g' CONS) n s₀ (.compLoop (gex elt tg iter ifs scope gpos) 0 (.ref it) .none env)
        ((model X.prog X.w).den (.compLoop (gex elt tg iter ifs scope gpos) 0 (.ref it) .none env)) [] s := by
  have stat : ∀ {σ' : L2.St} {H' : Hp} {s' : Shared} {pn : List (Addr × Obj)}, Inv (gcx X B s4 H2 env fp) pn σ' H' s' → (∀ b ∈ fp, H' b = none) → (∀ p ∈ pn, ∀ b ∈ fp, p.1 ≠ b) → ∀ b ∈ fp, FpOk (gcx X B s4 H2 env fp) pn H' b := fun {σ' H' s' pn} I' hn hpn b hb =>
    ⟨hn b hb, (I'.ok.exf b hb).1, I'.ok.exfs b hb, .inl hb, fun x c e => (I'.ok.exf b hb).2 x c e, fun p hp => hpn p (by simpa using hp) b hb⟩
  have back : ∀ {σ' : L2.St} {H' : Hp} {s' : Shared} {pn : List (Addr × Obj)}, Inv (gcx X B s4 H2 env fp) pn σ' H' s' → Inv X pins σ H' s' := fun {σ' H' s' pn} I' =>
    I4.call' (ch := fp) I'.os I'.base I'.hok I'.bare fun b hb => ⟨(hfp b hb).1.2.2.2.1, (hfp b hb).1.2.1, (hfp b hb).1.2.2.2.2.1, (hfp b hb).1.2.2.2.2.2⟩
  intro m
  induction m using Nat.strongRecOn with
  | ind m ih =>
    intro i n s₀ s H hmn w I st nf
    have hpn : ∀ p ∈ [(a, go)], ∀ b ∈ fp, p.1 ≠ b := fun p hp b hb z => by
      simp at hp; subst hp
      have h1 := (hfp b hb).2
      have z : a = b := z
      rw [← z] at h1
      exact absurd (Nat.lt_of_lt_of_le h1 ha) (Nat.lt_irrefl _)
    show Seg _ _ _ _ _ s₀ _ ((compTurn (gex elt tg iter ifs scope gpos) 0 (.ref it) .none env).onRaise (leaving env)) [] s
    rw [compTurn_gen, Sem.onRaise_eq_wrap]
    refine seg_bind_wrap (wpAny_standAt ?_)
    rcases TR i m H w with ⟨stop, q⟩ | ⟨gg, Nx, hNx, step⟩
    · refine seg_bind_wrap ?_
      rw [over_gen]
      refine thnF (T.done (gcx X B s4 H2 env fp) rfl rfl rfl hc i _ s _ H (fun _ _ => False) I (stat I nf hpn) st stop) fun r s1 ⟨hr, I1⟩ => ?_
      subst hr
      exact seg_end (.ok .next) ⟨rfl, H, back I1, q⟩
    · refine seg_bind_wrap ?_
      rw [over_gen]
      refine thnF (T.item (gcx X B s4 H2 env fp) rfl rfl rfl hc i _ s _ H (fun _ _ => False) I (stat I nf hpn) st gg) fun r s1 ⟨u, hr, h1⟩ => ?_
      subst hr
      refine seg_bind_wrap ?_
      rw [over_gen]
      refine thnF h1 fun _ s2 ⟨x, H3, I3, r3, y3, st3, n3⟩ => ?_
      have I3' := I3.pinned (stat I3 n3 hpn) (T.obj _ _ st3)
      refine seg_bind_wrap ?_
      rw [over_gen]
      refine thnF (pg.run _ s2 _ H3 x u _ I3' r3 (step x H3 y3)) fun _ s5 ⟨σ5, H5, I5, hw5, q5⟩ => ?_
      refine seg_bind_wrap ?_
      rw [over_gen]
      refine thnF (pt.run _ s5 σ5 H5 _ I5 q5) fun b s6 ⟨H6, I6, q6⟩ => ?_
      have fin : ∀ {s' : Shared} {H' : Hp}, Inv (gcx X B s4 H2 env fp) ([(a, go)] ++ pinsAt fp s2.heap) σ5 H' s' → Nx H' → ∀ (n' : Nat) (s₀' : Shared), m ≤ n' →
          Seg (model X.prog X.w) B (GRb X pins σ End) (GYb X pins σ a g' CONS) n' s₀' (.compLoop (gex elt tg iter ifs scope gpos) 0 (.ref it) .none env) ((model X.prog X.w).den (.compLoop (gex elt tg iter ifs scope gpos) 0 (.ref it) .none env)) [] s' := fun {s' H'} I' nx n' s₀' hn' => by
        obtain ⟨m', hm, w'⟩ := hNx H' nx
        have pin' : ∀ b ∈ fp, ∀ o, s2.heap.get? b = some o → s'.heap.get? b = some o ∧ H' b = none := fun b hb o e =>
          let z := I'.pin (b, o) (List.mem_append_right _ (List.mem_append_right _ (mem_pinsAt hb e)))
          ⟨z.1, z.2.1⟩
        have hl : (wipe σ vs).length = σ5.length := by rw [← hw5, wipe_length]
        refine ih m' hm (i + 1) n' s₀' s' H' (by omega) w' ((I'.unpinned (pins := [(a, go)])).weak hl (fun j v e => ?_)) (T.keep _ _ _ st3 fun b hb o e => (pin' b hb o e).1) fun b hb => ?_
        · rw [← hw5] at e
          exact (wipe_some e).1
        · obtain ⟨o, e, _⟩ := T.obj _ _ st3 b hb
          exact (pin' b hb o e).2
      cases b with
      | false =>
        simp only [Bool.false_eq_true, if_false] at q6 ⊢
        exact seg_again rfl (fin I6 q6 n s₀ (by omega))
      | true =>
        simp only [if_true] at q6 ⊢
        have hy : ∀ v, yieldOut env v = yieldValue v := fun v => by simp only [yieldOut, hco, Bool.false_eq_true, if_false]
        simp only [hy]
        rw [Sem.bind_eq_wrap', Sem.bind_eq_wrap', Sem.wrap_wrap, Sem.wrap_wrap]
        refine seg_wrap ?_
        rw [over_gen]
        refine thnF (pe.run _ s6 σ5 H6 _ I6 q6) fun y s7 ⟨yv, H7, I7, r7, q7⟩ => ?_
        cases n with
        | zero => exact absurd hmn (Nat.not_lt_zero _)
        | succ n =>
          refine seg_at (seg_yield rfl rfl rfl ⟨yv, H7, Nx, back I7, ?_, r7, q7, fun s'' hal nx => ?_⟩)
          · exact hgo _ (I7.pin (a, go) (by simp)).1
          · exact seg_again rfl (fin (Inv.slept I7 hal) nx n s'' (by omega))
end
end Gx

set_option Elab.async false
set_option linter.all false
set_option maxRecDepth 100000
set_option maxHeartbeats 4000000
namespace Gx
open PySem PySem.Spec PyProof.Rows L2
section
variable {X : Cx} {pins : List (Addr × Obj)} {σ : L2.St} {H : Hp} {s : Shared}
theorem sl_gen {g : Nat} {x : GenState} {s1 : Shared} (hb : AllBare s1.gens) (hx : x.bare = true) : Sl s1 (s1.setGen g x) := ⟨rfl, L2.allBare_setGen hb hx, fun _ _ e => e⟩
/-- what all and any do with an item -/
def cB (all : Bool) (Out : Hp → Prop) : V → Hp → (Hp → Prop) → Prop := fun y H Nx => ∃ k, y = .bl k ∧ (if k = all then Nx H else Out H)
theorem running_bare : GenState.bare .running = true := rfl
theorem finished_bare : GenState.bare .finished = true := rfl

theorem all_loop {a : Addr} {g : Nat} {R : Result → Shared → Prop} {End Out : Hp → Prop} {k : Nat} (hr : Room k X.A)
    (hE : ∀ H' s', Inv X pins σ H' s' → End H' → R (.ok (.ret (.bool true))) s') (hO : ∀ H' s', Inv X pins σ H' s' → Out H' → R (.ok (.ret (.bool false))) s') :
    ∀ (n : Nat) (s : Shared), s.heap.IsGen a g → s.heap.NoLimit → (∃ gs, s.gens[g]? = some gs ∧ gs.Goes (model X.prog X.w) X.A.in1.in1 (GRb X pins σ End) (GYb X pins σ a g (cB true Out)) n (.send .none) (s.setGen g .running)) →
      codeAny (model X.prog X.w) X.A (.builtin "all.loop" ⟨[.ref a], []⟩) R s := by
  intro n
  induction n with
  | zero =>
    intro s hg hl ⟨gs, hgs, hgo⟩
    refine codeAny_builtin F.entry_all_loop ?_
    rw [Around.under_plainId F.plain_all_loop _]
    show wpAny _ X.A.in1 (pyNext (.ref a) >>= _) _ _ s
    refine wpAny_bind (wpAny_pyNext_genexpQ (A := X.A.in1) hr.hd hl (by have := hr.dp; show X.A.depth < _; omega) hg hgs hgo (fun v s1 gs' hb hv => ?_) fun s1 hp h' hk => ?_)
    · obtain ⟨y, H4, Nx, I4, hg4, r4, ⟨b, rfl, q⟩, go⟩ := hv
      obtain rfl : v = .bool b := r4
      refine wpAny_bind (wpAny_holding (wpAny_truthy_bool ?_))
      refine wpAny_bind (wpAny_letGo ?_)
      cases b with
      | true => exact (go s1 ⟨rfl, I4.bare, fun _ _ e => e⟩ (by simpa using q)).elim
      | false =>
        rw [if_neg (by simp)] at q
        simp only [Bool.false_eq_true, if_false, if_true]
        exact wpAny_bind (wpAny_rule (wpAny_pure (hO H4 _ (Inv.slept I4 (sl_gen I4.bare hb)) q)))
    · obtain ⟨H4, I4, q⟩ := hp
      refine wpAny_bind (wpAny_rule (wpAny_pure (hE H4 _ ?_ q)))
      exact Inv.slept I4 ⟨rfl, L2.allBare_setGen I4.bare finished_bare, hk⟩
  | succ n ih =>
    intro s hg hl ⟨gs, hgs, hgo⟩
    have hgl : g < s.gens.size := (Array.getElem?_eq_some_iff.mp hgs).1
    refine codeAny_builtin F.entry_all_loop ?_
    rw [Around.under_plainId F.plain_all_loop _]
    show wpAny _ X.A.in1 (pyNext (.ref a) >>= _) _ _ s
    refine wpAny_bind (GenW.wpAny_gsz (n := g + 1) hgl (wpAny_pyNext_genexpQ (A := X.A.in1) hr.hd hl (by have := hr.dp; show X.A.depth < _; omega) hg hgs hgo (fun v s1 gs' hb hv => ?_) fun s1 hp h' hk => ?_))
    · intro hsz
      obtain ⟨y, H4, Nx, I4, hg4, r4, ⟨b, rfl, q⟩, go⟩ := hv
      obtain rfl : v = .bool b := r4
      have hsz1 : g < s1.gens.size := by
        have q : (s1.setGen g gs').gens.size = s1.gens.size := GenW.setGen_size _ _ _
        have hsz' : g + 1 ≤ (s1.setGen g gs').gens.size := hsz
        omega
      refine wpAny_bind (wpAny_holding (wpAny_truthy_bool ?_))
      refine wpAny_bind (wpAny_letGo ?_)
      have I5 := Inv.slept I4 (sl_gen (g := g) I4.bare hb)
      cases b with
      | true =>
        simp only [Bool.false_eq_true, if_false, if_true]
        refine wpAny_pure ⟨plainId_quiet F.plain_all_loop _, ih (s1.setGen g gs') hg4 I5.nolimit ⟨gs', L2.setGen_at hsz1, ?_⟩⟩
        refine go _ ⟨rfl, L2.allBare_setGen (s := s1.setGen g gs') (L2.allBare_setGen I4.bare hb) running_bare, fun _ _ e => e⟩ (by simpa using q)
      | false =>
        rw [if_neg (by simp)] at q
        simp only [Bool.false_eq_true, if_false, if_true]
        exact wpAny_bind (wpAny_rule (wpAny_pure (hO H4 _ I5 q)))
    · intro hsz
      obtain ⟨H4, I4, q⟩ := hp
      refine wpAny_bind (wpAny_rule (wpAny_pure (hE H4 _ ?_ q)))
      exact Inv.slept I4 ⟨rfl, L2.allBare_setGen I4.bare finished_bare, hk⟩
theorem any_loop {a : Addr} {g : Nat} {R : Result → Shared → Prop} {End Out : Hp → Prop} {k : Nat} (hr : Room k X.A)
    (hE : ∀ H' s', Inv X pins σ H' s' → End H' → R (.ok (.ret (.bool false))) s') (hO : ∀ H' s', Inv X pins σ H' s' → Out H' → R (.ok (.ret (.bool true))) s') :
    ∀ (n : Nat) (s : Shared), s.heap.IsGen a g → s.heap.NoLimit → (∃ gs, s.gens[g]? = some gs ∧ gs.Goes (model X.prog X.w) X.A.in1.in1 (GRb X pins σ End) (GYb X pins σ a g (cB false Out)) n (.send .none) (s.setGen g .running)) →
      codeAny (model X.prog X.w) X.A (.builtin "any.loop" ⟨[.ref a], []⟩) R s := by
  intro n
  induction n with
  | zero =>
    intro s hg hl ⟨gs, hgs, hgo⟩
    refine codeAny_builtin F.entry_any_loop ?_
    rw [Around.under_plainId F.plain_any_loop _]
    show wpAny _ X.A.in1 (pyNext (.ref a) >>= _) _ _ s
    refine wpAny_bind (wpAny_pyNext_genexpQ (A := X.A.in1) hr.hd hl (by have := hr.dp; show X.A.depth < _; omega) hg hgs hgo (fun v s1 gs' hb hv => ?_) fun s1 hp h' hk => ?_)
    · obtain ⟨y, H4, Nx, I4, hg4, r4, ⟨b, rfl, q⟩, go⟩ := hv
      obtain rfl : v = .bool b := r4
      refine wpAny_bind (wpAny_holding (wpAny_truthy_bool ?_))
      refine wpAny_bind (wpAny_letGo ?_)
      cases b with
      | false => exact (go s1 ⟨rfl, I4.bare, fun _ _ e => e⟩ (by simpa using q)).elim
      | true =>
        rw [if_neg (by simp)] at q
        simp only [Bool.false_eq_true, if_false, if_true]
        exact wpAny_bind (wpAny_rule (wpAny_pure (hO H4 _ (Inv.slept I4 (sl_gen I4.bare hb)) q)))
    · obtain ⟨H4, I4, q⟩ := hp
      refine wpAny_bind (wpAny_rule (wpAny_pure (hE H4 _ ?_ q)))
      exact Inv.slept I4 ⟨rfl, L2.allBare_setGen I4.bare finished_bare, hk⟩
  | succ n ih =>
    intro s hg hl ⟨gs, hgs, hgo⟩
    have hgl : g < s.gens.size := (Array.getElem?_eq_some_iff.mp hgs).1
    refine codeAny_builtin F.entry_any_loop ?_
    rw [Around.under_plainId F.plain_any_loop _]
    show wpAny _ X.A.in1 (pyNext (.ref a) >>= _) _ _ s
    refine wpAny_bind (GenW.wpAny_gsz (n := g + 1) hgl (wpAny_pyNext_genexpQ (A := X.A.in1) hr.hd hl (by have := hr.dp; show X.A.depth < _; omega) hg hgs hgo (fun v s1 gs' hb hv => ?_) fun s1 hp h' hk => ?_))
    · intro hsz
      obtain ⟨y, H4, Nx, I4, hg4, r4, ⟨b, rfl, q⟩, go⟩ := hv
      obtain rfl : v = .bool b := r4
      have hsz1 : g < s1.gens.size := by
        have q : (s1.setGen g gs').gens.size = s1.gens.size := GenW.setGen_size _ _ _
        have hsz' : g + 1 ≤ (s1.setGen g gs').gens.size := hsz
        omega
      refine wpAny_bind (wpAny_holding (wpAny_truthy_bool ?_))
      refine wpAny_bind (wpAny_letGo ?_)
      have I5 := Inv.slept I4 (sl_gen (g := g) I4.bare hb)
      cases b with
      | false =>
        simp only [Bool.false_eq_true, if_false, if_true]
        refine wpAny_pure ⟨plainId_quiet F.plain_any_loop _, ih (s1.setGen g gs') hg4 I5.nolimit ⟨gs', L2.setGen_at hsz1, ?_⟩⟩
        refine go _ ⟨rfl, L2.allBare_setGen (s := s1.setGen g gs') (L2.allBare_setGen I4.bare hb) running_bare, fun _ _ e => e⟩ (by simpa using q)
      | true =>
        rw [if_neg (by simp)] at q
        simp only [Bool.false_eq_true, if_false, if_true]
        exact wpAny_bind (wpAny_rule (wpAny_pure (hO H4 _ I5 q)))
    · intro hsz
      obtain ⟨H4, I4, q⟩ := hp
      refine wpAny_bind (wpAny_rule (wpAny_pure (hE H4 _ ?_ q)))
      exact Inv.slept I4 ⟨rfl, L2.allBare_setGen I4.bare finished_bare, hk⟩
/-- the reading: behind it the def's table of code may have grown -/
def tGenB (K : PySem.W.Frag) (P : Addr) (all no : Bool) (wi : TI) (g : TG) (tt : TT) (te : TE) (vs : List Nat) : TE := fun σ H Q => wi σ H fun J H1 => GxR.TabG H1 P ∧ ∀ H2, GxR.Tabbed P H1 H2 →
  ∃ W : Nat → Nat → Hp → Prop, (∃ m, W 0 m H2) ∧ TurnR K J g tt te σ vs (cB all fun H => Q (.bl no) H) W fun H => Q (.bl all) H
/-- all(elt for tg in iter if ..) -/
theorem pe_genall {c P : Addr} {elt tg iter : Expr} {ifs : List Expr} {scope : Scope} {own : List (Str × Nat)} {gpos p pos : Pos} {wi : TI} {g : TG} {tt : L2.TT} {te : TE} {k : Nat}
    (hr : Room k X.A) (hc : X.calm = true) (hN : X.N.Nodup) (hgl : Gl X "all") (hm : X.mg "all" = none) (TB : GxR.TabB X.base X.mg c P) (hcode : X.env.code = .ref c) (ok : BlkOk X.N X.env.scope scope own) (ncell : ∀ y ∈ scope.names, y.2 ≠ .cell)
    (hco : scope.isCoroutine = false) (dot : scope.names.lookup (".0" : Str) = some NameKind.local) (hi : PI X tg iter wi)
    (hg : ∀ (s : Shared) (H : Hp) (C : Addr) (code : Value) (fp : List Addr), PG (gcx X X.A.in1.in1 s H (genv X scope C code builtinsNs) fp) tg g)
    (ht : ∀ (s : Shared) (H : Hp) (C : Addr) (code : Value) (fp : List Addr), PTs (gcx X X.A.in1.in1 s H (genv X scope C code builtinsNs) fp) ifs tt)
    (he : ∀ (s : Shared) (H : Hp) (C : Addr) (code : Value) (fp : List Addr), PE (gcx X X.A.in1.in1 s H (genv X scope C code builtinsNs) fp) elt te)
    (hs : ∀ v, genFold iter X.env v = pure v := by intro _; rfl)
    (hst : starEach [gex elt tg iter ifs scope gpos] X.env = (false, eval (gex elt tg iter ifs scope gpos) X.env) :: starEach [] X.env := by rfl) :
    PE X (.Call (.Name "all" p) [gex elt tg iter ifs scope gpos] [] pos) (tGenB X.K P true false wi g tt te (own.map (·.2))) := by
  refine ⟨fun pins s σ H Q I h => ?_⟩
  refine wpAny_Call_Name_kw (ld_blt I hgl hm (by rfl : bootBuiltins "all" = some (.builtin "all")) ?_)
  refine PyProof.Rows.callWith_builtin1 ?_ hst (by rfl)
  rw [hst]
  show wpAny _ _ (spliced ((false, eval (gex elt tg iter ifs scope gpos) X.env) :: backTo pos (starEach [] X.env))) _ _ s
  have free : ∀ y ∈ scope.names, y.2 = .free → ∃ c, X.env.cells.lookup y.1 = some c := fun y hy e => by
    rcases ok.free y hy e with k | k
    · exact I.ok.has _ (.inl k)
    · exact I.ok.has _ (.inr k)
  refine Calls.spliced_cons (gen_make (R := fun J H1 => ∀ H2, GxR.Tabbed P H1 H2 → ∃ W : Nat → Nat → Hp → Prop, (∃ m, W 0 m H2) ∧ TurnR X.K J g tt te σ (own.map (fun (q : Str × Nat) => q.2)) (cB true fun H => Q (.bl false) H) W fun H => Q (.bl true) H)
    hr TB hcode free ncell hco ok.kind dot hi hs I h fun J H1 H2 a s5 it fp tn code gi s4 hR hT F => ?_)
  obtain ⟨W, ⟨m, w0⟩, TR⟩ := hR H2 hT
  refine Calls.spliced_nil ?_
  refine call_function_tree PySem.F.kind_all PySem.F.plain_all PySem.F.entry_all (PySem.F.args_all1 _) ?_
  unfold Builtin.«all»
  refine wpAny_bind (m := oneArg "all" _) (wpAny_pure ?_)
  refine wpAny_bind (wpAny_pyIter_gen F.isg ?_)
  obtain ⟨o, nm, qn, ho, hcl, hd, hsl⟩ := id F.isg
  have hgo : ∀ h : Heap, h.get? a = some o → h.IsGen a gi := fun h e => ⟨o, nm, qn, e, hcl, hd, hsl⟩
  have na : H2 a = none := F.inv.hok.fresh F.new
  have nal : a ≠ s4.heap.objs.size := fun z => by
    obtain ⟨of, es, ep, hof, hdf, _⟩ := F.ns
    rw [← z, ho] at hof
    cases hof
    rw [hd] at hdf
    cases hdf
  have start : ∀ s', Sl s5 s' → Inv (gcx X X.A.in1.in1 s4 H2 (genv X scope s4.heap.objs.size code builtinsNs) fp) [(a, o)] (wipe σ (own.map (·.2))) H2 s' := fun s' z => by
    have I0 := gen_start (fp := fp) (code := code) (it := .ref it) (bi := builtinsNs) (h' := s'.heap) (G := s'.gens) (t := s'.toks) F.inv hc hN ok ncell F.fps rfl (fun b o e => z.keep b o (F.kp b o e)) (F.ns.keeps z.keep) z.bare (B := X.A.in1.in1) rfl rfl
    have I1 := Inv.slept I0 (s' := s') ⟨z.os.trans F.os, z.bare, fun _ _ e => e⟩
    exact I1.pins_of fun p hp => by
      simp at hp; subst hp
      refine ⟨z.keep _ _ ho, na, nal, fun hm => ?_, fun v q => by rw [hd] at q; cases q⟩
      exact F.inv.nofs F.new ((List.mem_cons.mp (F.inv.stkSub a hm)).elim (fun e => absurd F.inv.lt (by rw [← e]; exact Nat.not_lt.mpr F.new)) id)
  have hIX : Inv X pins σ H2 s5 := Inv.slept F.inv ⟨F.os, F.bare, F.kp⟩
  refine wpAny_pure ⟨plainId_quiet PySem.F.plain_all_loop _, all_loop (X := X) (pins := pins) (σ := σ) (End := fun H => Q (.bl true) H) (Out := fun H => Q (.bl false) H) hr (fun H' s' I' q => ⟨.bl true, H', I', rfl, q⟩) (fun H' s' I' q => ⟨.bl false, H', I', rfl, q⟩)
    (m + 1) s5 F.isg hIX.nolimit ⟨_, F.gen, rfl, ?_⟩⟩
  have z0 : Sl s5 (s5.setGen gi .running) := sl_gen F.bare running_bare
  have I9 := start _ z0
  have st9 : tn 0 (s5.setGen gi .running).heap := F.turn.keep _ _ _ F.at0 fun b _ o e => F.kp b o e
  have loop := gen_seg (elt := elt) (iter := iter) (ifs := ifs) (scope := scope) (gpos := gpos) (g' := gi) (env := genv X scope s4.heap.objs.size code builtinsNs) hc hco F.inv F.fps F.turn (hg s4 H2 s4.heap.objs.size code fp) (ht s4 H2 s4.heap.objs.size code fp) (he s4 H2 s4.heap.objs.size code fp) TR hgo F.new m 0 (m + 1)
    (s5.setGen gi .running) (s5.setGen gi .running) H2 (Nat.lt_succ_self _) w0 I9 st9 fun b hb => (F.fps b hb).1.1
  show Seg _ _ _ _ _ _ _ ((compStart (gex elt tg iter ifs scope gpos) 0 (.ref it) .none (genv X scope s4.heap.objs.size code builtinsNs)).onRaise (leaving _)) [] _
  unfold compStart
  rw [Sem.onRaise_eq_wrap]
  show Seg _ _ _ _ _ _ _ ((ask >>= _).wrap _ _ _ _) [] _
  refine seg_bind_wrap (wpAny_askSetting ?_)
  split
  · exact seg_again rfl loop
  · refine seg_bind_wrap (wpAny_rule ?_)
    show Seg _ _ _ _ _ _ _ ((standAt iter.pos >>= _).wrap _ _ _ _) [] _
    exact seg_bind_wrap (wpAny_standAt (seg_bind_wrap (F.turn.self _ 0 _ _ _ st9 (seg_again rfl loop))))
/-- any(elt for tg in iter if ..) -/
theorem pe_genany {c P : Addr} {elt tg iter : Expr} {ifs : List Expr} {scope : Scope} {own : List (Str × Nat)} {gpos p pos : Pos} {wi : TI} {g : TG} {tt : L2.TT} {te : TE} {k : Nat}
    (hr : Room k X.A) (hc : X.calm = true) (hN : X.N.Nodup) (hgl : Gl X "any") (hm : X.mg "any" = none) (TB : GxR.TabB X.base X.mg c P) (hcode : X.env.code = .ref c) (ok : BlkOk X.N X.env.scope scope own) (ncell : ∀ y ∈ scope.names, y.2 ≠ .cell)
    (hco : scope.isCoroutine = false) (dot : scope.names.lookup (".0" : Str) = some NameKind.local) (hi : PI X tg iter wi)
    (hg : ∀ (s : Shared) (H : Hp) (C : Addr) (code : Value) (fp : List Addr), PG (gcx X X.A.in1.in1 s H (genv X scope C code builtinsNs) fp) tg g)
    (ht : ∀ (s : Shared) (H : Hp) (C : Addr) (code : Value) (fp : List Addr), PTs (gcx X X.A.in1.in1 s H (genv X scope C code builtinsNs) fp) ifs tt)
    (he : ∀ (s : Shared) (H : Hp) (C : Addr) (code : Value) (fp : List Addr), PE (gcx X X.A.in1.in1 s H (genv X scope C code builtinsNs) fp) elt te)
    (hs : ∀ v, genFold iter X.env v = pure v := by intro _; rfl)
    (hst : starEach [gex elt tg iter ifs scope gpos] X.env = (false, eval (gex elt tg iter ifs scope gpos) X.env) :: starEach [] X.env := by rfl) :
    PE X (.Call (.Name "any" p) [gex elt tg iter ifs scope gpos] [] pos) (tGenB X.K P false true wi g tt te (own.map (·.2))) := by
  refine ⟨fun pins s σ H Q I h => ?_⟩
  refine wpAny_Call_Name_kw (ld_blt I hgl hm (by rfl : bootBuiltins "any" = some (.builtin "any")) ?_)
  refine PyProof.Rows.callWith_builtin1 ?_ hst (by rfl)
  rw [hst]
  show wpAny _ _ (spliced ((false, eval (gex elt tg iter ifs scope gpos) X.env) :: backTo pos (starEach [] X.env))) _ _ s
  have free : ∀ y ∈ scope.names, y.2 = .free → ∃ c, X.env.cells.lookup y.1 = some c := fun y hy e => by
    rcases ok.free y hy e with k | k
    · exact I.ok.has _ (.inl k)
    · exact I.ok.has _ (.inr k)
  refine Calls.spliced_cons (gen_make (R := fun J H1 => ∀ H2, GxR.Tabbed P H1 H2 → ∃ W : Nat → Nat → Hp → Prop, (∃ m, W 0 m H2) ∧ TurnR X.K J g tt te σ (own.map (fun (q : Str × Nat) => q.2)) (cB false fun H => Q (.bl true) H) W fun H => Q (.bl false) H)
    hr TB hcode free ncell hco ok.kind dot hi hs I h fun J H1 H2 a s5 it fp tn code gi s4 hR hT F => ?_)
  obtain ⟨W, ⟨m, w0⟩, TR⟩ := hR H2 hT
  refine Calls.spliced_nil ?_
  refine call_function_tree PySem.F.kind_any PySem.F.plain_any PySem.F.entry_any (PySem.F.args_any1 _) ?_
  unfold Builtin.«any»
  refine wpAny_bind (m := oneArg "any" _) (wpAny_pure ?_)
  refine wpAny_bind (wpAny_pyIter_gen F.isg ?_)
  obtain ⟨o, nm, qn, ho, hcl, hd, hsl⟩ := id F.isg
  have hgo : ∀ h : Heap, h.get? a = some o → h.IsGen a gi := fun h e => ⟨o, nm, qn, e, hcl, hd, hsl⟩
  have na : H2 a = none := F.inv.hok.fresh F.new
  have nal : a ≠ s4.heap.objs.size := fun z => by
    obtain ⟨of, es, ep, hof, hdf, _⟩ := F.ns
    rw [← z, ho] at hof
    cases hof
    rw [hd] at hdf
    cases hdf
  have start : ∀ s', Sl s5 s' → Inv (gcx X X.A.in1.in1 s4 H2 (genv X scope s4.heap.objs.size code builtinsNs) fp) [(a, o)] (wipe σ (own.map (·.2))) H2 s' := fun s' z => by
    have I0 := gen_start (fp := fp) (code := code) (it := .ref it) (bi := builtinsNs) (h' := s'.heap) (G := s'.gens) (t := s'.toks) F.inv hc hN ok ncell F.fps rfl (fun b o e => z.keep b o (F.kp b o e)) (F.ns.keeps z.keep) z.bare (B := X.A.in1.in1) rfl rfl
    have I1 := Inv.slept I0 (s' := s') ⟨z.os.trans F.os, z.bare, fun _ _ e => e⟩
    exact I1.pins_of fun p hp => by
      simp at hp; subst hp
      refine ⟨z.keep _ _ ho, na, nal, fun hm => ?_, fun v q => by rw [hd] at q; cases q⟩
      exact F.inv.nofs F.new ((List.mem_cons.mp (F.inv.stkSub a hm)).elim (fun e => absurd F.inv.lt (by rw [← e]; exact Nat.not_lt.mpr F.new)) id)
  have hIX : Inv X pins σ H2 s5 := Inv.slept F.inv ⟨F.os, F.bare, F.kp⟩
  refine wpAny_pure ⟨plainId_quiet PySem.F.plain_any_loop _, any_loop (X := X) (pins := pins) (σ := σ) (End := fun H => Q (.bl false) H) (Out := fun H => Q (.bl true) H) hr (fun H' s' I' q => ⟨.bl false, H', I', rfl, q⟩) (fun H' s' I' q => ⟨.bl true, H', I', rfl, q⟩)
    (m + 1) s5 F.isg hIX.nolimit ⟨_, F.gen, rfl, ?_⟩⟩
  have z0 : Sl s5 (s5.setGen gi .running) := sl_gen F.bare running_bare
  have I9 := start _ z0
  have st9 : tn 0 (s5.setGen gi .running).heap := F.turn.keep _ _ _ F.at0 fun b _ o e => F.kp b o e
  have loop := gen_seg (elt := elt) (iter := iter) (ifs := ifs) (scope := scope) (gpos := gpos) (g' := gi) (env := genv X scope s4.heap.objs.size code builtinsNs) hc hco F.inv F.fps F.turn (hg s4 H2 s4.heap.objs.size code fp) (ht s4 H2 s4.heap.objs.size code fp) (he s4 H2 s4.heap.objs.size code fp) TR hgo F.new m 0 (m + 1)
    (s5.setGen gi .running) (s5.setGen gi .running) H2 (Nat.lt_succ_self _) w0 I9 st9 fun b hb => (F.fps b hb).1.1
  show Seg _ _ _ _ _ _ _ ((compStart (gex elt tg iter ifs scope gpos) 0 (.ref it) .none (genv X scope s4.heap.objs.size code builtinsNs)).onRaise (leaving _)) [] _
  unfold compStart
  rw [Sem.onRaise_eq_wrap]
  show Seg _ _ _ _ _ _ _ ((ask >>= _).wrap _ _ _ _) [] _
  refine seg_bind_wrap (wpAny_askSetting ?_)
  split
  · exact seg_again rfl loop
  · refine seg_bind_wrap (wpAny_rule ?_)
    show Seg _ _ _ _ _ _ _ ((standAt iter.pos >>= _).wrap _ _ _ _) [] _
    exact seg_bind_wrap (wpAny_standAt (seg_bind_wrap (F.turn.self _ 0 _ _ _ st9 (seg_again rfl loop))))
end
end Gx

set_option Elab.async false
set_option linter.all false
set_option maxRecDepth 100000
set_option maxHeartbeats 4000000
namespace Gx
open PySem PySem.Spec PyProof.Rows L2
open PySem.AutoSeq1 (wpAny_loadPart')
/-- one walk of the source; ys: what came so far -/
def TurnL (K : PySem.W.Frag) (J : It) (g : TG) (tt : TT) (te : TE) (σ : L2.St) (vs : List Nat) (W : Nat → Nat → List V → Hp → Prop) (End : List V → Hp → Prop) : Prop :=
  ∀ i m ys H, W i m ys H → (J.stop i H ∧ End ys H) ∨ (J.go i H ∧ ∃ Nx : List V → Hp → Prop, (∀ zs H', Nx zs H' → ∃ m', m' < m ∧ W (i + 1) m' zs H') ∧ ∀ x H', J.yld i H x H' →
    g x (wipe σ vs) H' fun σ2 H2 => wipe σ2 vs = wipe σ vs ∧ tt σ2 H2 fun b H3 => if b = true then te σ2 H3 fun y H4 => Nx (ys ++ [y]) H4 else Nx ys H3)
section
variable {X : Cx} {pins : List (Addr × Obj)} {σ : L2.St} {H : Hp} {s : Shared}
def GYl (X : Cx) (pins : List (Addr × Obj)) (σ : L2.St) (a S : Addr) (g : Nat) : Protocol := fun _ _ v s1 kap =>
  ∃ y ys H4 acc c, Inv X pins σ H4 s1 ∧ s1.heap.IsGen a g ∧ RelV y v ∧ s1.heap.get? S = some (lstObj acc c) ∧ Vals ys acc.toList ∧ ys.length < sizeLine ∧ ∀ s', Slept S v s1 s' → kap (.send .none) s'
def GRl (X : Cx) (pins : List (Addr × Obj)) (σ : L2.St) (S : Addr) (End : List V → Hp → Prop) : GenEnd := fun _ _ r s1 => r = .ok .next ∧
  ∃ ys H' acc c, Inv X pins σ H' s1 ∧ s1.heap.get? S = some (lstObj acc c) ∧ Vals ys acc.toList ∧ H' S = none ∧ ys.length ≤ sizeLine ∧ End ys H'
/-- woken, the consumer's list one item longer -/
theorem Inv.woken {pn pn' : List (Addr × Obj)} {S : Addr} {v : Value} {s' : Shared} (I : Inv X pn σ H s) (z : Slept S v s s') (hSn : H S = none) (h0 : X.s_0.heap.objs.size ≤ S) (hL : S ≠ X.env.locals) (hC : ∀ x c, X.env.cells.lookup x = some c → c ≠ S)
    (h1 : ∀ p ∈ X.pn ++ pn, p.1 ≠ S) (hS2 : S ∉ X.fs) : Inv X pn σ H s' := by
  obtain ⟨hh, g, d, t, o⟩ := s'
  obtain ⟨z1, z2, z3, z4⟩ := z
  have ho : o = s.os := z1
  subst ho
  have nc : ∀ b, b ∉ [S] → b ≠ S := fun b hb e => hb (by rw [e]; exact List.mem_singleton.mpr rfl)
  have nt : ∀ b u, H b = some u → b ≠ S := fun b u q hb => by rw [hb, hSn] at q; cases q
  refine I.step (g' := g) (t' := t) (d' := d) (ch := [S]) (fun b hb => ?_)
      (fun b ob _ _ hc q _ => z3 b ob (nc b hc) q) (fun b ob _ _ hc q _ => ⟨ob.slots, z3 b ob (nc b hc) q⟩) (fun _ _ _ _ n => n) (fun b ob hc q => ⟨ob, z3 b ob (nc b hc) q⟩)
      (fun _ _ q => q) (fun _ _ _ q => q) (fun b ps q => ⟨#[], by rw [q]; simp⟩) (fun m hm => ?_) (fun b u q => ?_) z2
  · rw [List.mem_singleton.mp hb]
    exact ⟨.inr h0, hL, hC, h1⟩
  · obtain ⟨ob, es, ep, ho, r⟩ := hm
    exact ⟨ob, es, ep, z3 _ ob (Ne.symm hL) ho, r⟩
  · refine (I.hok b u q).stay (fun c v hc y => z3 c v ?_ y) (fun _ y => y) fun _ _ y => y
    rcases hc with y | y
    · rw [y]; exact nt b u q
    · exact nt c _ y

theorem gen_segL {elt tg iter : Expr} {ifs : List Expr} {scope : Scope} {gpos : Pos} {J : It} {fp : List Addr} {it a S : Addr} {g' : Nat} {go : Obj} {tn : Nat → Heap → Prop} {g : TG} {tt : TT} {te : TE} {vs : List Nat} {s4 : Shared} {H2 : Hp} {env : PySem.Env} {B : Around}
    {W : Nat → Nat → List V → Hp → Prop} {End : List V → Hp → Prop}
    (hc : X.calm = true) (hco : env.scope.isCoroutine = false) (I4 : Inv X pins σ H2 s4) (hfp : ∀ b ∈ fp, FpOk X pins H2 b ∧ b < s4.heap.objs.size) (T : Turn X.prog X.w X.K tg J fp it tn)
    (pg : PG (gcx X B s4 H2 env fp) tg g) (pt : PTs (gcx X B s4 H2 env fp) ifs tt) (pe : PE (gcx X B s4 H2 env fp) elt te) (TR : TurnL X.K J g tt te σ vs W End) (hgo : ∀ h : Heap, h.get? a = some go → h.IsGen a g') (ha : s4.heap.objs.size ≤ a)
    (hS : s4.heap.objs.size ≤ S) (hSa : S ≠ a) (hSL : S ≠ env.locals) (hSC : ∀ x c, env.cells.lookup x = some c → c ≠ S) (hSf : S ∉ frs X.stack) :
    ∀ (m i n : Nat) (s₀ s : Shared) (H : Hp) (ys : List V) (acc : Array Value) (c : Nat), m < n → ys.length + n ≤ sizeLine → W i m ys H → Vals ys acc.toList → Inv (gcx X B s4 H2 env fp) [(a, go), (S, lstObj acc c)] (wipe σ vs) H s → tn i s.heap → (∀ b ∈ fp, H b = none) →
      Seg (model X.prog X.w) B (GRl X pins σ S End) (GYl X pins σ a S g') n s₀ (.compLoop (gex elt tg iter ifs scope gpos) 0 (.ref it) .none env)
        ((model X.prog X.w).den (.compLoop (gex elt tg iter ifs scope gpos) 0 (.ref it) .none env)) [] s := by
  have stat : ∀ {σ' : L2.St} {H' : Hp} {s' : Shared} {pn : List (Addr × Obj)}, Inv (gcx X B s4 H2 env fp) pn σ' H' s' → (∀ b ∈ fp, H' b = none) → (∀ p ∈ pn, ∀ b ∈ fp, p.1 ≠ b) → ∀ b ∈ fp, FpOk (gcx X B s4 H2 env fp) pn H' b := fun {σ' H' s' pn} I' hn hpn b hb =>
    ⟨hn b hb, (I'.ok.exf b hb).1, I'.ok.exfs b hb, .inl hb, fun x c e => (I'.ok.exf b hb).2 x c e, fun p hp => hpn p (by simpa using hp) b hb⟩
  have back : ∀ {σ' : L2.St} {H' : Hp} {s' : Shared} {pn : List (Addr × Obj)}, Inv (gcx X B s4 H2 env fp) pn σ' H' s' → Inv X pins σ H' s' := fun {σ' H' s' pn} I' =>
    I4.call' (ch := fp) I'.os I'.base I'.hok I'.bare fun b hb => ⟨(hfp b hb).1.2.2.2.1, (hfp b hb).1.2.1, (hfp b hb).1.2.2.2.2.1, (hfp b hb).1.2.2.2.2.2⟩
  have hSfp : ∀ b ∈ fp, S ≠ b := fun b hb z => absurd (Nat.lt_of_lt_of_le (show S < _ by rw [z]; exact (hfp b hb).2) hS) (Nat.lt_irrefl _)
  have hafp : ∀ b ∈ fp, a ≠ b := fun b hb z => absurd (Nat.lt_of_lt_of_le (show a < _ by rw [z]; exact (hfp b hb).2) ha) (Nat.lt_irrefl _)
  intro m
  induction m using Nat.strongRecOn with
  | ind m ih =>
    intro i n s₀ s H ys acc c hmn hlen w hv I st nf
    have hpn : ∀ p ∈ [(a, go), (S, lstObj acc c)], ∀ b ∈ fp, p.1 ≠ b := fun p hp b hb => by
      simp at hp
      rcases hp with rfl | rfl
      · exact hafp b hb
      · exact hSfp b hb
    show Seg _ _ _ _ _ s₀ _ ((compTurn (gex elt tg iter ifs scope gpos) 0 (.ref it) .none env).onRaise (leaving env)) [] s
    rw [compTurn_gen, Sem.onRaise_eq_wrap]
    refine seg_bind_wrap (wpAny_standAt ?_)
    rcases TR i m ys H w with ⟨stop, q⟩ | ⟨gg, Nx, hNx, step⟩
    · refine seg_bind_wrap ?_
      rw [over_gen]
      refine thnF (T.done (gcx X B s4 H2 env fp) rfl rfl rfl hc i _ s _ H (fun _ _ => False) I (stat I nf hpn) st stop) fun r s1 ⟨hr, I1⟩ => ?_
      subst hr
      have pS := I1.pin (S, lstObj acc c) (by simp)
      exact seg_end (.ok .next) ⟨rfl, ys, H, acc, c, back I1, pS.1, hv, pS.2.1, by omega, q⟩
    · refine seg_bind_wrap ?_
      rw [over_gen]
      refine thnF (T.item (gcx X B s4 H2 env fp) rfl rfl rfl hc i _ s _ H (fun _ _ => False) I (stat I nf hpn) st gg) fun r s1 ⟨u, hr, h1⟩ => ?_
      subst hr
      refine seg_bind_wrap ?_
      rw [over_gen]
      refine thnF h1 fun _ s2 ⟨x, H3, I3, r3, y3, st3, n3⟩ => ?_
      have I3' := I3.pinned (stat I3 n3 hpn) (T.obj _ _ st3)
      refine seg_bind_wrap ?_
      rw [over_gen]
      refine thnF (pg.run _ s2 _ H3 x u _ I3' r3 (step x H3 y3)) fun _ s5 ⟨σ5, H5, I5, hw5, q5⟩ => ?_
      refine seg_bind_wrap ?_
      rw [over_gen]
      refine thnF (pt.run _ s5 σ5 H5 _ I5 q5) fun b s6 ⟨H6, I6, q6⟩ => ?_
      have fin : ∀ {s' : Shared} {H' : Hp} {zs : List V} {acc' : Array Value} {c' : Nat}, Inv (gcx X B s4 H2 env fp) ([(a, go), (S, lstObj acc' c')] ++ pinsAt fp s2.heap) σ5 H' s' → Nx zs H' → Vals zs acc'.toList → ∀ (n' : Nat) (s₀' : Shared), m ≤ n' → zs.length + n' ≤ sizeLine →
          Seg (model X.prog X.w) B (GRl X pins σ S End) (GYl X pins σ a S g') n' s₀' (.compLoop (gex elt tg iter ifs scope gpos) 0 (.ref it) .none env) ((model X.prog X.w).den (.compLoop (gex elt tg iter ifs scope gpos) 0 (.ref it) .none env)) [] s' := fun {s' H' zs acc' c'} I' nx hv' n' s₀' hn' hl' => by
        obtain ⟨m', hm, w'⟩ := hNx zs H' nx
        have pin' : ∀ b ∈ fp, ∀ o, s2.heap.get? b = some o → s'.heap.get? b = some o ∧ H' b = none := fun b hb o e =>
          let z := I'.pin (b, o) (List.mem_append_right _ (List.mem_append_right _ (mem_pinsAt hb e)))
          ⟨z.1, z.2.1⟩
        have hl : (wipe σ vs).length = σ5.length := by rw [← hw5, wipe_length]
        refine ih m' hm (i + 1) n' s₀' s' H' zs acc' c' (by omega) hl' w' hv' ((I'.unpinned (pins := [(a, go), (S, lstObj acc' c')])).weak hl (fun j v e => ?_)) (T.keep _ _ _ st3 fun b hb o e => (pin' b hb o e).1) fun b hb => ?_
        · rw [← hw5] at e
          exact (wipe_some e).1
        · obtain ⟨o, e, _⟩ := T.obj _ _ st3 b hb
          exact (pin' b hb o e).2
      cases b with
      | false =>
        simp only [Bool.false_eq_true, if_false] at q6 ⊢
        exact seg_again rfl (fin I6 q6 hv n s₀ (by omega) hlen)
      | true =>
        simp only [if_true] at q6 ⊢
        have hy : ∀ v, yieldOut env v = yieldValue v := fun v => by simp only [yieldOut, hco, Bool.false_eq_true, if_false]
        simp only [hy]
        rw [Sem.bind_eq_wrap', Sem.bind_eq_wrap', Sem.wrap_wrap, Sem.wrap_wrap]
        refine seg_wrap ?_
        rw [over_gen]
        refine thnF (pe.run _ s6 σ5 H6 _ I6 q6) fun y s7 ⟨yv, H7, I7, r7, q7⟩ => ?_
        cases n with
        | zero => exact absurd hmn (Nat.not_lt_zero _)
        | succ n =>
          have pS := I7.pin (S, lstObj acc c) (by simp)
          refine seg_at (seg_yield rfl rfl rfl ⟨yv, ys, H7, acc, c, back I7, hgo _ (I7.pin (a, go) (by simp)).1, r7, pS.1, hv, by omega, fun s'' hal => ?_⟩)
          obtain ⟨c', eS'⟩ := hal.own acc c pS.1
          have I8 : Inv (gcx X B s4 H2 env fp) ([(a, go)] ++ pinsAt fp s2.heap) σ5 H7 s7 := I7.pins_of fun p hp => I7.pin p (by
            have hp : p ∈ [(a, go)] ++ pinsAt fp s2.heap := hp
            show p ∈ ([] : List (Addr × Obj)) ++ ([(a, go), (S, lstObj acc c)] ++ pinsAt fp s2.heap)
            simp at hp ⊢
            rcases hp with hp | hp
            · exact .inl hp
            · exact .inr (.inr hp))
          have I9 := Inv.woken (pn' := []) I8 hal pS.2.1 hS hSL hSC (fun p hp => by
            have hp : p ∈ ([] : List (Addr × Obj)) ++ ([(a, go)] ++ pinsAt fp s2.heap) := hp
            simp at hp
            rcases hp with rfl | hp
            · exact Ne.symm hSa
            · exact fun z => hSfp _ (of_pinsAt hp).1 z.symm) hSf
          have I10 : Inv (gcx X B s4 H2 env fp) ([(a, go), (S, lstObj (acc.push y) c')] ++ pinsAt fp s2.heap) σ5 H7 s'' := I9.pins_of fun p hp => by
            simp at hp
            rcases hp with rfl | rfl | hp
            · exact I9.pin (a, go) (by simp)
            · exact ⟨eS', pS.2.1, hSL, hSf, fun v q => by cases q⟩
            · exact I9.pin p (by simp [hp])
          refine seg_again rfl (fin I10 q7 ?_ n s'' (by omega) (by rw [List.length_append]; simp; omega))
          rw [Array.toList_push]
          exact hv.append (.cons r7 .nil)
theorem extend_loopG {A : Around} {a S : Addr} {g : Nat} {R : Result → Shared → Prop} {End : List V → Hp → Prop} {res : Value} (hh : A.handled = none) (hd : A.depth < recursionLimit) (hSa : S ≠ a) (hSc : S ≠ cStatics)
    (hE : ∀ H' s' ys acc c, Inv X pins σ H' s' → s'.heap.get? S = some (lstObj acc c) → Vals ys acc.toList → H' S = none → ys.length ≤ sizeLine → End ys H' → R (.ok (.ret res)) s') :
    ∀ (n : Nat) (s : Shared), s.heap.IsGen a g → s.heap.NoLimit → (∃ gs, s.gens[g]? = some gs ∧ gs.Goes (model X.prog X.w) A.in1.in1 (GRl X pins σ S End) (GYl X pins σ a S g) n (.send .none) (s.setGen g .running)) →
      codeAny (model X.prog X.w) A (.builtin "list.extend.loop" ⟨[.ref S, .ref a, res], []⟩) R s := by
  intro n
  induction n with
  | zero =>
    intro s hg hl ⟨gs, hgs, hgo⟩
    refine codeAny_builtin F.entry_extend_loop ?_
    rw [Around.under_plainId F.plain_extend_loop _]
    show wpAny _ A.in1 (pyNext (.ref a) >>= _) _ _ s
    refine wpAny_bind (wpAny_pyNext_genexpQ (A := A.in1) hh hl hd hg hgs hgo (fun v s1 gs' hb hv => ?_) fun s1 hp h' hk => ?_)
    · obtain ⟨y, ys, H4, acc, c, I4, hg4, r4, hS, hv, hlt, go⟩ := hv
      exact (go _ (Slept.push (G := s1.gens) hS I4.bare)).elim
    · obtain ⟨ys, H4, acc, c, I4, hS, hv, hn, hle, q⟩ := hp
      exact wpAny_pure (hE H4 _ ys acc c (Inv.slept I4 ⟨rfl, L2.allBare_setGen I4.bare finished_bare, hk⟩) (hk _ _ hS) hv hn hle q)
  | succ n ih =>
    intro s hg hl ⟨gs, hgs, hgo⟩
    have hgl : g < s.gens.size := (Array.getElem?_eq_some_iff.mp hgs).1
    refine codeAny_builtin F.entry_extend_loop ?_
    rw [Around.under_plainId F.plain_extend_loop _]
    show wpAny _ A.in1 (pyNext (.ref a) >>= _) _ _ s
    refine wpAny_bind (GenW.wpAny_gsz (n := g + 1) hgl (wpAny_pyNext_genexpQ (A := A.in1) hh hl hd hg hgs hgo (fun v s1 gs' hb hv => ?_) fun s1 hp h' hk => ?_))
    · intro hsz
      obtain ⟨y, ys, H4, acc, c, I4, hg4, r4, hS, hv, hlt, go⟩ := hv
      have hsz1 : g < s1.gens.size := by
        have q : (s1.setGen g gs').gens.size = s1.gens.size := GenW.setGen_size _ _ _
        have hsz' : g + 1 ≤ (s1.setGen g gs').gens.size := hsz
        omega
      have hal : acc.size < sizeLine := by
        have := hv.length
        simp at this; omega
      show wpAny _ A.in1 (updateSeq S (·.push v) >>= _) _ _ _
      refine wpAny_bind ?_
      refine wpAny_updateSeq (s := s1.setGen g gs') hS rfl (wpAny_pure ⟨plainId_quiet F.plain_extend_loop _, ?_⟩) (Nat.le_of_lt hal) (by show (acc.push v).size ≤ sizeLine + 1; rw [Array.size_push]; omega)
      have keep3 : ∀ b o, b ≠ S → s1.heap.get? b = some o → (s1.heap.update S (Obj.mapSeq (·.push v))).get? b = some o := fun b o hbS e => (Heap.get?_update_other _ _ (Ne.symm hbS)).trans e
      refine ih { s1.setGen g gs' with heap := s1.heap.update S (Obj.mapSeq (·.push v)) } ?_ ?_ ⟨gs', L2.setGen_at hsz1, ?_⟩
      · obtain ⟨o, nm, qn, ho, r⟩ := hg4
        exact ⟨o, nm, qn, keep3 a o (Ne.symm hSa) ho, r⟩
      · obtain ⟨mc, hns, hnn⟩ := I4.nolimit
        exact ⟨mc, hns.at' fun o e => keep3 _ o (Ne.symm hSc) e, hnn⟩
      · exact go _ (Slept.push hS (L2.allBare_setGen (s := s1.setGen g gs') (L2.allBare_setGen I4.bare hb) running_bare))
    · intro hsz
      obtain ⟨ys, H4, acc, c, I4, hS, hv, hn, hle, q⟩ := hp
      exact wpAny_pure (hE H4 _ ys acc c (Inv.slept I4 ⟨rfl, L2.allBare_setGen I4.bare finished_bare, hk⟩) (hk _ _ hS) hv hn hle q)
end
end Gx

set_option Elab.async false
set_option linter.all false
set_option maxRecDepth 100000
set_option maxHeartbeats 4000000
namespace Gx
open PySem PySem.Spec PyProof.Rows L2
open PySem.AutoSeq1 (wpAny_loadPart')
section
variable {X : Cx} {pins : List (Addr × Obj)} {σ : L2.St} {H : Hp} {s : Shared}
theorem collectG {A : Around} {a : Addr} {g n : Nat} {cd : Code} {End : List V → Hp → Prop} {Q : List Value → Shared → Prop} {E : Value → Shared → Prop} (hh : A.handled = none) (hd : A.depth < recursionLimit)
    (hg : s.heap.IsGen a g) (hgs : s.gens[g]? = some (.fresh cd)) (hl : s.heap.NoLimit)
    (hgo : ∀ h' c, (∀ b o, s.heap.get? b = some o → h'.get? b = some o) → h'.get? s.heap.objs.size = some (lstObj #[] c) →
      GenState.Goes (model X.prog X.w) A.in1.in1 (GRl X pins σ s.heap.objs.size End) (GYl X pins σ a s.heap.objs.size g) n (.fresh cd) (.send .none) (Shared.setGen { s with heap := h' } g .running))
    (hQ : ∀ (s' : Shared) (acc : Array Value) (ys : List V) (H' : Hp), Inv X pins σ H' s' → Vals ys acc.toList → ys.length ≤ sizeLine → End ys H' → Q acc.toList s') : wpAny (model X.prog X.w) A (collect (.ref a)) Q E s := by
  have hSa : s.heap.objs.size ≠ a := fun e => by
    obtain ⟨o, _, _, ho, _⟩ := id hg
    exact absurd (Heap.lt_size ho) (by rw [← e]; exact Nat.lt_irrefl _)
  have hSc : s.heap.objs.size ≠ cStatics := let ⟨_, hn, _⟩ := hl; Nat.ne_of_gt hn.lt
  unfold collect
  refine wpAny_bind (wpAny_runValue (codeAny_builtin F.entry_proto_collect ?_))
  rw [Around.under_plainId F.plain_proto_collect _]
  show wpAny _ A.in1 (newList [] >>= fun l => again (.builtin "list.__iadd__" ⟨[l, .ref a], []⟩)) _ _ s
  refine wpAny_bind (wpAny_newObj_type ?_)
  refine wpAny_pure ⟨plainId_quiet F.plain_list_iadd _, codeAny_builtin F.entry_list_iadd ?_⟩
  rw [Around.under_plainId F.plain_list_iadd _]
  have k1 : ∀ b o, s.heap.get? b = some o → (s.heap.push { cls := .type "list", data := .seq ([] : List Value).toArray }).get? b = some o := fun b o e => Heap.get?_push_of_some _ e
  have gty : ∀ {h : Heap}, (∀ b o, s.heap.get? b = some o → h.get? b = some o) → h.IsGen a g := fun {h} q => hg.keeps q
  show wpAny _ A.in1 (Builtin.List.listExtendWith (.ref s.heap.objs.size) (.ref a) (.ref s.heap.objs.size)) _ _ _
  unfold Builtin.List.listExtendWith
  refine wpAny_bind (wpAny_typeOf (Heap.IsGen.typeIs (s := { s with heap := _ }) (gty k1)) ?_)
  have h1 : Builtin.List.listSameRef (.ref s.heap.objs.size) (.ref a) = false := by simp [Builtin.List.listSameRef, hSa]
  have h2 : (Value.type "generator" == Value.type "list") = false := by decide
  have h3 : (Value.type "generator" == Value.type "tuple") = false := by decide
  simp only [h1, h2, h3, Bool.or_false, Bool.false_eq_true, if_false]
  refine wpAny_bind (wpAny_pyIter_gen (s := { s with heap := _ }) (gty k1) ?_)
  refine wpAny_bind (wpAny_holding ?_)
  unfold Builtin.List.listLengthHint
  refine wpAny_bind (wpAny_specialOf (Heap.IsGen.typeIs (s := { s with heap := _ }) (gty k1)) F.gen_no_len ?_)
  show wpAny _ A.in1 (specialOf (Value.ref a) (Str.ofString "__length_hint__") >>= _) _ _ _
  refine wpAny_bind (wpAny_specialOf (Heap.IsGen.typeIs (s := { s with heap := _ }) (gty k1)) F.gen_no_hint ?_)
  refine wpAny_pure ?_
  show wpAny _ A.in1 (rule "list.extend.makes-room" >>= fun _ => Builtin.List.listTouch (.ref s.heap.objs.size) >>= fun _ =>
    again (.builtin "list.extend.loop" ⟨[.ref s.heap.objs.size, .ref a, .ref s.heap.objs.size], []⟩)) _ _ _
  refine wpAny_bind (wpAny_rule ?_)
  have hS₁ : (s.heap.push { cls := .type "list", data := .seq ([] : List Value).toArray }).get? s.heap.objs.size = some { cls := .type "list", data := .seq ([] : List Value).toArray } := Heap.get?_push_size _ rfl
  refine wpAny_bind ?_
  show wpAny _ A.in1 (updateSeq s.heap.objs.size (·.push .none) >>= fun _ => updateSeq s.heap.objs.size (·.pop)) _ _ _
  refine wpAny_bind (wpAny_updateSeq hS₁ rfl ?_)
  have hS₂ := Heap.get?_update_self (Obj.mapSeq (·.push Value.none)) hS₁ rfl
  refine wpAny_updateSeq hS₂ rfl ?_
  have hS₃ := Heap.get?_update_self (Obj.mapSeq (·.pop)) hS₂ rfl
  have oth : ∀ b o, s.heap.get? b = some o →
      (((s.heap.push { cls := .type "list", data := .seq ([] : List Value).toArray }).update s.heap.objs.size (Obj.mapSeq (·.push Value.none))).update s.heap.objs.size (Obj.mapSeq (·.pop))).get? b = some o :=
    fun b o e => have hb : b ≠ s.heap.objs.size := Nat.ne_of_lt (Heap.lt_size e)
      (Heap.get?_update_other _ _ (Ne.symm hb)).trans ((Heap.get?_update_other _ _ (Ne.symm hb)).trans (k1 b o e))
  refine wpAny_pure ⟨plainId_quiet F.plain_extend_loop _, extend_loopG (X := X) (pins := pins) (σ := σ) (g := g) (End := End) (A := A) hh hd hSa hSc (fun H' s' ys acc c I' hS' hv hn hle q => ?_) n _ (gty oth) (hl.keeps oth) ⟨_, hgs, hgo _ _ oth hS₃⟩⟩
  show wpAny _ A (load s.heap.objs.size >>= _) _ _ s'
  refine wpAny_bind (wpAny_load hS' ?_)
  exact wpAny_pure (hQ s' acc ys H' I' hv hle q)

theorem code_tuple_newG {A : Around} {a : Addr} {g n : Nat} {cd : Code} {End : List V → Hp → Prop} {Q₁ : Value → Shared → Prop} {E : Value → Shared → Prop} (hh : A.handled = none) (hd : A.depth < recursionLimit)
    (hg : s.heap.IsGen a g) (hgs : s.gens[g]? = some (.fresh cd)) (hl : s.heap.NoLimit)
    (hgo : ∀ h' c, (∀ b o, s.heap.get? b = some o → h'.get? b = some o) → h'.get? s.heap.objs.size = some (lstObj #[] c) →
      GenState.Goes (model X.prog X.w) A.in1.in1.in1 (GRl X pins σ s.heap.objs.size End) (GYl X pins σ a s.heap.objs.size g) n (.fresh cd) (.send .none) (Shared.setGen { s with heap := h' } g .running))
    (hQ : ∀ (s' : Shared) (acc : Array Value) (ys : List V) (H' : Hp), Inv X pins σ H' s' → Vals ys acc.toList → ys.length ≤ sizeLine → End ys H' → Q₁ (.ref s'.heap.objs.size) { s' with heap := s'.heap.push { cls := .type "tuple", data := .seq acc } }) :
    codeAny (model X.prog X.w) A (.call (.builtin "tuple.__new__") ⟨[.type "tuple", .ref a], []⟩) (wants Q₁ E) s := by
  refine codeAny_of_tree ?_
  show wpAny _ A.in1 (do checkBuiltinCall "tuple.__new__" ⟨[.type "tuple", .ref a], []⟩; again (.builtin "tuple.__new__" ⟨[.type "tuple", .ref a], []⟩)) _ _ s
  refine wpAny_bind (wpAny_of_eq (F.newCall_tuple_1 _) (wpAny_pure ⟨plainId_quiet F.plain_tuple_new _, codeAny_builtin F.entry_tuple_new ?_⟩))
  rw [Around.under_plainId F.plain_tuple_new _]
  have hsub := sub_tuple_self
  have hinit := init_tuple_lookup
  have hmh := madeHere_tuple
  have hTI := Heap.IsGen.typeIs (s := s) hg
  have col : ∀ {Q : List Value → Shared → Prop} {E : Value → Shared → Prop}, (∀ (s' : Shared) (acc : Array Value) (ys : List V) (H' : Hp), Inv X pins σ H' s' → Vals ys acc.toList → ys.length ≤ sizeLine → End ys H' → Q acc.toList s') → wpAny (model X.prog X.w) A.in1 (collect (.ref a)) Q E s := fun {Q E} h =>
    collectG (A := A.in1) hh hd hg hgs hl hgo h
  wp_walk using wpAny_typeOf hTI, col
  intro s' acc ys H' I' hv hle q
  show wpAny _ _ (Builtin.Tuple.tupleExact acc.toList.toArray >>= fun v => ret v) _ _ _
  unfold Builtin.Tuple.tupleExact
  refine wpAny_bind (wpAny_newObj_type ?_ (by show acc.toList.toArray.size ≤ sizeLine; have := hv.length; simp only [Array.toArray_toList]; simp at this; omega))
  refine wpAny_pure ?_
  have e : acc.toList.toArray = acc := by simp
  rw [e]
  exact hQ s' acc ys H' I' hv hle q
theorem call_tupleG {A : Around} {a : Addr} {g n : Nat} {cd : Code} {End : List V → Hp → Prop} {Q : Value → Shared → Prop} {E : Value → Shared → Prop} (hh : A.handled = none) (hd : A.depth < recursionLimit)
    (hg : s.heap.IsGen a g) (hgs : s.gens[g]? = some (.fresh cd)) (hl : s.heap.NoLimit)
    (hgo : ∀ h' c, (∀ b o, s.heap.get? b = some o → h'.get? b = some o) → h'.get? s.heap.objs.size = some (lstObj #[] c) →
      GenState.Goes (model X.prog X.w) A.in1.in1.in1.in1 (GRl X pins σ s.heap.objs.size End) (GYl X pins σ a s.heap.objs.size g) n (.fresh cd) (.send .none) (Shared.setGen { s with heap := h' } g .running))
    (hQ : ∀ (s' : Shared) (acc : Array Value) (ys : List V) (H' : Hp), Inv X pins σ H' s' → Vals ys acc.toList → ys.length ≤ sizeLine → End ys H' → Q (.ref s'.heap.objs.size) { s' with heap := s'.heap.push { cls := .type "tuple", data := .seq acc } }) :
    wpAny (model X.prog X.w) A (call (.type "tuple") [.ref a]) Q E s := by
  refine callType_codes (Q₁ := fun obj s₁ => s₁.TypeIs obj "tuple" ∧ Q obj s₁) F.called_tuple (F.typeCall_tuple_1 _) F.entry_object_init
    (code_tuple_newG (A := A.in1) hh hd hg hgs hl hgo fun s' acc ys H' I' hv hle q => ⟨⟨_, Heap.get?_push_size _ rfl, rfl⟩, hQ s' acc ys H' I' hv hle q⟩) fun obj s₁ h₁ => ?_
  exact ⟨h₁.1, F.args_object_init_2 obj _, object_init_meets F.called_tuple.init.lookup F.called_tuple.made (by decide) X.prog X.w A.in1 _ s₁ ⟨h₁.1, rfl, h₁.2⟩⟩
def tGenL (K : PySem.W.Frag) (P : Addr) (wi : TI) (g : TG) (tt : TT) (te : TE) (vs : List Nat) (Qx : (List V → Hp → Prop)) : L2.St → Hp → Prop := fun σ H => wi σ H fun J H1 => GxR.TabG H1 P ∧ ∀ H2, GxR.Tabbed P H1 H2 →
  ∃ W : Nat → Nat → List V → Hp → Prop, (∃ m, m < sizeLine ∧ W 0 m [] H2) ∧ TurnL K J g tt te σ vs W Qx
/-- tuple(elt for tg in iter if ..) -/
def tGenTup (K : PySem.W.Frag) (P : Addr) (wi : TI) (g : TG) (tt : TT) (te : TE) (vs : List Nat) : TE := fun σ H Q => tGenL K P wi g tt te vs (fun ys H' => ∀ p, H' p = none → Q (.ref p) (upd H' p (.tup ys))) σ H
theorem pe_genTuple {c P : Addr} {elt tg iter : Expr} {ifs : List Expr} {scope : Scope} {own : List (Str × Nat)} {gpos p pos : Pos} {wi : TI} {g : TG} {tt : TT} {te : TE} {k : Nat}
    (hr : Room k X.A) (hc : X.calm = true) (hN : X.N.Nodup) (hgl : Gl X "tuple") (hm : X.mg "tuple" = none) (TB : GxR.TabB X.base X.mg c P) (hcode : X.env.code = .ref c) (ok : BlkOk X.N X.env.scope scope own) (ncell : ∀ y ∈ scope.names, y.2 ≠ .cell)
    (hco : scope.isCoroutine = false) (dot : scope.names.lookup (".0" : Str) = some NameKind.local) (hi : PI X tg iter wi)
    (hg : ∀ (s : Shared) (H : Hp) (C : Addr) (code : Value) (fp : List Addr), PG (gcx X X.A.in1.in1.in1.in1 s H (genv X scope C code builtinsNs) fp) tg g)
    (ht : ∀ (s : Shared) (H : Hp) (C : Addr) (code : Value) (fp : List Addr), PTs (gcx X X.A.in1.in1.in1.in1 s H (genv X scope C code builtinsNs) fp) ifs tt)
    (he : ∀ (s : Shared) (H : Hp) (C : Addr) (code : Value) (fp : List Addr), PE (gcx X X.A.in1.in1.in1.in1 s H (genv X scope C code builtinsNs) fp) elt te)
    (hs : ∀ v, genFold iter X.env v = pure v := by intro _; rfl)
    (hst : starEach [gex elt tg iter ifs scope gpos] X.env = (false, eval (gex elt tg iter ifs scope gpos) X.env) :: starEach [] X.env := by rfl) :
    PE X (.Call (.Name "tuple" p) [gex elt tg iter ifs scope gpos] [] pos) (tGenTup X.K P wi g tt te (own.map (·.2))) := by
  refine ⟨fun pins s σ H Q I h => ?_⟩
  refine wpAny_Call_Name_kw (ld_blt I hgl hm (by rfl : bootBuiltins "tuple" = some (.type "tuple")) ?_)
  refine PyProof.Rows.callWith_type1 ?_ hst (by rfl)
  rw [hst]
  show wpAny _ _ (spliced ((false, eval (gex elt tg iter ifs scope gpos) X.env) :: backTo pos (starEach [] X.env))) _ _ s
  have free : ∀ y ∈ scope.names, y.2 = .free → ∃ c, X.env.cells.lookup y.1 = some c := fun y hy e => by
    rcases ok.free y hy e with k | k
    · exact I.ok.has _ (.inl k)
    · exact I.ok.has _ (.inr k)
  refine Calls.spliced_cons (gen_make (R := fun J H1 => ∀ H2, GxR.Tabbed P H1 H2 → ∃ W : Nat → Nat → List V → Hp → Prop, (∃ m, m < sizeLine ∧ W 0 m [] H2) ∧ TurnL X.K J g tt te σ (own.map (fun (q : Str × Nat) => q.2)) W fun ys H' => ∀ p, H' p = none → Q (.ref p) (upd H' p (.tup ys)))
    hr TB hcode free ncell hco ok.kind dot hi hs I h fun J H1 H2 a s5 it fp tn code gi s4 hR hT F => ?_)
  obtain ⟨W, ⟨m, hm0, w0⟩, TR⟩ := hR H2 hT
  refine Calls.spliced_nil ?_
  have hIX : Inv X pins σ H2 s5 := Inv.slept F.inv ⟨F.os, F.bare, F.kp⟩
  refine call_tupleG (X := X) (pins := pins) (σ := σ) (n := m + 1) (End := fun ys H' => ∀ p, H' p = none → Q (.ref p) (upd H' p (.tup ys))) hr.hd (by have := hr.dp; omega) F.isg F.gen hIX.nolimit (fun h' cl k' hS' => ?_) (fun s' acc ys H' I' hv hle q => ?_)
  · obtain ⟨o, nm, qn, ho, hcl, hd, hsl⟩ := id F.isg
    have hgo : ∀ h : Heap, h.get? a = some o → h.IsGen a gi := fun h e => ⟨o, nm, qn, e, hcl, hd, hsl⟩
    have na : H2 a = none := F.inv.hok.fresh F.new
    have nal : a ≠ s4.heap.objs.size := fun z => by
      obtain ⟨of, es, ep, hof, hdf, _⟩ := F.ns
      rw [← z, ho] at hof
      cases hof
      rw [hd] at hdf
      cases hdf
    have lta : a < s5.heap.objs.size := Heap.lt_size ho
    have ltC : s4.heap.objs.size < s5.heap.objs.size := F.ns.lt
    have hS0 : s4.heap.objs.size ≤ s5.heap.objs.size := Nat.le_of_lt ltC
    have nS : H2 s5.heap.objs.size = none := F.inv.hok.fresh hS0
    have cm : ∀ {y c}, (cloFrom X.env.cells scope.names []).lookup y = some c → X.env.cells.lookup y = some c := fun {y c} e => by
      rcases cloFrom_mem (PySem.mem_of_lookup e) with hm | ⟨h1, h2⟩
      · cases hm
      · obtain ⟨c1, hc⟩ := free _ h1 rfl
        have hc : X.env.cells.lookup y = some c1 := hc
        have e2 : c = c1 := by rw [h2, hc] <;> rfl
        rw [e2]; exact hc
    have nofr : ∀ b, s4.heap.objs.size ≤ b → b ∉ frs X.stack := fun b hb hm => F.inv.nofs hb ((List.mem_cons.mp (F.inv.stkSub b hm)).elim (fun e => absurd F.inv.lt (by rw [← e]; exact Nat.not_lt.mpr hb)) id)
    have I0 := gen_start (fp := fp) (code := code) (it := .ref it) (bi := builtinsNs) (h' := h') (G := (Shared.setGen { s5 with heap := h' } gi .running).gens) (t := s5.toks) F.inv hc hN ok ncell F.fps rfl (fun b o e => k' b o (F.kp b o e)) (F.ns.keeps k')
      (L2.allBare_setGen (s := { s5 with heap := h' }) F.bare running_bare) (B := X.A.in1.in1.in1.in1) rfl rfl
    have I1 := Inv.slept I0 (s' := Shared.setGen { s5 with heap := h' } gi .running) ⟨F.os, L2.allBare_setGen (s := { s5 with heap := h' }) F.bare running_bare, fun _ _ e => e⟩
    have I9 : Inv (gcx X X.A.in1.in1.in1.in1 s4 H2 (genv X scope s4.heap.objs.size code builtinsNs) fp) [(a, o), (s5.heap.objs.size, lstObj #[] cl)] (wipe σ (own.map (·.2))) H2 (Shared.setGen { s5 with heap := h' } gi .running) := I1.pins_of fun p hp => by
      simp at hp
      rcases hp with rfl | rfl
      · exact ⟨k' _ _ ho, na, nal, nofr a F.new, fun v q => by rw [hd] at q; cases q⟩
      · exact ⟨hS', nS, Nat.ne_of_gt ltC, nofr _ hS0, fun v q => by cases q⟩
    have st9 : tn 0 (Shared.setGen { s5 with heap := h' } gi .running).heap := F.turn.keep _ _ _ F.at0 fun b _ o e => k' b o (F.kp b o e)
    have loop := gen_segL (elt := elt) (iter := iter) (ifs := ifs) (scope := scope) (gpos := gpos) (g' := gi) (env := genv X scope s4.heap.objs.size code builtinsNs) hc hco F.inv F.fps F.turn (hg s4 H2 s4.heap.objs.size code fp) (ht s4 H2 s4.heap.objs.size code fp) (he s4 H2 s4.heap.objs.size code fp) TR hgo F.new
      hS0 (Nat.ne_of_gt lta) (Nat.ne_of_gt ltC) (fun x c e z => by
        obtain ⟨w', zz⟩ := F.inv.cell x c (cm e)
        have q1 := zz.lt
        rw [z] at q1
        exact absurd (Nat.lt_of_lt_of_le q1 hS0) (Nat.lt_irrefl _)) (nofr _ hS0) m 0 (m + 1)
      (Shared.setGen { s5 with heap := h' } gi .running) (Shared.setGen { s5 with heap := h' } gi .running) H2 [] #[] cl (Nat.lt_succ_self _) (by show 0 + (m + 1) ≤ _; omega) w0 .nil I9 st9 fun b hb => (F.fps b hb).1.1
    refine ⟨rfl, ?_⟩
    show Seg _ _ _ _ _ _ _ ((compStart (gex elt tg iter ifs scope gpos) 0 (.ref it) .none (genv X scope s4.heap.objs.size code builtinsNs)).onRaise (leaving _)) [] _
    unfold compStart
    rw [Sem.onRaise_eq_wrap]
    show Seg _ _ _ _ _ _ _ ((ask >>= _).wrap _ _ _ _) [] _
    refine seg_bind_wrap (wpAny_askSetting ?_)
    split
    · exact seg_again rfl loop
    · refine seg_bind_wrap (wpAny_rule ?_)
      show Seg _ _ _ _ _ _ _ ((standAt iter.pos >>= _).wrap _ _ _ _) [] _
      exact seg_bind_wrap (wpAny_standAt (seg_bind_wrap (F.turn.self _ 0 _ _ _ st9 (seg_again rfl loop))))
  · refine ⟨.ref s'.heap.objs.size, upd H' s'.heap.objs.size (.tup ys), I'.laid (t' := s'.toks) (fun b o e => Heap.get?_push_of_some _ e) (Nat.le_refl _) ⟨hle, acc.toList, hv, ?_⟩, rfl, q _ (I'.hok.fresh (Nat.le_refl _))⟩
    exact ⟨_, Heap.get?_push_size _ rfl, rfl, _, rfl⟩
end
end Gx

set_option Elab.async false
set_option linter.all false
set_option maxRecDepth 100000
set_option maxHeartbeats 4000000
/-! Gx7: generator expressions of two clauses: the loop -/
namespace Gx
open PySem PySem.Spec PyProof.Rows L2
abbrev gex2 (elt tg iter : Expr) (ifs : List Expr) (tg1 iter1 : Expr) (ifs1 : List Expr) (scope : Scope) (pos : Pos) : Expr := .GeneratorExp elt [⟨tg, iter, ifs, 0⟩, ⟨tg1, iter1, ifs1, 0⟩] scope pos
section
variable {elt tg iter : Expr} {ifs : List Expr} {tg1 iter1 : Expr} {ifs1 : List Expr} {scope : Scope} {pos : Pos} {it acc : Value} {env : PySem.Env} {A : Around}
theorem turn2_out : compTurn (gex2 elt tg iter ifs tg1 iter1 ifs1 scope pos) 0 it acc env = (do
      standAt iter.pos
      match ← pyNext it with
      | none => pure (.done .next)
      | some v =>
        letOwnedTupleGo tg it v
        assign tg env v
        let mut ok := true
        for c in ifs do
          if ok then ok ← isTrue c env (eval c env)
        if ok then
          let x ← eval iter1 env
          standAt iter1.pos
          let x ← foldedSetIterable iter1 env x
          let _ ← runOwn (.compStart (gex2 elt tg iter ifs tg1 iter1 ifs1 scope pos) 1 (← holding [x] (pyIter x)) acc env) env
        again (.compLoop (gex2 elt tg iter ifs tg1 iter1 ifs1 scope pos) 0 it acc env)) := by rfl
theorem turn2_in : compTurn (gex2 elt tg iter ifs tg1 iter1 ifs1 scope pos) 1 it acc env = (do
      standAt iter1.pos
      match ← pyNext it with
      | none => pure (.done .next)
      | some v =>
        letOwnedTupleGo tg1 it v
        assign tg1 env v
        let mut ok := true
        for c in ifs1 do
          if ok then ok ← isTrue c env (eval c env)
        if ok then
          (do let v ← eval elt env; standAt elt.pos; let _ ← yieldOut env v)
        again (.compLoop (gex2 elt tg iter ifs tg1 iter1 ifs1 scope pos) 1 it acc env)) := by rfl
theorem over2_0 : A.over (.compLoop (gex2 elt tg iter ifs tg1 iter1 ifs1 scope pos) 0 it .none env) [] = A.deeper env := by
  first
    | rfl
    | (obtain ⟨hd, d, fr, gs, u⟩ := A; simp [Around.over, Around.deeper, marksOver, frameCount, unitsOf, envsOf, guardsOf, pushEnvs, pushGuards, Code.envs, Code.env?, Code.isFrame, Code.guards, Code.isGuard, Code.weight, Code.frames, Code.isCreation, Code.isCaller, Code.cUnits])
theorem over2_1 {it1 : Value} {k : Result → Sem PySem.Fin} {g : Bool} {l : List Value} {p : Pos} {kp : List Value} :
    A.over (.compLoop (gex2 elt tg iter ifs tg1 iter1 ifs1 scope pos) 1 it1 .none env) [.ret k none g l (.compLoop (gex2 elt tg iter ifs tg1 iter1 ifs1 scope pos) 0 it .none env) p kp] = A.deeper env := by
  first
    | rfl
    | (obtain ⟨hd, d, fr, gs, u⟩ := A; simp [Around.over, Around.deeper, marksOver, frameCount, unitsOf, envsOf, guardsOf, pushEnvs, pushGuards, Code.envs, Code.env?, Code.isFrame, Code.guards, Code.isGuard, Code.weight, Code.frames, Code.isCreation, Code.isCaller, Code.cUnits, Frame.where_, Frame.marks])
theorem over2_s {it1 : Value} {k : Result → Sem PySem.Fin} {g : Bool} {l : List Value} {p : Pos} {kp : List Value} :
    A.over (.compStart (gex2 elt tg iter ifs tg1 iter1 ifs1 scope pos) 1 it1 .none env) [.ret k none g l (.compLoop (gex2 elt tg iter ifs tg1 iter1 ifs1 scope pos) 0 it .none env) p kp] = A.deeper env := by
  first
    | rfl
    | (obtain ⟨hd, d, fr, gs, u⟩ := A; simp [Around.over, Around.deeper, marksOver, frameCount, unitsOf, envsOf, guardsOf, pushEnvs, pushGuards, Code.envs, Code.env?, Code.isFrame, Code.guards, Code.isGuard, Code.weight, Code.frames, Code.isCreation, Code.isCaller, Code.cUnits, Frame.where_, Frame.marks])
end
/-- two clauses: k counts the turns left; behind the inner walk the outer one goes on with no more than are left -/
def TurnR2 (K : PySem.W.Frag) (J : It) (g : TG) (tt : TT) (wi1 : TI) (g1 : TG) (tt1 : TT) (te : TE) (σ : L2.St) (vs vs1 : List Nat) (CONS : V → Hp → (Hp → Prop) → Prop) (W : Nat → Nat → Hp → Prop) (End : Hp → Prop) : Prop :=
  ∀ i m H, W i m H → (J.stop i H ∧ End H) ∨ (J.go i H ∧ ∀ x H', J.yld i H x H' →
    g x (wipe σ vs) H' fun σ2 H2 => wipe σ2 vs = wipe σ vs ∧ tt σ2 H2 fun b H3 => if b = true then wi1 σ2 H3 fun J1 H4 => ∃ W1 : Nat → Nat → Hp → Prop, (∃ k, k < m ∧ W1 0 k H4) ∧ ∀ j k H, W1 j k H →
        (J1.stop j H ∧ ∃ m', m' ≤ k ∧ W (i + 1) m' H) ∨ (J1.go j H ∧ ∃ Nx1 : Hp → Prop, (∀ H', Nx1 H' → ∃ k', k' < k ∧ W1 (j + 1) k' H') ∧ ∀ x H', J1.yld j H x H' →
          g1 x (wipe σ2 vs1) H' fun σ3 H5 => wipe σ3 vs1 = wipe σ2 vs1 ∧ tt1 σ3 H5 fun b H6 => if b = true then te σ3 H6 fun y H7 => CONS y H7 Nx1 else Nx1 H6)
      else ∃ m', m' < m ∧ W (i + 1) m' H3)
section
variable {X : Cx} {pins : List (Addr × Obj)} {σ : L2.St} {H : Hp} {s : Shared}
theorem gen_in2 {elt tg iter tg1 iter1 : Expr} {ifs ifs1 : List Expr} {scope : Scope} {gpos : Pos} {J1 : It} {fp fp1 : List Addr} {it it1 a : Addr} {g' : Nat} {go : Obj} {tn1 : Nat → Heap → Prop} {g1 : TG} {tt1 : TT} {te : TE} {vs1 : List Nat} {s4 : Shared} {H2 H8 : Hp} {env : PySem.Env} {B : Around} {σ5 : L2.St} {PN : List (Addr × Obj)}
    {CONS : V → Hp → (Hp → Prop) → Prop} {W1 : Nat → Nat → Hp → Prop} {End : Hp → Prop} {Rest : Nat → Hp → Prop} {kf : Result → Sem PySem.Fin} {gg : Bool} {l : List Value} {p : Pos} (kmax : Nat)
    (hc : X.calm = true) (hco : env.scope.isCoroutine = false) (hgg : gg = false) (T1 : Turn X.prog X.w X.K tg1 J1 fp1 it1 tn1) (f8 : ∀ b ∈ fp1, FpOk (gcx X B s4 H2 env fp) ([(a, go)] ++ PN) H8 b)
    (back : ∀ {σ' : L2.St} {H' : Hp} {s' : Shared} {pn : List (Addr × Obj)}, Inv (gcx X B s4 H2 env fp) pn σ' H' s' → Inv X pins σ H' s')
    (pg1 : PG (gcx X B s4 H2 env fp) tg1 g1) (pt1 : PTs (gcx X B s4 H2 env fp) ifs1 tt1) (pe : PE (gcx X B s4 H2 env fp) elt te)
    (turn1 : ∀ j k H, W1 j k H → (J1.stop j H ∧ Rest k H) ∨ (J1.go j H ∧ ∃ Nx1 : Hp → Prop, (∀ H', Nx1 H' → ∃ k', k' < k ∧ W1 (j + 1) k' H') ∧ ∀ x H', J1.yld j H x H' →
          g1 x (wipe σ5 vs1) H' fun σ3 H5 => wipe σ3 vs1 = wipe σ5 vs1 ∧ tt1 σ3 H5 fun b H6 => if b = true then te σ3 H6 fun y H7 => CONS y H7 Nx1 else Nx1 H6))
    (hgo : ∀ h : Heap, h.get? a = some go → h.IsGen a g')
    (hend : ∀ (k n : Nat) (s₀ s : Shared) (H : Hp), k ≤ kmax → k < n → Rest k H → Inv (gcx X B s4 H2 env fp) ([(a, go)] ++ PN) (wipe σ5 vs1) H s →
      Seg (model X.prog X.w) B (GRb X pins σ End) (GYb X pins σ a g' CONS) n s₀ (.compLoop (gex2 elt tg iter ifs tg1 iter1 ifs1 scope gpos) 0 (.ref it) .none env) (kf (.ok .next)) [] s) :
    ∀ (k j n : Nat) (s₀ s : Shared) (H : Hp), k ≤ kmax → k < n → W1 j k H → Inv (gcx X B s4 H2 env fp) ([(a, go)] ++ PN) (wipe σ5 vs1) H s → tn1 j s.heap → (∀ b ∈ fp1, H b = none) →
      Seg (model X.prog X.w) B (GRb X pins σ End) (GYb X pins σ a g' CONS) n s₀ (.compLoop (gex2 elt tg iter ifs tg1 iter1 ifs1 scope gpos) 1 (.ref it1) .none env)
        ((model X.prog X.w).den (.compLoop (gex2 elt tg iter ifs tg1 iter1 ifs1 scope gpos) 1 (.ref it1) .none env)) [.ret kf none gg l (.compLoop (gex2 elt tg iter ifs tg1 iter1 ifs1 scope gpos) 0 (.ref it) .none env) p []] s := by
  subst hgg
  have stat1 : ∀ {H' : Hp}, (∀ b ∈ fp1, H' b = none) → ∀ b ∈ fp1, FpOk (gcx X B s4 H2 env fp) ([(a, go)] ++ PN) H' b := fun hn b hb => ⟨hn b hb, (f8 b hb).2⟩
  intro k
  induction k using Nat.strongRecOn with
  | ind k ih =>
    intro j n s₀ s H hkm hkn w I st nf
    show Seg _ _ _ _ _ s₀ _ ((compTurn (gex2 elt tg iter ifs tg1 iter1 ifs1 scope gpos) 1 (.ref it1) .none env).onRaise (fun x => do noteFrame x env; theTreesLotGoes x)) _ s
    rw [turn2_in, Sem.onRaise_eq_wrap]
    refine seg_bind_wrap (wpAny_standAt ?_)
    rcases turn1 j k H w with ⟨stop, q⟩ | ⟨gg1, Nx, hNx, step⟩
    · refine seg_bind_wrap ?_
      rw [over2_1]
      refine thnF (T1.done (gcx X B s4 H2 env fp) rfl rfl rfl hc j _ s _ H (fun _ _ => False) I (stat1 nf) st stop) fun r s1 ⟨hr, I1⟩ => ?_
      subst hr
      exact seg_leaf (.ok .next) (hend k n s₀ s1 H hkm hkn q I1)
    · refine seg_bind_wrap ?_
      rw [over2_1]
      refine thnF (T1.item (gcx X B s4 H2 env fp) rfl rfl rfl hc j _ s _ H (fun _ _ => False) I (stat1 nf) st gg1) fun r s1 ⟨u, hr, h1⟩ => ?_
      subst hr
      refine seg_bind_wrap ?_
      rw [over2_1]
      refine thnF h1 fun _ s2 ⟨x, H3, I3, r3, y3, st3, n3⟩ => ?_
      have I3' := I3.pinned (stat1 n3) (T1.obj _ _ st3)
      refine seg_bind_wrap ?_
      rw [over2_1]
      refine thnF (pg1.run _ s2 _ H3 x u _ I3' r3 (step x H3 y3)) fun _ s5 ⟨σ6, H5, I5, hw6, q5⟩ => ?_
      refine seg_bind_wrap ?_
      rw [over2_1]
      refine thnF (pt1.run _ s5 σ6 H5 _ I5 q5) fun b s6 ⟨H6, I6, q6⟩ => ?_
      have fin : ∀ {s' : Shared} {H' : Hp}, Inv (gcx X B s4 H2 env fp) (([(a, go)] ++ PN) ++ pinsAt fp1 s2.heap) σ6 H' s' → Nx H' → ∀ (n' : Nat) (s₀' : Shared), k ≤ n' →
          Seg (model X.prog X.w) B (GRb X pins σ End) (GYb X pins σ a g' CONS) n' s₀' (.compLoop (gex2 elt tg iter ifs tg1 iter1 ifs1 scope gpos) 1 (.ref it1) .none env) ((model X.prog X.w).den (.compLoop (gex2 elt tg iter ifs tg1 iter1 ifs1 scope gpos) 1 (.ref it1) .none env)) [.ret kf none false l (.compLoop (gex2 elt tg iter ifs tg1 iter1 ifs1 scope gpos) 0 (.ref it) .none env) p []] s' := fun {s' H'} I' nx n' s₀' hn' => by
        obtain ⟨k', hk, w'⟩ := hNx H' nx
        have pin' : ∀ b ∈ fp1, ∀ o, s2.heap.get? b = some o → s'.heap.get? b = some o ∧ H' b = none := fun b hb o e =>
          let z := I'.pin (b, o) (List.mem_append_right _ (List.mem_append_right _ (mem_pinsAt hb e)))
          ⟨z.1, z.2.1⟩
        have hl : (wipe σ5 vs1).length = σ6.length := by rw [← hw6, wipe_length]
        refine ih k' hk (j + 1) n' s₀' s' H' (by omega) (by omega) w' ((I'.unpinned (pins := [(a, go)] ++ PN)).weak hl (fun j v e => ?_)) (T1.keep _ _ _ st3 fun b hb o e => (pin' b hb o e).1) fun b hb => ?_
        · rw [← hw6] at e
          exact (wipe_some e).1
        · obtain ⟨o, e, _⟩ := T1.obj _ _ st3 b hb
          exact (pin' b hb o e).2
      cases b with
      | false =>
        simp only [Bool.false_eq_true, if_false] at q6 ⊢
        exact seg_again rfl (fin I6 q6 n s₀ (by omega))
      | true =>
        simp only [if_true] at q6 ⊢
        have hy : ∀ v, yieldOut env v = yieldValue v := fun v => by simp only [yieldOut, hco, Bool.false_eq_true, if_false]
        simp only [hy]
        rw [Sem.bind_eq_wrap', Sem.bind_eq_wrap', Sem.wrap_wrap, Sem.wrap_wrap]
        refine seg_wrap ?_
        rw [over2_1]
        refine thnF (pe.run _ s6 σ6 H6 _ I6 q6) fun y s7 ⟨yv, H7, I7, r7, q7⟩ => ?_
        cases n with
        | zero => exact absurd hkn (Nat.not_lt_zero _)
        | succ n =>
          refine seg_at (seg_yield rfl rfl rfl ⟨yv, H7, Nx, back I7, ?_, r7, q7, fun s'' hal nx => ?_⟩)
          · exact hgo _ (I7.pin (a, go) (by simp)).1
          · exact seg_again rfl (fin (Inv.slept I7 hal) nx n s'' (by omega))
theorem gen_seg2 {elt tg iter tg1 iter1 : Expr} {ifs ifs1 : List Expr} {scope : Scope} {gpos : Pos} {J : It} {fp : List Addr} {it a : Addr} {g' : Nat} {go : Obj} {tn : Nat → Heap → Prop} {g g1 : TG} {tt tt1 : TT} {wi1 : TI} {te : TE} {vs vs1 : List Nat} {s4 : Shared} {H2 : Hp} {env : PySem.Env} {B : Around}
    {CONS : V → Hp → (Hp → Prop) → Prop} {W : Nat → Nat → Hp → Prop} {End : Hp → Prop}
    (hc : X.calm = true) (hco : env.scope.isCoroutine = false) (I4 : Inv X pins σ H2 s4) (hfp : ∀ b ∈ fp, FpOk X pins H2 b ∧ b < s4.heap.objs.size) (T : Turn X.prog X.w X.K tg J fp it tn) (hv : ∀ i ∈ vs1, i ∈ vs)
    (pg : PG (gcx X B s4 H2 env fp) tg g) (pt : PTs (gcx X B s4 H2 env fp) ifs tt) (pi1 : PI (gcx X B s4 H2 env fp) tg1 iter1 wi1) (pg1 : PG (gcx X B s4 H2 env fp) tg1 g1) (pt1 : PTs (gcx X B s4 H2 env fp) ifs1 tt1) (pe : PE (gcx X B s4 H2 env fp) elt te)
    (hs1 : ∀ x, foldedSetIterable iter1 env x = pure x)
    (TR : TurnR2 X.K J g tt wi1 g1 tt1 te σ vs vs1 CONS W End) (hgo : ∀ h : Heap, h.get? a = some go → h.IsGen a g') (ha : s4.heap.objs.size ≤ a) :
    ∀ (m i n : Nat) (s₀ s : Shared) (H : Hp), m < n → W i m H → Inv (gcx X B s4 H2 env fp) [(a, go)] (wipe σ vs) H s → tn i s.heap → (∀ b ∈ fp, H b = none) →
      Seg (model X.prog X.w) B (GRb X pins σ End) (GYb X pins σ a g' CONS) n s₀ (.compLoop (gex2 elt tg iter ifs tg1 iter1 ifs1 scope gpos) 0 (.ref it) .none env)
        ((model X.prog X.w).den (.compLoop (gex2 elt tg iter ifs tg1 iter1 ifs1 scope gpos) 0 (.ref it) .none env)) [] s := by
  have stat : ∀ {σ' : L2.St} {H' : Hp} {s' : Shared} {pn : List (Addr × Obj)}, Inv (gcx X B s4 H2 env fp) pn σ' H' s' → (∀ b ∈ fp, H' b = none) → (∀ p ∈ pn, ∀ b ∈ fp, p.1 ≠ b) → ∀ b ∈ fp, FpOk (gcx X B s4 H2 env fp) pn H' b := fun {σ' H' s' pn} I' hn hpn b hb =>
    ⟨hn b hb, (I'.ok.exf b hb).1, I'.ok.exfs b hb, .inl hb, fun x c e => (I'.ok.exf b hb).2 x c e, fun p hp => hpn p (by simpa using hp) b hb⟩
  have back : ∀ {σ' : L2.St} {H' : Hp} {s' : Shared} {pn : List (Addr × Obj)}, Inv (gcx X B s4 H2 env fp) pn σ' H' s' → Inv X pins σ H' s' := fun {σ' H' s' pn} I' =>
    I4.call' (ch := fp) I'.os I'.base I'.hok I'.bare fun b hb => ⟨(hfp b hb).1.2.2.2.1, (hfp b hb).1.2.1, (hfp b hb).1.2.2.2.2.1, (hfp b hb).1.2.2.2.2.2⟩
  intro m
  induction m using Nat.strongRecOn with
  | ind m ih =>
    intro i n s₀ s H hmn w I st nf
    have hpn : ∀ p ∈ [(a, go)], ∀ b ∈ fp, p.1 ≠ b := fun p hp b hb z => by
      simp at hp; subst hp
      have h1 := (hfp b hb).2
      have z : a = b := z
      rw [← z] at h1
      exact absurd (Nat.lt_of_lt_of_le h1 ha) (Nat.lt_irrefl _)
    show Seg _ _ _ _ _ s₀ _ ((compTurn (gex2 elt tg iter ifs tg1 iter1 ifs1 scope gpos) 0 (.ref it) .none env).onRaise (leaving env)) [] s
    rw [turn2_out, Sem.onRaise_eq_wrap]
    refine seg_bind_wrap (wpAny_standAt ?_)
    rcases TR i m H w with ⟨stop, q⟩ | ⟨gg, step⟩
    · refine seg_bind_wrap ?_
      rw [over2_0]
      refine thnF (T.done (gcx X B s4 H2 env fp) rfl rfl rfl hc i _ s _ H (fun _ _ => False) I (stat I nf hpn) st stop) fun r s1 ⟨hr, I1⟩ => ?_
      subst hr
      exact seg_end (.ok .next) ⟨rfl, H, back I1, q⟩
    · refine seg_bind_wrap ?_
      rw [over2_0]
      refine thnF (T.item (gcx X B s4 H2 env fp) rfl rfl rfl hc i _ s _ H (fun _ _ => False) I (stat I nf hpn) st gg) fun r s1 ⟨u, hr, h1⟩ => ?_
      subst hr
      refine seg_bind_wrap ?_
      rw [over2_0]
      refine thnF h1 fun _ s2 ⟨x, H3, I3, r3, y3, st3, n3⟩ => ?_
      have I3' := I3.pinned (stat I3 n3 hpn) (T.obj _ _ st3)
      refine seg_bind_wrap ?_
      rw [over2_0]
      refine thnF (pg.run _ s2 _ H3 x u _ I3' r3 (step x H3 y3)) fun _ s5 ⟨σ5, H5, I5, hw5, q5⟩ => ?_
      refine seg_bind_wrap ?_
      rw [over2_0]
      refine thnF (pt.run _ s5 σ5 H5 _ I5 q5) fun b s6 ⟨H6, I6, q6⟩ => ?_
      -- the outer turn's end, from any slots that know what was known at its start
      have fin : ∀ {σ9 : L2.St} {s' : Shared} {H' : Hp}, Inv (gcx X B s4 H2 env fp) ([(a, go)] ++ pinsAt fp s2.heap) σ9 H' s' → (wipe σ vs).length = σ9.length → (∀ (j : Nat) v, (wipe σ vs)[j]? = some (some v) → σ9[j]? = some (some v)) → ∀ (m' : Nat), m' < m → W (i + 1) m' H' → ∀ (n' : Nat) (s₀' : Shared), m' < n' →
          Seg (model X.prog X.w) B (GRb X pins σ End) (GYb X pins σ a g' CONS) n' s₀' (.compLoop (gex2 elt tg iter ifs tg1 iter1 ifs1 scope gpos) 0 (.ref it) .none env) ((model X.prog X.w).den (.compLoop (gex2 elt tg iter ifs tg1 iter1 ifs1 scope gpos) 0 (.ref it) .none env)) [] s' := fun {σ9 s' H'} I' hl hk m' hm w' n' s₀' hn' => by
        have pin' : ∀ b ∈ fp, ∀ o, s2.heap.get? b = some o → s'.heap.get? b = some o ∧ H' b = none := fun b hb o e =>
          let z := I'.pin (b, o) (List.mem_append_right _ (List.mem_append_right _ (mem_pinsAt hb e)))
          ⟨z.1, z.2.1⟩
        refine ih m' hm (i + 1) n' s₀' s' H' hn' w' ((I'.unpinned (pins := [(a, go)])).weak hl hk) (T.keep _ _ _ st3 fun b hb o e => (pin' b hb o e).1) fun b hb => ?_
        obtain ⟨o, e, _⟩ := T.obj _ _ st3 b hb
        exact (pin' b hb o e).2
      have hl5 : (wipe σ vs).length = σ5.length := by rw [← hw5, wipe_length]
      have hk5 : ∀ (j : Nat) v, (wipe σ vs)[j]? = some (some v) → σ5[j]? = some (some v) := fun j v e => by
        rw [← hw5] at e
        exact (wipe_some e).1
      have hk9 : ∀ (j : Nat) v, (wipe σ vs)[j]? = some (some v) → (wipe σ5 vs1)[j]? = some (some v) := fun j v e => by
        rw [← hw5] at e
        obtain ⟨e1, e2⟩ := wipe_some e
        rw [wipe_out fun z => e2 (hv j z)]
        exact e1
      cases b with
      | false =>
        simp only [Bool.false_eq_true, if_false] at q6 ⊢
        obtain ⟨m', hm, w'⟩ := q6
        exact seg_again rfl (fin I6 hl5 hk5 m' hm w' n s₀ (by omega))
      | true =>
        simp only [if_true] at q6 ⊢
        refine seg_bind_wrap ?_
        rw [over2_0]
        refine thnF (pi1.run _ s6 σ5 H6 _ I6 q6) fun xv s7 hx => ?_
        refine seg_bind_wrap (wpAny_standAt (seg_bind_wrap (wpAny_of_eq (hs1 xv) (seg_bind_wrap (wpAny_holding ?_)))))
        rw [over2_0]
        refine thnF hx fun itv s8 h8 => ?_
        obtain ⟨it1, fp1, tn1, J1, H8, e1, I8, T1, st8, f8, W1, ⟨k0, hk0, w1⟩, turn1⟩ := h8
        subst e1
        rw [Sem.bind_eq_wrap', Sem.wrap_wrap]
        refine seg_call fun p => ?_
        have loop := fun (kf : Result → Sem PySem.Fin) (l : List Value) => gen_in2 (X := X) (pins := pins) (σ := σ) (elt := elt) (tg := tg) (iter := iter) (ifs := ifs) (iter1 := iter1) (scope := scope) (gpos := gpos) (it := it) (End := End) (Rest := fun k H => ∃ m', m' ≤ k ∧ W (i + 1) m' H) (kf := kf) (gg := false) (l := l) (p := p) k0
          hc hco rfl T1 (PN := pinsAt fp s2.heap) (fun b hb => f8 b hb) back pg1 pt1 pe turn1 hgo
        show Seg _ _ _ _ _ _ _ ((compStart (gex2 elt tg iter ifs tg1 iter1 ifs1 scope gpos) 1 (.ref it1) .none env).onRaise (fun x => do noteFrame x env; standAt theWindowsPlace)) _ _
        unfold compStart
        rw [Sem.onRaise_eq_wrap]
        show Seg _ _ _ _ _ _ _ ((ask >>= _).wrap _ _ _ _) _ _
        refine seg_bind_wrap (wpAny_askSetting ?_)
        have I8' := I8.weak (wipe_length σ5 vs1) (fun j v e => (wipe_some e).1)
        split
        · refine seg_again rfl (loop _ _ (fun k n s₀ s H hkm hk ⟨m', hm', w'⟩ I' => ?_) k0 0 n s₀ s8 H8 (Nat.le_refl _) (by omega) w1 I8' st8 fun b hb => (f8 b hb).1)
          exact seg_again rfl (fin I' (hl5.trans (wipe_length σ5 vs1).symm) hk9 m' (by omega) w' n s₀ (by omega))
        · refine seg_bind_wrap (wpAny_rule ?_)
          show Seg _ _ _ _ _ _ _ ((standAt iter1.pos >>= _).wrap _ _ _ _) _ _
          refine seg_bind_wrap (wpAny_standAt (seg_bind_wrap (T1.self _ 0 _ _ _ st8 (seg_again rfl (loop _ _ (fun k n s₀ s H hkm hk ⟨m', hm', w'⟩ I' => ?_) k0 0 n s₀ s8 H8 (Nat.le_refl _) (by omega) w1 I8' st8 fun b hb => (f8 b hb).1)))))
          exact seg_again rfl (fin I' (hl5.trans (wipe_length σ5 vs1).symm) hk9 m' (by omega) w' n s₀ (by omega))
end
end Gx

set_option Elab.async false
set_option linter.all false
set_option maxRecDepth 100000
set_option maxHeartbeats 4000000
/-! Gx8: all, any of a generator expression of two clauses -/
namespace Gx
open PySem PySem.Spec PyProof.Rows L2
theorem eval_gex2 (elt tg iter : Expr) (ifs : List Expr) (tg1 iter1 : Expr) (ifs1 : List Expr) (scope : Scope) (pos : Pos) (env : PySem.Env) (hco : scope.isCoroutine = false) :
    eval (gex2 elt tg iter ifs tg1 iter1 ifs1 scope pos) env = (do
      let x ← eval iter env
      standAt iter.pos
      let x ← genFold iter env x
      let it ← holding [x] (pyIter x)
      enterFrame
      let cl ← closureFor scope env
      let code ← genexprCode env pos (env.qual ++ "<genexpr>") scope
      let bi ← builtinsFor env.globals env.builtins
      let cenv ← newFunctionEnv scope env.globals cl [(".0", it)] (env.qual ++ "<genexpr>.") none code none bi
      newGenerator (.compStart (gex2 elt tg iter ifs tg1 iter1 ifs1 scope pos) 0 it .none cenv) "<genexpr>" (env.qual ++ "<genexpr>")) := by
  rw [arm_eval_GeneratorExp]
  simp only [hco, Bool.false_eq_true, if_false]
  cases iter <;> rfl
section
variable {M : Model} {A : Around} {E : Value → Shared → Prop} {s : Shared}
theorem gex_make2 {env : PySem.Env} {elt tg iter : Expr} {ifs : List Expr} {tg1 iter1 : Expr} {ifs1 : List Expr} {scope : Scope} {cl : List (Str × Addr)} {pos : Pos} {Q : Value → Shared → Prop}
    (hco : scope.isCoroutine = false) (hclos : closureFor scope env = pure cl) (hcell : ∀ y ∈ scope.names, y.2 ≠ .cell) (h0 : scope.names.lookup (".0" : Str) = some NameKind.local) (hkind : scope.kind = .function)
    (hroom : A.depth < recursionLimit)
    (h : wpAny M A (eval iter env) (fun xv s₁ => wpAny M A (pyIter xv) (fun it s₂ => s₂.heap.NoLimit ∧
      wpAny M A (genexprCode env pos (env.qual ++ "<genexpr>") scope) (fun code s₃ => wpAny M A (builtinsFor env.globals env.builtins) (fun bi s₄ =>
        ∀ h', h'.Ns s₄.heap.objs.size (fun y => if y = ".0" then some it else none) → Heap.SameBut s₄.heap.objs.size (s₄.heap.push { cls := .type "frame", data := .dict #[] }) h' →
          Q (.ref h'.objs.size) { s₄ with
            gens := s₄.gens.push (.fresh (.compStart (gex2 elt tg iter ifs tg1 iter1 ifs1 scope pos) 0 it .none (genEnv scope cl s₄.heap.objs.size code bi env))),
            toks := s₄.toks + 1 + 1 + 1,
            heap := h'.push { cls := .type "generator", data := .fields #[.int s₄.gens.size 0, .str "<genexpr>" (s₄.toks + 1), .str (env.qual ++ "<genexpr>") (s₄.toks + 1 + 1)] } }) E s₃) E s₂) E s₁) E s)
    (hs : ∀ x, genFold iter env x = pure x) :
    wpAny M A (eval (gex2 elt tg iter ifs tg1 iter1 ifs1 scope pos) env) Q E s := by
  rw [eval_gex2 _ _ _ _ _ _ _ _ _ _ hco, hclos]
  refine wpAny_bind (wpAny_mono h (fun xv s₁ h₁ => ?_) fun _ _ e => e)
  refine wpAny_bind (wpAny_standAt ?_)
  refine wpAny_bind (wpAny_of_eq (hs xv) ?_)
  refine wpAny_bind (wpAny_holding (wpAny_mono h₁ (fun it s₂ h₂ => ?_) fun _ _ e => e))
  refine wpAny_bind (wpAny_enterFrame h₂.1 hroom ?_)
  refine wpAny_bind (wpAny_pure ?_)
  refine wpAny_bind (wpAny_mono h₂.2 (fun code s₃ h₃ => ?_) fun _ _ e => e)
  refine wpAny_bind (wpAny_mono h₃ (fun bi s₄ h₄ => ?_) fun _ _ e => e)
  have hbinds : ∀ y ∈ ([((".0" : Str), it)] : List (Str × Value)), scope.names.lookup y.1 = some NameKind.local := by
    intro y hy
    rcases List.mem_cons.mp hy with rfl | hy
    · exact h0
    · cases hy
  refine wpAny_bind (wpAny_newFunctionEnv hcell hbinds (fun h' hn' hs' => ?_) hkind)
  have e : (fun y : Str => ([((".0" : Str), it)] : List (Str × Value)).reverse.lookup y) = fun y : Str => if y = (".0" : Str) then some it else none := by
    funext y
    by_cases hy : y = ".0"
    · subst hy; simp
    · have : (y == (".0" : Str)) = false := by simpa using hy
      simp [List.lookup, this, hy]
  rw [e] at hn'
  simp only [newGenerator, newFields]
  refine wpAny_bind (wpAny_newGen (wpAny_bind (wpAny_mkText (wpAny_bind (wpAny_mkText (wpAny_newObj_type ?_ (by size_fits)))))))
  exact h₄ h' hn' hs'
end
/-- a generator over J at a, not begun, in the state s5; s4: where its frame was made -/
structure Fresh2 (X : Cx) (pins : List (Addr × Obj)) (σ : L2.St) (elt tg iter : Expr) (ifs : List Expr) (tg1 iter1 : Expr) (ifs1 : List Expr) (scope : Scope) (gpos : Pos) (J : It) (H2 : Hp) (a : Addr) (s5 : Shared) (it : Addr) (fp : List Addr) (tn : Nat → Heap → Prop) (code : Value) (g : Nat) (s4 : Shared) : Prop where
  inv : Inv X pins σ H2 s4
  fps : ∀ b ∈ fp, FpOk X pins H2 b ∧ b < s4.heap.objs.size
  turn : Turn X.prog X.w X.K tg J fp it tn
  at0 : tn 0 s4.heap
  kp : ∀ b o, s4.heap.get? b = some o → s5.heap.get? b = some o
  ns : s5.heap.Ns s4.heap.objs.size (fun y => if y = ".0" then some (.ref it) else none)
  gen : s5.gens[g]? = some (.fresh (.compStart (gex2 elt tg iter ifs tg1 iter1 ifs1 scope gpos) 0 (.ref it) .none (genv X scope s4.heap.objs.size code builtinsNs)))
  isg : s5.heap.IsGen a g
  os : s5.os = s4.os
  bare : AllBare s5.gens
  new : s4.heap.objs.size ≤ a

section
variable {X : Cx} {pins : List (Addr × Obj)} {σ : L2.St} {H : Hp} {s : Shared}
theorem gen_make2 {c P : Addr} {elt tg iter : Expr} {ifs : List Expr} {tg1 iter1 : Expr} {ifs1 : List Expr} {scope : Scope} {gpos : Pos} {wi : TI} {k : Nat} {Q' : Value → Shared → Prop} {R : It → Hp → Prop}
    (hr : Room k X.A) (TB : GxR.TabB X.base X.mg c P) (hcode : X.env.code = .ref c) (free : ∀ y ∈ scope.names, y.2 = .free → ∃ c, X.env.cells.lookup y.1 = some c) (ncell : ∀ y ∈ scope.names, y.2 ≠ .cell)
    (hco : scope.isCoroutine = false) (hkind : scope.kind = .function) (dot : scope.names.lookup (".0" : Str) = some NameKind.local) (hi : PI X tg iter wi) (hs : ∀ v, genFold iter X.env v = pure v)
    (I : Inv X pins σ H s) (h : wi σ H fun J H1 => GxR.TabG H1 P ∧ R J H1)
    (hQ : ∀ J H1 H2 a s5 it fp tn code g s4, R J H1 → GxR.Tabbed P H1 H2 → Fresh2 X pins σ elt tg iter ifs tg1 iter1 ifs1 scope gpos J H2 a s5 it fp tn code g s4 → Q' (.ref a) s5) :
    wpAny (model X.prog X.w) X.A (eval (gex2 elt tg iter ifs tg1 iter1 ifs1 scope gpos) X.env) Q' X.xe s := by
  refine gex_make2 hco (closure_ok free) ncell dot hkind (by have := hr.dp; omega) ?_ hs
  refine thn (hi.run pins s σ H _ I h) fun xv s0 hx => thn hx fun itv s1 hpie => ?_
  obtain ⟨it, fp, tn, J, H1, rfl, I1, T, st1, f1, ⟨ps, hP, ht⟩, q1⟩ := hpie
  have hPs : s1.heap.get? P = some { cls := .none, data := .fields ps } := I1.hok P _ hP
  have cd : PySem.W.CodeHd s1.heap c P := TB.code.keeps fun b u e => I1.bk b u e
  have lt1 : ∀ b ∈ fp, b < s1.heap.objs.size := fun b hb => by
    obtain ⟨o, e, _⟩ := T.obj _ _ st1 b hb
    exact Heap.lt_size e
  have fnP : ∀ b ∈ fp, b ≠ P := fun b hb z => by
    have := (f1 b hb).1
    rw [z, hP] at this; cases this
  refine ⟨I1.nolimit, ?_⟩
  have cont : ∀ (code : Value) (h3 : Heap) (tk : Nat) (more : Array Value), (∀ b o, b ≠ P → s1.heap.get? b = some o → h3.get? b = some o) → h3.get? P = some { cls := .none, data := .fields (ps ++ more) } → s1.heap.objs.size ≤ h3.objs.size → TriplesOk (ps ++ more).toList →
      wpAny (model X.prog X.w) X.A (builtinsFor X.env.globals X.env.builtins) (fun bi s₄ => ∀ h', h'.Ns s₄.heap.objs.size (fun y => if y = ".0" then some (.ref it) else none) → Heap.SameBut s₄.heap.objs.size (s₄.heap.push { cls := .type "frame", data := .dict #[] }) h' →
          Q' (.ref h'.objs.size) { s₄ with
            gens := s₄.gens.push (.fresh (.compStart (gex2 elt tg iter ifs tg1 iter1 ifs1 scope gpos) 0 (.ref it) .none (genEnv scope (cloFrom X.env.cells scope.names []) s₄.heap.objs.size code bi X.env))),
            toks := s₄.toks + 1 + 1 + 1,
            heap := h'.push { cls := .type "generator", data := .fields #[.int s₄.gens.size 0, .str "<genexpr>" (s₄.toks + 1), .str (X.env.qual ++ "<genexpr>") (s₄.toks + 1 + 1)] } }) X.xe { s1 with heap := h3, toks := tk } := by
    intro code h3 tk more k3 hP3 hsz ht3
    obtain ⟨bm, ob, e1, e2, e3, e4, e5, e6, e7, e8⟩ := TB.bm
    have gl : h3.Ns mainGlobals X.mg := by
      obtain ⟨og, es, ep, ho, r⟩ := I1.mod.glob.keeps I1.bk
      exact ⟨og, es, ep, k3 _ og TB.gP ho, r⟩
    refine wpAny_builtinsFor (m := X.mg) (by rw [I1.ok.glob]; exact gl) e1 e2 (k3 _ _ e4 (I1.bk _ _ e5)) e6 e7 e8 ?_
    intro h' hn' hs'
    have J3 : Inv X pins σ (upd H1 P (.tbl (ps ++ more))) { s1 with heap := h3, gens := s1.gens, drawn := s1.drawn, toks := tk } := GxR.inv_tab (more := more) I1 hP k3 hP3 I1.bare
    have keep' : ∀ b o, h3.get? b = some o → h'.get? b = some o := fun b o e => hs'.extBut b o (Nat.ne_of_lt (Heap.lt_size e)) (Heap.get?_push_of_some _ e)
    refine hQ J H1 (upd H1 P (.tbl (ps ++ more))) _ _ it fp tn code s1.gens.size { s1 with heap := h3, toks := tk } q1 ⟨⟨ps ++ more, upd_same, ht3⟩, fun b hb => upd_ne hb⟩
      ⟨J3, fun b hb => ⟨⟨by rw [upd_ne (fnP b hb)]; exact (f1 b hb).1, (f1 b hb).2⟩, Nat.lt_of_lt_of_le (lt1 b hb) hsz⟩, T, T.keep _ _ _ st1 fun b hb o e => k3 b o (fnP b hb) e,
        fun b o e => Heap.get?_push_of_some _ (keep' b o e), hn'.push _, by show (s1.gens.push _)[s1.gens.size]? = _; simp, ⟨_, _, _, Heap.get?_push_size _ rfl, rfl, rfl, rfl⟩, rfl, AllBare.push I1.bare rfl, ?_⟩
    show h3.objs.size ≤ h'.objs.size
    have : h'.objs.size = h3.objs.size + 1 := by rw [hs'.1, Heap.size_push]
    omega
  cases hf : codeAmong gpos ps.toList with
  | none =>
    refine wpAny_genexprCodeX hcode (cd.code hPs ht) (cd.tab hPs) hf fun c' h' tk hx hge hlt hco' _ htab' _ => ?_
    obtain ⟨o1, vs, f1', tf, fl, tg', inF, tx, tt, op, _, _, _, _, _, _, _, _, _, htr, _⟩ := hco'
    exact cont _ h' tk _ (fun b o hb e => hx b o hb e) htab'.2 (Nat.le_trans hge (Nat.le_of_lt hlt)) htr
  | some cv =>
    refine wpAny_genexprCode_hit hcode (cd.code hPs ht) hf ?_
    have := cont cv s1.heap s1.toks #[] (fun b o _ e => e) (by simpa using hPs) (Nat.le_refl _) (by simpa using ht)
    exact this
end
/-- the reading -/
def tGenB2 (K : PySem.W.Frag) (P : Addr) (all no : Bool) (wi : TI) (g : TG) (tt : TT) (wi1 : TI) (g1 : TG) (tt1 : TT) (te : TE) (vs vs1 : List Nat) : TE := fun σ H Q => wi σ H fun J H1 => GxR.TabG H1 P ∧ ∀ H2, GxR.Tabbed P H1 H2 →
  ∃ W : Nat → Nat → Hp → Prop, (∃ m, W 0 m H2) ∧ TurnR2 K J g tt wi1 g1 tt1 te σ vs vs1 (cB all fun H => Q (.bl no) H) W fun H => Q (.bl all) H
section
variable {X : Cx} {pins : List (Addr × Obj)} {σ : L2.St} {H : Hp} {s : Shared}
/-- all(elt for tg in iter if ..) -/
theorem pe_genall2 {c P : Addr} {elt tg iter tg1 iter1 : Expr} {ifs ifs1 : List Expr} {scope : Scope} {own : List (Str × Nat)} {gpos p pos : Pos} {wi wi1 : TI} {g g1 : TG} {tt tt1 : L2.TT} {te : TE} {vs1 : List Nat} {k : Nat}
    (hr : Room k X.A) (hc : X.calm = true) (hN : X.N.Nodup) (hgl : Gl X "all") (hm : X.mg "all" = none) (TB : GxR.TabB X.base X.mg c P) (hcode : X.env.code = .ref c) (ok : BlkOk X.N X.env.scope scope own) (ncell : ∀ y ∈ scope.names, y.2 ≠ .cell)
    (hco : scope.isCoroutine = false) (dot : scope.names.lookup (".0" : Str) = some NameKind.local) (hi : PI X tg iter wi) (hv : ∀ i ∈ vs1, i ∈ own.map (fun (q : Str × Nat) => q.2))
    (hg : ∀ (s : Shared) (H : Hp) (C : Addr) (code : Value) (fp : List Addr), PG (gcx X X.A.in1.in1 s H (genv X scope C code builtinsNs) fp) tg g)
    (ht : ∀ (s : Shared) (H : Hp) (C : Addr) (code : Value) (fp : List Addr), PTs (gcx X X.A.in1.in1 s H (genv X scope C code builtinsNs) fp) ifs tt)
    (hi1 : ∀ (s : Shared) (H : Hp) (C : Addr) (code : Value) (fp : List Addr), PI (gcx X X.A.in1.in1 s H (genv X scope C code builtinsNs) fp) tg1 iter1 wi1)
    (hg1 : ∀ (s : Shared) (H : Hp) (C : Addr) (code : Value) (fp : List Addr), PG (gcx X X.A.in1.in1 s H (genv X scope C code builtinsNs) fp) tg1 g1)
    (ht1 : ∀ (s : Shared) (H : Hp) (C : Addr) (code : Value) (fp : List Addr), PTs (gcx X X.A.in1.in1 s H (genv X scope C code builtinsNs) fp) ifs1 tt1)
    (he : ∀ (s : Shared) (H : Hp) (C : Addr) (code : Value) (fp : List Addr), PE (gcx X X.A.in1.in1 s H (genv X scope C code builtinsNs) fp) elt te)
    (hs : ∀ v, genFold iter X.env v = pure v := by intro _; rfl) (hs1 : ∀ env x, foldedSetIterable iter1 env x = pure x := by intro _ _; rfl)
    (hst : starEach [gex2 elt tg iter ifs tg1 iter1 ifs1 scope gpos] X.env = (false, eval (gex2 elt tg iter ifs tg1 iter1 ifs1 scope gpos) X.env) :: starEach [] X.env := by rfl) :
    PE X (.Call (.Name "all" p) [gex2 elt tg iter ifs tg1 iter1 ifs1 scope gpos] [] pos) (tGenB2 X.K P true false wi g tt wi1 g1 tt1 te (own.map (·.2)) vs1) := by
  refine ⟨fun pins s σ H Q I h => ?_⟩
  refine wpAny_Call_Name_kw (ld_blt I hgl hm (by rfl : bootBuiltins "all" = some (.builtin "all")) ?_)
  refine PyProof.Rows.callWith_builtin1 ?_ hst (by rfl)
  rw [hst]
  show wpAny _ _ (spliced ((false, eval (gex2 elt tg iter ifs tg1 iter1 ifs1 scope gpos) X.env) :: backTo pos (starEach [] X.env))) _ _ s
  have free : ∀ y ∈ scope.names, y.2 = .free → ∃ c, X.env.cells.lookup y.1 = some c := fun y hy e => by
    rcases ok.free y hy e with k | k
    · exact I.ok.has _ (.inl k)
    · exact I.ok.has _ (.inr k)
  refine Calls.spliced_cons (gen_make2 (R := fun J H1 => ∀ H2, GxR.Tabbed P H1 H2 → ∃ W : Nat → Nat → Hp → Prop, (∃ m, W 0 m H2) ∧ TurnR2 X.K J g tt wi1 g1 tt1 te σ (own.map (fun (q : Str × Nat) => q.2)) vs1 (cB true fun H => Q (.bl false) H) W fun H => Q (.bl true) H)
    hr TB hcode free ncell hco ok.kind dot hi hs I h fun J H1 H2 a s5 it fp tn code gi s4 hR hT F => ?_)
  obtain ⟨W, ⟨m, w0⟩, TR⟩ := hR H2 hT
  refine Calls.spliced_nil ?_
  refine call_function_tree PySem.F.kind_all PySem.F.plain_all PySem.F.entry_all (PySem.F.args_all1 _) ?_
  unfold Builtin.«all»
  refine wpAny_bind (m := oneArg "all" _) (wpAny_pure ?_)
  refine wpAny_bind (wpAny_pyIter_gen F.isg ?_)
  obtain ⟨o, nm, qn, ho, hcl, hd, hsl⟩ := id F.isg
  have hgo : ∀ h : Heap, h.get? a = some o → h.IsGen a gi := fun h e => ⟨o, nm, qn, e, hcl, hd, hsl⟩
  have na : H2 a = none := F.inv.hok.fresh F.new
  have nal : a ≠ s4.heap.objs.size := fun z => by
    obtain ⟨of, es, ep, hof, hdf, _⟩ := F.ns
    rw [← z, ho] at hof
    cases hof
    rw [hd] at hdf
    cases hdf
  have start : ∀ s', Sl s5 s' → Inv (gcx X X.A.in1.in1 s4 H2 (genv X scope s4.heap.objs.size code builtinsNs) fp) [(a, o)] (wipe σ (own.map (·.2))) H2 s' := fun s' z => by
    have I0 := gen_start (fp := fp) (code := code) (it := .ref it) (bi := builtinsNs) (h' := s'.heap) (G := s'.gens) (t := s'.toks) F.inv hc hN ok ncell F.fps rfl (fun b o e => z.keep b o (F.kp b o e)) (F.ns.keeps z.keep) z.bare (B := X.A.in1.in1) rfl rfl
    have I1 := Inv.slept I0 (s' := s') ⟨z.os.trans F.os, z.bare, fun _ _ e => e⟩
    exact I1.pins_of fun p hp => by
      simp at hp; subst hp
      refine ⟨z.keep _ _ ho, na, nal, fun hm => ?_, fun v q => by rw [hd] at q; cases q⟩
      exact F.inv.nofs F.new ((List.mem_cons.mp (F.inv.stkSub a hm)).elim (fun e => absurd F.inv.lt (by rw [← e]; exact Nat.not_lt.mpr F.new)) id)
  have hIX : Inv X pins σ H2 s5 := Inv.slept F.inv ⟨F.os, F.bare, F.kp⟩
  refine wpAny_pure ⟨plainId_quiet PySem.F.plain_all_loop _, all_loop (X := X) (pins := pins) (σ := σ) (End := fun H => Q (.bl true) H) (Out := fun H => Q (.bl false) H) hr (fun H' s' I' q => ⟨.bl true, H', I', rfl, q⟩) (fun H' s' I' q => ⟨.bl false, H', I', rfl, q⟩)
    (m + 1) s5 F.isg hIX.nolimit ⟨_, F.gen, rfl, ?_⟩⟩
  have z0 : Sl s5 (s5.setGen gi .running) := sl_gen F.bare running_bare
  have I9 := start _ z0
  have st9 : tn 0 (s5.setGen gi .running).heap := F.turn.keep _ _ _ F.at0 fun b _ o e => F.kp b o e
  have loop := gen_seg2 (elt := elt) (iter := iter) (ifs := ifs) (ifs1 := ifs1) (scope := scope) (gpos := gpos) (g' := gi) (env := genv X scope s4.heap.objs.size code builtinsNs) hc hco F.inv F.fps F.turn hv (hg s4 H2 s4.heap.objs.size code fp) (ht s4 H2 s4.heap.objs.size code fp) (hi1 s4 H2 s4.heap.objs.size code fp) (hg1 s4 H2 s4.heap.objs.size code fp) (ht1 s4 H2 s4.heap.objs.size code fp) (he s4 H2 s4.heap.objs.size code fp) (hs1 _) TR hgo F.new m 0 (m + 1)
    (s5.setGen gi .running) (s5.setGen gi .running) H2 (Nat.lt_succ_self _) w0 I9 st9 fun b hb => (F.fps b hb).1.1
  show Seg _ _ _ _ _ _ _ ((compStart (gex2 elt tg iter ifs tg1 iter1 ifs1 scope gpos) 0 (.ref it) .none (genv X scope s4.heap.objs.size code builtinsNs)).onRaise (leaving _)) [] _
  unfold compStart
  rw [Sem.onRaise_eq_wrap]
  show Seg _ _ _ _ _ _ _ ((ask >>= _).wrap _ _ _ _) [] _
  refine seg_bind_wrap (wpAny_askSetting ?_)
  split
  · exact seg_again rfl loop
  · refine seg_bind_wrap (wpAny_rule ?_)
    show Seg _ _ _ _ _ _ _ ((standAt iter.pos >>= _).wrap _ _ _ _) [] _
    exact seg_bind_wrap (wpAny_standAt (seg_bind_wrap (F.turn.self _ 0 _ _ _ st9 (seg_again rfl loop))))
/-- any(elt for tg in iter if ..) -/
theorem pe_genany2 {c P : Addr} {elt tg iter tg1 iter1 : Expr} {ifs ifs1 : List Expr} {scope : Scope} {own : List (Str × Nat)} {gpos p pos : Pos} {wi wi1 : TI} {g g1 : TG} {tt tt1 : L2.TT} {te : TE} {vs1 : List Nat} {k : Nat}
    (hr : Room k X.A) (hc : X.calm = true) (hN : X.N.Nodup) (hgl : Gl X "any") (hm : X.mg "any" = none) (TB : GxR.TabB X.base X.mg c P) (hcode : X.env.code = .ref c) (ok : BlkOk X.N X.env.scope scope own) (ncell : ∀ y ∈ scope.names, y.2 ≠ .cell)
    (hco : scope.isCoroutine = false) (dot : scope.names.lookup (".0" : Str) = some NameKind.local) (hi : PI X tg iter wi) (hv : ∀ i ∈ vs1, i ∈ own.map (fun (q : Str × Nat) => q.2))
    (hg : ∀ (s : Shared) (H : Hp) (C : Addr) (code : Value) (fp : List Addr), PG (gcx X X.A.in1.in1 s H (genv X scope C code builtinsNs) fp) tg g)
    (ht : ∀ (s : Shared) (H : Hp) (C : Addr) (code : Value) (fp : List Addr), PTs (gcx X X.A.in1.in1 s H (genv X scope C code builtinsNs) fp) ifs tt)
    (hi1 : ∀ (s : Shared) (H : Hp) (C : Addr) (code : Value) (fp : List Addr), PI (gcx X X.A.in1.in1 s H (genv X scope C code builtinsNs) fp) tg1 iter1 wi1)
    (hg1 : ∀ (s : Shared) (H : Hp) (C : Addr) (code : Value) (fp : List Addr), PG (gcx X X.A.in1.in1 s H (genv X scope C code builtinsNs) fp) tg1 g1)
    (ht1 : ∀ (s : Shared) (H : Hp) (C : Addr) (code : Value) (fp : List Addr), PTs (gcx X X.A.in1.in1 s H (genv X scope C code builtinsNs) fp) ifs1 tt1)
    (he : ∀ (s : Shared) (H : Hp) (C : Addr) (code : Value) (fp : List Addr), PE (gcx X X.A.in1.in1 s H (genv X scope C code builtinsNs) fp) elt te)
    (hs : ∀ v, genFold iter X.env v = pure v := by intro _; rfl) (hs1 : ∀ env x, foldedSetIterable iter1 env x = pure x := by intro _ _; rfl)
    (hst : starEach [gex2 elt tg iter ifs tg1 iter1 ifs1 scope gpos] X.env = (false, eval (gex2 elt tg iter ifs tg1 iter1 ifs1 scope gpos) X.env) :: starEach [] X.env := by rfl) :
    PE X (.Call (.Name "any" p) [gex2 elt tg iter ifs tg1 iter1 ifs1 scope gpos] [] pos) (tGenB2 X.K P false true wi g tt wi1 g1 tt1 te (own.map (·.2)) vs1) := by
  refine ⟨fun pins s σ H Q I h => ?_⟩
  refine wpAny_Call_Name_kw (ld_blt I hgl hm (by rfl : bootBuiltins "any" = some (.builtin "any")) ?_)
  refine PyProof.Rows.callWith_builtin1 ?_ hst (by rfl)
  rw [hst]
  show wpAny _ _ (spliced ((false, eval (gex2 elt tg iter ifs tg1 iter1 ifs1 scope gpos) X.env) :: backTo pos (starEach [] X.env))) _ _ s
  have free : ∀ y ∈ scope.names, y.2 = .free → ∃ c, X.env.cells.lookup y.1 = some c := fun y hy e => by
    rcases ok.free y hy e with k | k
    · exact I.ok.has _ (.inl k)
    · exact I.ok.has _ (.inr k)
  refine Calls.spliced_cons (gen_make2 (R := fun J H1 => ∀ H2, GxR.Tabbed P H1 H2 → ∃ W : Nat → Nat → Hp → Prop, (∃ m, W 0 m H2) ∧ TurnR2 X.K J g tt wi1 g1 tt1 te σ (own.map (fun (q : Str × Nat) => q.2)) vs1 (cB false fun H => Q (.bl true) H) W fun H => Q (.bl false) H)
    hr TB hcode free ncell hco ok.kind dot hi hs I h fun J H1 H2 a s5 it fp tn code gi s4 hR hT F => ?_)
  obtain ⟨W, ⟨m, w0⟩, TR⟩ := hR H2 hT
  refine Calls.spliced_nil ?_
  refine call_function_tree PySem.F.kind_any PySem.F.plain_any PySem.F.entry_any (PySem.F.args_any1 _) ?_
  unfold Builtin.«any»
  refine wpAny_bind (m := oneArg "any" _) (wpAny_pure ?_)
  refine wpAny_bind (wpAny_pyIter_gen F.isg ?_)
  obtain ⟨o, nm, qn, ho, hcl, hd, hsl⟩ := id F.isg
  have hgo : ∀ h : Heap, h.get? a = some o → h.IsGen a gi := fun h e => ⟨o, nm, qn, e, hcl, hd, hsl⟩
  have na : H2 a = none := F.inv.hok.fresh F.new
  have nal : a ≠ s4.heap.objs.size := fun z => by
    obtain ⟨of, es, ep, hof, hdf, _⟩ := F.ns
    rw [← z, ho] at hof
    cases hof
    rw [hd] at hdf
    cases hdf
  have start : ∀ s', Sl s5 s' → Inv (gcx X X.A.in1.in1 s4 H2 (genv X scope s4.heap.objs.size code builtinsNs) fp) [(a, o)] (wipe σ (own.map (·.2))) H2 s' := fun s' z => by
    have I0 := gen_start (fp := fp) (code := code) (it := .ref it) (bi := builtinsNs) (h' := s'.heap) (G := s'.gens) (t := s'.toks) F.inv hc hN ok ncell F.fps rfl (fun b o e => z.keep b o (F.kp b o e)) (F.ns.keeps z.keep) z.bare (B := X.A.in1.in1) rfl rfl
    have I1 := Inv.slept I0 (s' := s') ⟨z.os.trans F.os, z.bare, fun _ _ e => e⟩
    exact I1.pins_of fun p hp => by
      simp at hp; subst hp
      refine ⟨z.keep _ _ ho, na, nal, fun hm => ?_, fun v q => by rw [hd] at q; cases q⟩
      exact F.inv.nofs F.new ((List.mem_cons.mp (F.inv.stkSub a hm)).elim (fun e => absurd F.inv.lt (by rw [← e]; exact Nat.not_lt.mpr F.new)) id)
  have hIX : Inv X pins σ H2 s5 := Inv.slept F.inv ⟨F.os, F.bare, F.kp⟩
  refine wpAny_pure ⟨plainId_quiet PySem.F.plain_any_loop _, any_loop (X := X) (pins := pins) (σ := σ) (End := fun H => Q (.bl false) H) (Out := fun H => Q (.bl true) H) hr (fun H' s' I' q => ⟨.bl false, H', I', rfl, q⟩) (fun H' s' I' q => ⟨.bl true, H', I', rfl, q⟩)
    (m + 1) s5 F.isg hIX.nolimit ⟨_, F.gen, rfl, ?_⟩⟩
  have z0 : Sl s5 (s5.setGen gi .running) := sl_gen F.bare running_bare
  have I9 := start _ z0
  have st9 : tn 0 (s5.setGen gi .running).heap := F.turn.keep _ _ _ F.at0 fun b _ o e => F.kp b o e
  have loop := gen_seg2 (elt := elt) (iter := iter) (ifs := ifs) (ifs1 := ifs1) (scope := scope) (gpos := gpos) (g' := gi) (env := genv X scope s4.heap.objs.size code builtinsNs) hc hco F.inv F.fps F.turn hv (hg s4 H2 s4.heap.objs.size code fp) (ht s4 H2 s4.heap.objs.size code fp) (hi1 s4 H2 s4.heap.objs.size code fp) (hg1 s4 H2 s4.heap.objs.size code fp) (ht1 s4 H2 s4.heap.objs.size code fp) (he s4 H2 s4.heap.objs.size code fp) (hs1 _) TR hgo F.new m 0 (m + 1)
    (s5.setGen gi .running) (s5.setGen gi .running) H2 (Nat.lt_succ_self _) w0 I9 st9 fun b hb => (F.fps b hb).1.1
  show Seg _ _ _ _ _ _ _ ((compStart (gex2 elt tg iter ifs tg1 iter1 ifs1 scope gpos) 0 (.ref it) .none (genv X scope s4.heap.objs.size code builtinsNs)).onRaise (leaving _)) [] _
  unfold compStart
  rw [Sem.onRaise_eq_wrap]
  show Seg _ _ _ _ _ _ _ ((ask >>= _).wrap _ _ _ _) [] _
  refine seg_bind_wrap (wpAny_askSetting ?_)
  split
  · exact seg_again rfl loop
  · refine seg_bind_wrap (wpAny_rule ?_)
    show Seg _ _ _ _ _ _ _ ((standAt iter.pos >>= _).wrap _ _ _ _) [] _
    exact seg_bind_wrap (wpAny_standAt (seg_bind_wrap (F.turn.self _ 0 _ _ _ st9 (seg_again rfl loop))))
end
end Gx

set_option Elab.async false
set_option linter.all false
set_option maxRecDepth 100000
set_option maxHeartbeats 2000000
/-! Zx1: zip of two sequences, each a list or a tuple -/
namespace Zx
open PySem PySem.Spec
/-- t: a tuple, not a list -/
def Src (t : Bool) (h : Heap) (l : Addr) (xs : Array Value) : Prop := if t = true then h.IsTuple l xs else h.IsList l xs
def SIt (t : Bool) (h : Heap) (it l : Addr) (k : Nat) : Prop := if t = true then h.IsTupleIter it l k else h.IsListIter it l k
def kn (t : Bool) : String := if t = true then "tuple_iterator" else "list_iterator"
theorem Src.ext {t : Bool} {h h' : Heap} {a b : Addr} {xs : Array Value} (x : Src t h a xs) (hs : Heap.ExtBut b h h') (hab : a ≠ b) : Src t h' a xs := by
  cases t with
  | true => exact Heap.IsTuple.extBut (show h.IsTuple a xs from x) hs hab
  | false => exact Heap.IsList.extBut (show h.IsList a xs from x) hs hab
theorem SIt.ext {t : Bool} {h h' : Heap} {a b l : Addr} {k : Nat} (x : SIt t h a l k) (hs : Heap.ExtBut b h h') (hab : a ≠ b) : SIt t h' a l k := by
  cases t with
  | true => exact Heap.IsTupleIter.extBut (show h.IsTupleIter a l k from x) hs hab
  | false => exact Heap.IsListIter.extBut (show h.IsListIter a l k from x) hs hab
theorem SIt.at {t : Bool} {h h' : Heap} {a l : Addr} {k : Nat} (x : SIt t h a l k) (e : ∀ o, h.get? a = some o → h'.get? a = some o) : SIt t h' a l k := by
  cases t with
  | true => exact Heap.IsTupleIter.at (show h.IsTupleIter a l k from x) e
  | false => exact Heap.IsListIter.at (show h.IsListIter a l k from x) e
theorem SIt.get {t : Bool} {h : Heap} {a l : Addr} {k : Nat} (x : SIt t h a l k) : ∃ o, h.get? a = some o ∧ ∀ v, o.data ≠ .cell v := by
  cases t with
  | true => obtain ⟨o, e, _, d⟩ := (show h.IsTupleIter a l k from x); exact ⟨o, e, fun v q => by rw [d] at q; cases q⟩
  | false => obtain ⟨o, e, _, d⟩ := (show h.IsListIter a l k from x); exact ⟨o, e, fun v q => by rw [d] at q; cases q⟩
theorem Src.lt {t : Bool} {h : Heap} {l : Addr} {xs : Array Value} (x : Src t h l xs) : l < h.objs.size := by
  cases t with
  | true => obtain ⟨_, e, _⟩ := (show h.IsTuple l xs from x); exact Heap.lt_size e
  | false => obtain ⟨_, e, _⟩ := (show h.IsList l xs from x); exact Heap.lt_size e
section
variable {prog : Program} {w : World} {A : Around} {E : Value → Shared → Prop} {s : Shared}
theorem nextS_item {t : Bool} {it l : Addr} {i : Nat} {items : Array Value} {x : Value} {Q : Value → Shared → Prop} (hit : SIt t s.heap it l i) (hl : Src t s.heap l items) (hx : items[i]? = some x)
    (hQ : ∀ h', SIt t h' it l (i + 1) → Heap.SameBut it s.heap h' → Q x { s with heap := h' }) : wpAny (model prog w) A (Builtin.SmallTypes.nextOf (.ref it)) Q E s := by
  cases t with
  | true => exact RZ.nextOf_tuple_item (show s.heap.IsTupleIter it l i from hit) (show s.heap.IsTuple l items from hl) hx fun h' a b => hQ h' a b
  | false => exact wpAny_nextOf_list_item (show s.heap.IsListIter it l i from hit) (show s.heap.IsList l items from hl) hx fun h' a b => hQ h' a b
theorem nextS_end {t : Bool} {it l : Addr} {i : Nat} {items : Array Value} {Q : Value → Shared → Prop} (hh : A.handled = none) (hit : SIt t s.heap it l i) (hl : Src t s.heap l items) (hx : items[i]? = none)
    (hE : ∀ h' e, Heap.ExtBut it s.heap h' → (∃ o, h'.get? e = some o ∧ o.cls = .type "StopIteration") → E (.ref e) { s with heap := h' }) : wpAny (model prog w) A (Builtin.SmallTypes.nextOf (.ref it)) Q E s := by
  cases t with
  | true => exact RZ.nextOf_tuple_end hh (show s.heap.IsTupleIter it l i from hit) (show s.heap.IsTuple l items from hl) hx hE
  | false => exact wpAny_nextOf_list_end hh (show s.heap.IsListIter it l i from hit) (show s.heap.IsList l items from hl) hx hE
theorem zip_item {t1 t2 : Bool} {z TI TO i1 i2 l1 l2 : Addr} {k1 k2 : Nat} {xs ys : Array Value} {x y a b : Value} {Q : Value → Shared → Prop} (D : ZipApart z TI TO i1 i2 l1 l2)
    (hz : IsZip s.heap z TI TO .none) (hTI : IsPair s.heap TI (.ref i1) (.ref i2)) (hTO : IsPair s.heap TO a b)
    (h1 : SIt t1 s.heap i1 l1 k1) (h2 : SIt t2 s.heap i2 l2 k2) (hl1 : Src t1 s.heap l1 xs) (hl2 : Src t2 s.heap l2 ys) (hx : xs[k1]? = some x) (hy : ys[k2]? = some y)
    (hQ : ∀ h', IsZip h' z TI TO (rawInt s.heap.objs.size) → IsPair h' TO x y → SIt t1 h' i1 l1 (k1 + 1) → SIt t2 h' i2 l2 (k2 + 1) → IsPair h' s.heap.objs.size x y → h'.objs.size = s.heap.objs.size + 1 →
      (∀ c o, c ≠ z → c ≠ TO → c ≠ i1 → c ≠ i2 → s.heap.get? c = some o → h'.get? c = some o) → Q (.ref s.heap.objs.size) { s with heap := h' }) :
    wpAny (model prog w) A (Builtin.«zip.__next__» ⟨[.ref z], []⟩) (fun fin s' => ∃ v, fin = .done (.ret v) ∧ Q v s') E s := by
  show wpAny _ _ (field (.ref z) 2 >>= _) _ _ _
  refine wpAny_bind (wpAny_field hz rfl (x := .bool false) rfl ?_)
  show wpAny _ _ (field (.ref z) 3 >>= _) _ _ _
  refine wpAny_bind (wpAny_field hz rfl (x := .ref TI) rfl ?_)
  refine wpAny_bind (wpAny_seqItems hTI rfl ?_)
  show wpAny _ _ (Builtin.SmallTypes.ownedTupleIsFree (.ref z) >>= _) _ _ _
  refine wpAny_bind ?_
  unfold Builtin.SmallTypes.ownedTupleIsFree
  refine wpAny_bind (wpAny_field hz rfl (x := .none) rfl (wpAny_pure ?_))
  simp only [if_true]
  refine wpAny_bind (wpAny_rule ?_)
  refine wpAny_bind (wpAny_field hz rfl (x := .ref TO) rfl ?_)
  refine wpAny_bind (wpAny_setField_rec hz (by simp) fun h₁ hz₁ hs₁ => ?_)
  replace hz₁ : IsZip h₁ z TI TO .ellipsis := hz₁
  refine wpAny_bind ?_
  simp only [List.zipIdx_cons, List.zipIdx_nil, List.forIn_cons, List.forIn_nil]
  refine wpAny_bind (wpAny_bind (wpAny_onRaise ?_))
  show wpAny _ _ (Builtin.SmallTypes.nextOf (.ref i1) >>= _) _ _ _
  refine wpAny_bind (nextS_item (h1.ext hs₁.extBut D.i1z) (hl1.ext hs₁.extBut D.l1z) hx fun h₂ h1₂ hs₂ => wpAny_pure ?_)
  have hTO₂ : IsPair h₂ TO a b := hs₂.extBut _ _ D.TOi1 (hs₁.extBut _ _ D.TOz hTO)
  refine wpAny_bind (wpAny_seqItems hTO₂ rfl ?_)
  refine wpAny_bind (wpAny_updateSeq_pair hTO₂ fun h₃ hTO₃ hs₃ => ?_)
  replace hTO₃ : IsPair h₃ TO x b := hTO₃
  refine wpAny_bind (wpAny_letGo (wpAny_pure ?_))
  refine wpAny_bind (wpAny_bind (wpAny_onRaise ?_))
  show wpAny _ _ (Builtin.SmallTypes.nextOf (.ref i2) >>= _) _ _ _
  refine wpAny_bind (nextS_item (((h2.ext hs₁.extBut D.i2z).ext hs₂.extBut D.i12.symm).ext hs₃.extBut D.TOi2.symm)
    (((hl2.ext hs₁.extBut D.l2z).ext hs₂.extBut D.l2i1).ext hs₃.extBut D.l2TO) hy fun h₄ h2₄ hs₄ => wpAny_pure ?_)
  have hTO₄ : IsPair h₄ TO x b := hs₄.extBut _ _ D.TOi2 hTO₃
  refine wpAny_bind (wpAny_seqItems hTO₄ rfl ?_)
  refine wpAny_bind (wpAny_updateSeq_pair hTO₄ fun h₅ hTO₅ hs₅ => ?_)
  replace hTO₅ : IsPair h₅ TO x y := hTO₅
  refine wpAny_bind (wpAny_letGo (wpAny_pure (wpAny_pure ?_)))
  refine wpAny_bind (wpAny_seqItems hTO₅ rfl ?_)
  refine wpAny_bind (wpAny_newTuple ?_)
  have hsz : h₅.objs.size = s.heap.objs.size := by rw [hs₅.1, hs₄.1, hs₃.1, hs₂.1, hs₁.1]
  have hz₅ : IsZip h₅ z TI TO .ellipsis := hs₅.extBut _ _ D.TOz.symm (hs₄.extBut _ _ D.i2z.symm (hs₃.extBut _ _ D.TOz.symm (hs₂.extBut _ _ D.i1z.symm hz₁)))
  have hk₅ : ∀ c o, c ≠ z → c ≠ TO → c ≠ i1 → c ≠ i2 → s.heap.get? c = some o → h₅.get? c = some o := fun c o c1 c2 c3 c4 e =>
    hs₅.extBut _ _ c2 (hs₄.extBut _ _ c4 (hs₃.extBut _ _ c2 (hs₂.extBut _ _ c3 (hs₁.extBut _ _ c1 e))))
  have h1₅ : SIt t1 h₅ i1 l1 (k1 + 1) := ((h1₂.ext hs₃.extBut D.TOi1.symm).ext hs₄.extBut D.i12).ext hs₅.extBut D.TOi1.symm
  have h2₅ : SIt t2 h₅ i2 l2 (k2 + 1) := h2₄.ext hs₅.extBut D.TOi2.symm
  have hzlt : z < h₅.objs.size := Heap.lt_size hz₅
  show wpAny _ _ (Builtin.SmallTypes.ownedTupleHandOut (.ref z) (.ref h₅.objs.size) >>= _) _ _ _
  refine wpAny_bind ?_
  unfold Builtin.SmallTypes.ownedTupleHandOut
  have hz₆ : IsZip (h₅.push { cls := .type "tuple", data := .seq #[x, y] }) z TI TO .ellipsis := Heap.get?_push_of_some _ hz₅
  refine wpAny_bind (wpAny_setField_rec hz₆ (by simp) fun h₇ hz₇ hs₇ => ?_)
  replace hz₇ : IsZip h₇ z TI TO (rawInt h₅.objs.size) := hz₇
  refine wpAny_setField_rec hz₇ (by simp) fun h₈ hz₈ hs₈ => ?_
  replace hz₈ : IsZip h₈ z TI TO (rawInt h₅.objs.size) := hz₈
  have up : ∀ c o, c ≠ z → h₅.get? c = some o → h₈.get? c = some o := fun c o c1 e => hs₈.extBut _ _ c1 (hs₇.extBut _ _ c1 (Heap.get?_push_of_some _ e))
  have hT₈ : IsPair h₈ h₅.objs.size x y := hs₈.extBut _ _ (Nat.ne_of_gt hzlt) (hs₇.extBut _ _ (Nat.ne_of_gt hzlt) (Heap.get?_push_size _ rfl))
  have hz8 : h₈.objs.size = h₅.objs.size + 1 := by rw [hs₈.1, hs₇.1, Heap.size_push]
  rw [hsz] at hz₈ hT₈ hz8
  refine wpAny_pure ⟨_, rfl, ?_⟩
  show Q (.ref h₅.objs.size) _
  rw [hsz]
  exact hQ h₈ hz₈ (up _ _ D.TOz hTO₅) (h1₅.at fun o e => up _ o D.i1z e) (h2₅.at fun o e => up _ o D.i2z e) hT₈ hz8 fun c o c1 c2 c3 c4 e => up c o c1 (hk₅ c o c1 c2 c3 c4 e)
theorem zip_end {t1 t2 : Bool} {z TI TO i1 i2 l1 l2 : Addr} {k1 k2 : Nat} {xs ys : Array Value} {a b : Value} {Q : Fin → Shared → Prop} (hh : A.handled = none) (D : ZipApart z TI TO i1 i2 l1 l2)
    (hz : IsZip s.heap z TI TO .none) (hTI : IsPair s.heap TI (.ref i1) (.ref i2)) (hTO : IsPair s.heap TO a b)
    (h1 : SIt t1 s.heap i1 l1 k1) (h2 : SIt t2 s.heap i2 l2 k2) (hl1 : Src t1 s.heap l1 xs) (hl2 : Src t2 s.heap l2 ys) (hend : xs[k1]? = none ∨ ys[k2]? = none)
    (hE : ∀ h' e, (∀ c o, c ≠ z → c ≠ TO → c ≠ i1 → c ≠ i2 → s.heap.get? c = some o → h'.get? c = some o) → (∃ o, h'.get? e = some o ∧ o.cls = .type "StopIteration") → E (.ref e) { s with heap := h' }) :
    wpAny (model prog w) A (Builtin.«zip.__next__» ⟨[.ref z], []⟩) Q E s := by
  show wpAny _ _ (field (.ref z) 2 >>= _) _ _ _
  refine wpAny_bind (wpAny_field hz rfl (x := .bool false) rfl ?_)
  show wpAny _ _ (field (.ref z) 3 >>= _) _ _ _
  refine wpAny_bind (wpAny_field hz rfl (x := .ref TI) rfl ?_)
  refine wpAny_bind (wpAny_seqItems hTI rfl ?_)
  show wpAny _ _ (Builtin.SmallTypes.ownedTupleIsFree (.ref z) >>= _) _ _ _
  refine wpAny_bind ?_
  unfold Builtin.SmallTypes.ownedTupleIsFree
  refine wpAny_bind (wpAny_field hz rfl (x := .none) rfl (wpAny_pure ?_))
  simp only [if_true]
  refine wpAny_bind (wpAny_rule ?_)
  refine wpAny_bind (wpAny_field hz rfl (x := .ref TO) rfl ?_)
  refine wpAny_bind (wpAny_setField_rec hz (by simp) fun h₁ hz₁ hs₁ => ?_)
  replace hz₁ : IsZip h₁ z TI TO .ellipsis := hz₁
  refine wpAny_bind ?_
  simp only [List.zipIdx_cons, List.zipIdx_nil, List.forIn_cons, List.forIn_nil]
  refine wpAny_bind (wpAny_bind (wpAny_onRaise ?_))
  show wpAny _ _ (Builtin.SmallTypes.nextOf (.ref i1) >>= _) _ _ _
  cases hx : xs[k1]? with
  | none =>
    refine wpAny_bind (nextS_end hh (h1.ext hs₁.extBut D.i1z) (hl1.ext hs₁.extBut D.l1z) hx fun h₂ e hs₂ he => ?_)
    obtain ⟨oe, hoe, hce⟩ := he
    have hz₂ : IsZip h₂ z TI TO .ellipsis := hs₂ _ _ D.i1z.symm hz₁
    have hez : e ≠ z := fun x => by subst x; rw [hz₂] at hoe; cases hoe; simp at hce
    refine wpAny_setField_rec hz₂ (by simp) fun h₃ _ hs₃ => hE h₃ e (fun c o c1 _ c3 _ x => hs₃.extBut _ _ c1 (hs₂ _ _ c3 (hs₁.extBut _ _ c1 x))) ⟨oe, hs₃.extBut _ _ hez hoe, hce⟩
  | some x =>
    have hy : ys[k2]? = none := by rcases hend with h | h; rw [hx] at h; cases h; exact h
    refine wpAny_bind (nextS_item (h1.ext hs₁.extBut D.i1z) (hl1.ext hs₁.extBut D.l1z) hx fun h₂ h1₂ hs₂ => wpAny_pure ?_)
    have hTO₂ : IsPair h₂ TO a b := hs₂.extBut _ _ D.TOi1 (hs₁.extBut _ _ D.TOz hTO)
    refine wpAny_bind (wpAny_seqItems hTO₂ rfl ?_)
    refine wpAny_bind (wpAny_updateSeq_pair hTO₂ fun h₃ hTO₃ hs₃ => ?_)
    refine wpAny_bind (wpAny_letGo (wpAny_pure ?_))
    refine wpAny_bind (wpAny_bind (wpAny_onRaise ?_))
    show wpAny _ _ (Builtin.SmallTypes.nextOf (.ref i2) >>= _) _ _ _
    refine wpAny_bind (nextS_end hh (((h2.ext hs₁.extBut D.i2z).ext hs₂.extBut D.i12.symm).ext hs₃.extBut D.TOi2.symm)
      (((hl2.ext hs₁.extBut D.l2z).ext hs₂.extBut D.l2i1).ext hs₃.extBut D.l2TO) hy fun h₄ e hs₄ he => ?_)
    obtain ⟨oe, hoe, hce⟩ := he
    have hz₄ : IsZip h₄ z TI TO .ellipsis := hs₄ _ _ D.i2z.symm (hs₃.extBut _ _ D.TOz.symm (hs₂.extBut _ _ D.i1z.symm hz₁))
    have hez : e ≠ z := fun x => by subst x; rw [hz₄] at hoe; cases hoe; simp at hce
    refine wpAny_setField_rec hz₄ (by simp) fun h₅ _ hs₅ => hE h₅ e (fun c o c1 c2 c3 c4 x => hs₅.extBut _ _ c1 (hs₄ _ _ c4 (hs₃.extBut _ _ c2 (hs₂.extBut _ _ c3 (hs₁.extBut _ _ c1 x))))) ⟨oe, hs₅.extBut _ _ hez hoe, hce⟩
theorem pyNext_item {t1 t2 : Bool} {z TI TO i1 i2 l1 l2 : Addr} {k1 k2 : Nat} {xs ys : Array Value} {x y a b : Value} {Q : Option Value → Shared → Prop} (D : ZipApart z TI TO i1 i2 l1 l2)
    (hz : IsZip s.heap z TI TO .none) (hTI : IsPair s.heap TI (.ref i1) (.ref i2)) (hTO : IsPair s.heap TO a b)
    (h1 : SIt t1 s.heap i1 l1 k1) (h2 : SIt t2 s.heap i2 l2 k2) (hl1 : Src t1 s.heap l1 xs) (hl2 : Src t2 s.heap l2 ys) (hx : xs[k1]? = some x) (hy : ys[k2]? = some y)
    (hQ : ∀ h', IsZip h' z TI TO (rawInt s.heap.objs.size) → IsPair h' TO x y → SIt t1 h' i1 l1 (k1 + 1) → SIt t2 h' i2 l2 (k2 + 1) → IsPair h' s.heap.objs.size x y → h'.objs.size = s.heap.objs.size + 1 →
      (∀ c o, c ≠ z → c ≠ TO → c ≠ i1 → c ≠ i2 → s.heap.get? c = some o → h'.get? c = some o) → Q (some (.ref s.heap.objs.size)) { s with heap := h' }) :
    wpAny (model prog w) A (pyNext (.ref z)) Q E s := by
  have hT : s.TypeIs (.ref z) "zip" := ⟨_, hz, rfl⟩
  unfold pyNext
  exact wpAny_bind (wpAny_attempt (wpAny_callSpecial?_slot (name := Str.ofString "__next__") hT F.slot_zip_next
    (wpAny_call_entry F.slot_zip_next hT F.entry_zip_next
      (zip_item D hz hTI hTO h1 h2 hl1 hl2 hx hy fun h' a1 a2 a3 a4 a5 a6 a7 => wpAny_pure (hQ h' a1 a2 a3 a4 a5 a6 a7)) (F.args_zip_next_1 _))))
theorem pyNext_end {t1 t2 : Bool} {z TI TO i1 i2 l1 l2 : Addr} {k1 k2 : Nat} {xs ys : Array Value} {a b : Value} {Q : Option Value → Shared → Prop} (hh : A.handled = none) (D : ZipApart z TI TO i1 i2 l1 l2)
    (hz : IsZip s.heap z TI TO .none) (hTI : IsPair s.heap TI (.ref i1) (.ref i2)) (hTO : IsPair s.heap TO a b)
    (h1 : SIt t1 s.heap i1 l1 k1) (h2 : SIt t2 s.heap i2 l2 k2) (hl1 : Src t1 s.heap l1 xs) (hl2 : Src t2 s.heap l2 ys) (hend : xs[k1]? = none ∨ ys[k2]? = none)
    (hQ : ∀ h', (∀ c o, c ≠ z → c ≠ TO → c ≠ i1 → c ≠ i2 → s.heap.get? c = some o → h'.get? c = some o) → Q none { s with heap := h' }) : wpAny (model prog w) A (pyNext (.ref z)) Q E s := by
  have hT : s.TypeIs (.ref z) "zip" := ⟨_, hz, rfl⟩
  unfold pyNext
  refine wpAny_bind (wpAny_attempt (wpAny_callSpecial?_slot (name := Str.ofString "__next__") hT F.slot_zip_next
    (wpAny_call_entry F.slot_zip_next hT F.entry_zip_next (zip_end hh D hz hTI hTO h1 h2 hl1 hl2 hend fun h' e hk he => ?_) (F.args_zip_next_1 _))))
  obtain ⟨o, ho, hc⟩ := he
  refine wpAny_bind (wpAny_isInstance (T := "StopIteration") (b := true) ⟨o, ho, hc⟩ isSubtype_stop ?_)
  exact wpAny_pure (hQ _ hk)
end
def oIt (t : Bool) (l : Addr) : Obj := { cls := .type (kn t), data := .fields #[.ref l, .int 0 0] }
abbrev zx1 (t1 : Bool) (h : Heap) (l1 : Addr) : Heap := h.push (oIt t1 l1)
abbrev zx2 (t1 t2 : Bool) (h : Heap) (l1 l2 : Addr) : Heap := (zx1 t1 h l1).push (oIt t2 l2)
abbrev zx3 (t1 t2 : Bool) (h : Heap) (l1 l2 : Addr) : Heap := (zx2 t1 t2 h l1 l2).push { cls := .type "tuple", data := .seq #[.ref h.objs.size, .ref (zx1 t1 h l1).objs.size] }
abbrev zx4 (t1 t2 : Bool) (h : Heap) (l1 l2 : Addr) : Heap := (zx3 t1 t2 h l1 l2).push { cls := .type "tuple", data := .seq #[.none, .none] }
abbrev zx5 (t1 t2 : Bool) (h : Heap) (l1 l2 : Addr) : Heap := (zx4 t1 t2 h l1 l2).push { cls := .type "zip", data := .fields #[.none, .bool false, .bool false, .ref (zx2 t1 t2 h l1 l2).objs.size, .ref (zx3 t1 t2 h l1 l2).objs.size] }
theorem meets_new (t1 t2 : Bool) (l1 l2 : Addr) (xs ys : Array Value) :
    Meets (Builtin.«zip.__new__» ⟨[.type "zip", .ref l1, .ref l2], []⟩) (fun _ R s => Src t1 s.heap l1 xs ∧ Src t2 s.heap l2 ys ∧
      R (.ok (.ret (.ref (zx4 t1 t2 s.heap l1 l2).objs.size))) { s with heap := zx5 t1 t2 s.heap l1 l2 }) :=
  .of_wp fun prog w A R s h => by
    obtain ⟨hp, g, d, tk, os⟩ := s; obtain ⟨hl1, hl2, h⟩ := h
    have hsub := sub_zip
    cases t1 with
    | true =>
      have hL1 : Heap.IsTuple (Shared.heap ⟨hp, g, d, tk, os⟩) l1 xs := hl1
      cases t2 with
      | true =>
        have hL2 : Heap.IsTuple (Shared.heap ⟨hp.push { cls := .type "tuple_iterator", data := .fields #[.ref l1, .int 0 0] }, g, d, tk, os⟩) l2 ys := Heap.IsTuple.push hl2 _
        wp_walk using wpAny_pyIter_tuple hL1, wpAny_pyIter_tuple hL2
        exact ⟨_, rfl, h⟩
      | false =>
        have hL2 : Heap.IsList (Shared.heap ⟨hp.push { cls := .type "tuple_iterator", data := .fields #[.ref l1, .int 0 0] }, g, d, tk, os⟩) l2 ys := Heap.IsList.push hl2 _
        wp_walk using wpAny_pyIter_tuple hL1, wpAny_pyIter_list hL2
        exact ⟨_, rfl, h⟩
    | false =>
      have hL1 : Heap.IsList (Shared.heap ⟨hp, g, d, tk, os⟩) l1 xs := hl1
      cases t2 with
      | true =>
        have hL2 : Heap.IsTuple (Shared.heap ⟨hp.push { cls := .type "list_iterator", data := .fields #[.ref l1, .int 0 0] }, g, d, tk, os⟩) l2 ys := Heap.IsTuple.push hl2 _
        wp_walk using wpAny_pyIter_list hL1, wpAny_pyIter_tuple hL2
        exact ⟨_, rfl, h⟩
      | false =>
        have hL2 : Heap.IsList (Shared.heap ⟨hp.push { cls := .type "list_iterator", data := .fields #[.ref l1, .int 0 0] }, g, d, tk, os⟩) l2 ys := Heap.IsList.push hl2 _
        wp_walk using wpAny_pyIter_list hL1, wpAny_pyIter_list hL2
        exact ⟨_, rfl, h⟩
theorem oIt_at {t : Bool} {h : Heap} {it l : Addr} (e : h.get? it = some (oIt t l)) : SIt t h it l 0 := by
  cases t with
  | true => exact show h.IsTupleIter it l 0 from ⟨_, e, rfl, rfl⟩
  | false => exact show h.IsListIter it l 0 from ⟨_, e, rfl, rfl⟩
section
variable {prog : Program} {w : World} {A : Around} {E : Value → Shared → Prop} {s : Shared}
theorem oIt_free {t : Bool} {l : Addr} : (oIt t l).isFreed = false := by cases t <;> rfl
theorem call_new {t1 t2 : Bool} {l1 l2 : Addr} {xs ys : Array Value} {Q : Value → Shared → Prop} (hl1 : Src t1 s.heap l1 xs) (hl2 : Src t2 s.heap l2 ys)
    (h : ∀ h', IsZip h' (s.heap.objs.size + 4) (s.heap.objs.size + 2) (s.heap.objs.size + 3) .none → IsPair h' (s.heap.objs.size + 2) (.ref s.heap.objs.size) (.ref (s.heap.objs.size + 1)) →
      IsPair h' (s.heap.objs.size + 3) .none .none → SIt t1 h' s.heap.objs.size l1 0 → SIt t2 h' (s.heap.objs.size + 1) l2 0 → h'.objs.size = s.heap.objs.size + 5 →
      (∀ c o, s.heap.get? c = some o → h'.get? c = some o) → Q (.ref (s.heap.objs.size + 4)) { s with heap := h' }) :
    wpAny (model prog w) A (call (.type "zip") [.ref l1, .ref l2]) Q E s := by
  refine callType_new F.called_zip (by decide) (F.typeCall_zip_2 _ _) (F.newCall_zip_2 _ _) (fun obj => F.args_object_init_3 obj _ _) F.entry_zip_new
    (meets_new t1 t2 l1 l2 xs ys) ⟨hl1, hl2, ?_⟩
  have z1 : (zx1 t1 s.heap l1).objs.size = s.heap.objs.size + 1 := Heap.size_push ..
  have z2 : (zx2 t1 t2 s.heap l1 l2).objs.size = s.heap.objs.size + 2 := by rw [Heap.size_push, z1]
  have z3 : (zx3 t1 t2 s.heap l1 l2).objs.size = s.heap.objs.size + 3 := by rw [Heap.size_push, z2]
  have z4 : (zx4 t1 t2 s.heap l1 l2).objs.size = s.heap.objs.size + 4 := by rw [Heap.size_push, z3]
  have z5 : (zx5 t1 t2 s.heap l1 l2).objs.size = s.heap.objs.size + 5 := by rw [Heap.size_push, z4]
  have g5 : (zx5 t1 t2 s.heap l1 l2).get? (zx4 t1 t2 s.heap l1 l2).objs.size = some _ := Heap.get?_push_size _ rfl
  have g4 : (zx5 t1 t2 s.heap l1 l2).get? (zx3 t1 t2 s.heap l1 l2).objs.size = some _ := Heap.get?_push_of_some _ (Heap.get?_push_size _ rfl)
  have g3 : (zx5 t1 t2 s.heap l1 l2).get? (zx2 t1 t2 s.heap l1 l2).objs.size = some _ := Heap.get?_push_of_some _ (Heap.get?_push_of_some _ (Heap.get?_push_size _ rfl))
  have g2 : (zx5 t1 t2 s.heap l1 l2).get? (zx1 t1 s.heap l1).objs.size = some _ := Heap.get?_push_of_some _ (Heap.get?_push_of_some _ (Heap.get?_push_of_some _ (Heap.get?_push_size _ oIt_free)))
  have g1 : (zx5 t1 t2 s.heap l1 l2).get? s.heap.objs.size = some _ := Heap.get?_push_of_some _ (Heap.get?_push_of_some _ (Heap.get?_push_of_some _ (Heap.get?_push_of_some _ (Heap.get?_push_size _ oIt_free))))
  show _ ∧ _
  rw [z2, z3, z4] at g5
  rw [z1, z2] at g3
  rw [z3] at g4
  rw [z1] at g2
  rw [z4]
  exact ⟨⟨_, g5, rfl⟩, h _ g5 g3 g4 (oIt_at g1) (oIt_at g2) z5 fun c o x =>
    Heap.get?_push_of_some _ (Heap.get?_push_of_some _ (Heap.get?_push_of_some _ (Heap.get?_push_of_some _ (Heap.get?_push_of_some _ x))))⟩
end
end Zx

set_option Elab.async false
set_option linter.all false
set_option maxRecDepth 100000
set_option maxHeartbeats 2000000
/-! Mp: data as trees, a store of what changes, and what they denote over the hand layer -/
namespace Mp
open PySem PySem.Spec PyProof.Rows L2

/-- data: tuples are trees, what may change stands in the store by a number -/
inductive D where
  | non
  | bl (b : Bool)
  | int (i : Int)
  | str (x : Str)
  | adr (n : Nat)
  | tup (xs : List D)

mutual
def D.low (b : Nat) : D → Bool
  | .adr n => decide (n < b)
  | .tup ds => D.lowL b ds
  | _ => true
def D.lowL (b : Nat) : List D → Bool
  | [] => true
  | d :: r => D.low b d && D.lowL b r
end

inductive MO where
  | lst (xs : List D)
  | frz (xs : List D)
  | dic (kvs : List (D × D))
  | ins (C : Addr) (fs : List (Str × D))
def MO.low (b : Nat) : MO → Bool
  | .lst xs => D.lowL b xs
  | .frz xs => D.lowL b xs
  | .dic kvs => kvs.all fun p => D.low b p.1 && D.low b p.2
  | .ins _ fs => fs.all fun p => D.low b p.2
abbrev Sto := List MO
abbrev Env := List (Option D)

mutual
/-- the value v is the datum d -/
def Den (K : PySem.W.Frag) (H : Hp) (ρ : List Addr) : D → V → Prop
  | .non, v => v = .non
  | .bl b, v => v = .bl b
  | .int i, v => v = .int i
  | .str x, v => v = .str x
  | .adr n, v => ∃ a : Addr, ρ[n]? = some a ∧ v = .ref a
  | .tup ds, v => ∃ a vs, v = .ref a ∧ SqT K H a vs ∧ DenL K H ρ ds vs
def DenL (K : PySem.W.Frag) (H : Hp) (ρ : List Addr) : List D → List V → Prop
  | [], vs => vs = []
  | d :: ds, vs => ∃ v r, vs = v :: r ∧ Den K H ρ d v ∧ DenL K H ρ ds r
end

/-- later: the tuples are kept, the store's places are kept -/
structure Ext (ρ : List Addr) (H : Hp) (ρ' : List Addr) (H' : Hp) : Prop where
  pre : ρ <+: ρ'
  tup : ∀ b xs, H b = some (.tup xs) → H' b = some (.tup xs)
  frz : ∀ b o u, H b = some (.frz o u) → H' b = some (.frz o u)
  xd : ∀ b fs, H b = some (.xd fs) → H' b = some (.xd fs)
theorem Ext.refl (ρ : List Addr) (H : Hp) : Ext ρ H ρ H := ⟨List.prefix_refl _, fun _ _ h => h, fun _ _ _ h => h, fun _ _ h => h⟩
theorem Ext.trans {ρ ρ1 ρ2 : List Addr} {H H1 H2 : Hp} (a : Ext ρ H ρ1 H1) (b : Ext ρ1 H1 ρ2 H2) : Ext ρ H ρ2 H2 :=
  ⟨a.pre.trans b.pre, fun c xs h => b.tup c xs (a.tup c xs h), fun c o u h => b.frz c o u (a.frz c o u h), fun c fs h => b.xd c fs (a.xd c fs h)⟩
theorem Ext.sqT {ρ ρ' : List Addr} {K : PySem.W.Frag} {H H' : Hp} {a : Addr} {xs : List V} (e : Ext ρ H ρ' H') (h : SqT K H a xs) : SqT K H' a xs := by
  rcases h with (h | ⟨o, h⟩) | h
  · exact .inl (.inl (e.tup _ _ h))
  · exact .inl (.inr ⟨o, e.frz _ _ _ h⟩)
  · exact .inr h
theorem pre_get {ρ ρ' : List Addr} (h : ρ <+: ρ') {n : Nat} {a : Addr} (e : ρ[n]? = some a) : ρ'[n]? = some a := by
  obtain ⟨t, rfl⟩ := h
  rw [List.getElem?_append_left (List.getElem?_eq_some_iff.mp e).1]; exact e
mutual
theorem Den.mono {K : PySem.W.Frag} {H H' : Hp} {ρ ρ' : List Addr} (x : Ext ρ H ρ' H') : ∀ (d : D) {v : V}, Den K H ρ d v → Den K H' ρ' d v
  | .non, _, h => h
  | .bl _, _, h => h
  | .int _, _, h => h
  | .str _, _, h => h
  | .adr n, _, h => by
    unfold Den at h ⊢
    obtain ⟨a, e, h⟩ := h
    exact ⟨a, pre_get x.pre e, h⟩
  | .tup ds, _, h => by
    unfold Den at h ⊢
    obtain ⟨a, vs, e, h, l⟩ := h
    exact ⟨a, vs, e, x.sqT h, DenL.mono x ds l⟩
theorem DenL.mono {K : PySem.W.Frag} {H H' : Hp} {ρ ρ' : List Addr} (x : Ext ρ H ρ' H') : ∀ (ds : List D) {vs : List V}, DenL K H ρ ds vs → DenL K H' ρ' ds vs
  | [], _, h => h
  | d :: ds, _, h => by
    unfold DenL at h ⊢
    obtain ⟨v, r, e, h, l⟩ := h
    exact ⟨v, r, e, Den.mono x d h, DenL.mono x ds l⟩
end
mutual
/-- data below b need only b places of the store -/
theorem Den.lower {K : PySem.W.Frag} {H : Hp} {ρ : List Addr} {b : Nat} : ∀ (d : D) {v : V}, D.low b d = true → Den K H ρ d v → Den K H (ρ.take b) d v
  | .non, _, _, h => h
  | .bl _, _, _, h => h
  | .int _, _, _, h => h
  | .str _, _, _, h => h
  | .adr n, _, l, h => by
    unfold Den at h ⊢
    obtain ⟨a, e, h⟩ := h
    have l' : n < b := by simpa [D.low] using l
    exact ⟨a, by rw [List.getElem?_take_of_lt l']; exact e, h⟩
  | .tup ds, _, l, h => by
    unfold Den at h ⊢
    obtain ⟨a, vs, e, h, q⟩ := h
    exact ⟨a, vs, e, h, DenL.lower ds (by simpa [D.low] using l) q⟩
theorem DenL.lower {K : PySem.W.Frag} {H : Hp} {ρ : List Addr} {b : Nat} : ∀ (ds : List D) {vs : List V}, D.lowL b ds = true → DenL K H ρ ds vs → DenL K H (ρ.take b) ds vs
  | [], _, _, h => h
  | d :: ds, _, l, h => by
    unfold DenL at h ⊢
    obtain ⟨v, r, e, h, q⟩ := h
    have l' : D.low b d = true ∧ D.lowL b ds = true := by simpa [D.lowL] using l
    exact ⟨v, r, e, Den.lower d l'.1 h, DenL.lower ds l'.2 q⟩
end
theorem DenL.length {K : PySem.W.Frag} {H : Hp} {ρ : List Addr} : ∀ {ds : List D} {vs : List V}, DenL K H ρ ds vs → ds.length = vs.length
  | [], _, h => by unfold DenL at h; subst h; rfl
  | d :: ds, _, h => by
    unfold DenL at h
    obtain ⟨v, r, rfl, _, q⟩ := h
    simp [DenL.length q]
theorem DenL.get {K : PySem.W.Frag} {H : Hp} {ρ : List Addr} : ∀ {ds : List D} {vs : List V} {i : Nat} {d : D}, DenL K H ρ ds vs → ds[i]? = some d → ∃ v, vs[i]? = some v ∧ Den K H ρ d v
  | [], _, _, _, _, e => by simp at e
  | d :: ds, _, 0, x, h, e => by
    unfold DenL at h
    obtain ⟨v, r, rfl, q, _⟩ := h
    simp at e; subst e
    exact ⟨v, rfl, q⟩
  | d :: ds, _, i + 1, x, h, e => by
    unfold DenL at h
    obtain ⟨v, r, rfl, _, q⟩ := h
    obtain ⟨u, e1, e2⟩ := DenL.get (i := i) q (by simpa using e)
    exact ⟨u, by simpa using e1, e2⟩
theorem DenL.nil_iff {K : PySem.W.Frag} {H : Hp} {ρ : List Addr} {vs : List V} : DenL K H ρ [] vs ↔ vs = [] := by unfold DenL; exact Iff.rfl
theorem DenL.cons_iff {K : PySem.W.Frag} {H : Hp} {ρ : List Addr} {d : D} {ds : List D} {vs : List V} : DenL K H ρ (d :: ds) vs ↔ ∃ v r, vs = v :: r ∧ Den K H ρ d v ∧ DenL K H ρ ds r := by
  rw [DenL]
theorem DenL.append {K : PySem.W.Frag} {H : Hp} {ρ : List Addr} : ∀ {ds es : List D} {vs us : List V}, DenL K H ρ ds vs → DenL K H ρ es us → DenL K H ρ (ds ++ es) (vs ++ us)
  | [], _, _, _, h, q => by rw [DenL.nil_iff] at h; subst h; exact q
  | d :: ds, _, _, _, h, q => by
    obtain ⟨v, r, rfl, h1, h2⟩ := DenL.cons_iff.mp h
    exact DenL.cons_iff.mpr ⟨v, _, rfl, h1, DenL.append h2 q⟩
theorem DenL.take {K : PySem.W.Frag} {H : Hp} {ρ : List Addr} : ∀ {ds : List D} {vs : List V} (n : Nat), DenL K H ρ ds vs → DenL K H ρ (ds.take n) (vs.take n)
  | [], _, n, h => by rw [DenL.nil_iff] at h; subst h; simp [DenL.nil_iff]
  | d :: ds, _, 0, h => by simp [DenL.nil_iff]
  | d :: ds, _, n + 1, h => by
    obtain ⟨v, r, rfl, h1, h2⟩ := DenL.cons_iff.mp h
    exact DenL.cons_iff.mpr ⟨v, _, rfl, h1, DenL.take n h2⟩
theorem DenL.drop {K : PySem.W.Frag} {H : Hp} {ρ : List Addr} : ∀ {ds : List D} {vs : List V} (n : Nat), DenL K H ρ ds vs → DenL K H ρ (ds.drop n) (vs.drop n)
  | [], _, n, h => by rw [DenL.nil_iff] at h; subst h; simp [DenL.nil_iff]
  | d :: ds, _, 0, h => h
  | d :: ds, _, n + 1, h => by
    obtain ⟨v, r, rfl, h1, h2⟩ := DenL.cons_iff.mp h
    exact DenL.drop n h2
theorem DenL.set {K : PySem.W.Frag} {H : Hp} {ρ : List Addr} {d' : D} {v' : V} (hd : Den K H ρ d' v') : ∀ {ds : List D} {vs : List V} (n : Nat), DenL K H ρ ds vs → DenL K H ρ (ds.set n d') (vs.set n v')
  | [], _, n, h => by rw [DenL.nil_iff] at h; subst h; simp [DenL.nil_iff]
  | d :: ds, _, 0, h => by
    obtain ⟨v, r, rfl, h1, h2⟩ := DenL.cons_iff.mp h
    exact DenL.cons_iff.mpr ⟨v', _, rfl, hd, h2⟩
  | d :: ds, _, n + 1, h => by
    obtain ⟨v, r, rfl, h1, h2⟩ := DenL.cons_iff.mp h
    exact DenL.cons_iff.mpr ⟨v, _, rfl, h1, DenL.set hd n h2⟩

/-- named fields -/
def DenF (K : PySem.W.Frag) (H : Hp) (ρ : List Addr) (fs : List (Str × D)) (vs : List (Str × V)) : Prop :=
  fs.map (·.1) = vs.map (·.1) ∧ DenL K H ρ (fs.map (·.2)) (vs.map (·.2))
theorem DenF.mono {K : PySem.W.Frag} {H H' : Hp} {ρ ρ' : List Addr} {fs : List (Str × D)} {vs : List (Str × V)} (x : Ext ρ H ρ' H') (h : DenF K H ρ fs vs) : DenF K H' ρ' fs vs := ⟨h.1, DenL.mono x _ h.2⟩

/-- a dict's key: an int or a text, or a tuple of such -/
def D.key : D → Option Key
  | .int i => some (.inl i)
  | .str x => some (.inr x)
  | _ => none
def keyL : List D → Option (List Key)
  | [] => some []
  | d :: r => match D.key d, keyL r with
    | some k, some ks => some (k :: ks)
    | _, _ => none
def D.keyT : D → Option (List Key)
  | .tup ds => keyL ds
  | _ => none

/-- the object at a is o -/
def MOk (K : PySem.W.Frag) (H : Hp) (ρ : List Addr) (a : Addr) : MO → Prop
  | .lst xs => ∃ vs, H a = some (.lst vs) ∧ DenL K H ρ xs vs
  | .frz xs => ∃ o vs, H a = some (.frz o (.lst vs)) ∧ DenL K H ρ xs vs
  | .dic kvs => (∃ ks, H a = some (.dK ks) ∧ kvs.map (fun p => D.key p.1) = ks.map (fun p => some p.1) ∧ DenL K H ρ (kvs.map (·.2)) (ks.map (·.2))) ∨
      (∃ ks, H a = some (.dT ks) ∧ kvs.map (fun p => D.keyT p.1) = ks.map (fun p => some p.1) ∧ DenL K H ρ (kvs.map (·.2)) (ks.map (·.2)))
  | .ins C fs => ∃ dx vs, H a = some (.ins C dx vs) ∧ DenF K H ρ fs vs
theorem MOk.some {K : PySem.W.Frag} {H : Hp} {ρ : List Addr} {a : Addr} : ∀ {o : MO}, MOk K H ρ a o → ∃ u, H a = some u ∧ (∀ xs, u ≠ .tup xs) ∧ (∀ ps, u ≠ .tbl ps) ∧ (∀ fs, u ≠ .xd fs) ∧ (∀ p, u ≠ .ext p)
  | .lst _, ⟨_, h, _⟩ => ⟨_, h, fun _ => HO.noConfusion, fun _ => HO.noConfusion, fun _ => HO.noConfusion, fun _ => HO.noConfusion⟩
  | .frz _, ⟨_, _, h, _⟩ => ⟨_, h, fun _ => HO.noConfusion, fun _ => HO.noConfusion, fun _ => HO.noConfusion, fun _ => HO.noConfusion⟩
  | .dic _, .inl ⟨_, h, _⟩ => ⟨_, h, fun _ => HO.noConfusion, fun _ => HO.noConfusion, fun _ => HO.noConfusion, fun _ => HO.noConfusion⟩
  | .dic _, .inr ⟨_, h, _⟩ => ⟨_, h, fun _ => HO.noConfusion, fun _ => HO.noConfusion, fun _ => HO.noConfusion, fun _ => HO.noConfusion⟩
  | .ins _ _, ⟨_, _, h, _⟩ => ⟨_, h, fun _ => HO.noConfusion, fun _ => HO.noConfusion, fun _ => HO.noConfusion, fun _ => HO.noConfusion⟩
/-- the object stays, the data stay -/
theorem MOk.stay {K : PySem.W.Frag} {H H' : Hp} {ρ ρ' : List Addr} {a : Addr} (x : Ext ρ H ρ' H') (e : H' a = H a) : ∀ {o : MO}, MOk K H ρ a o → MOk K H' ρ' a o
  | .lst _, ⟨vs, h, l⟩ => ⟨vs, e.trans h, DenL.mono x _ l⟩
  | .frz _, ⟨o, vs, h, l⟩ => ⟨o, vs, e.trans h, DenL.mono x _ l⟩
  | .dic _, .inl ⟨ks, h, q, l⟩ => .inl ⟨ks, e.trans h, q, DenL.mono x _ l⟩
  | .dic _, .inr ⟨ks, h, q, l⟩ => .inr ⟨ks, e.trans h, q, DenL.mono x _ l⟩
  | .ins _ _, ⟨dx, vs, h, l⟩ => ⟨dx, vs, e.trans h, DenF.mono x l⟩
theorem D.lowL_iff {b : Nat} : ∀ {ds : List D}, D.lowL b ds = true ↔ ∀ d ∈ ds, D.low b d = true
  | [] => by simp [D.lowL]
  | d :: r => by simp [D.lowL, D.lowL_iff (ds := r)]
theorem MOk.lower {K : PySem.W.Frag} {H : Hp} {ρ : List Addr} {a : Addr} {b : Nat} : ∀ {o : MO}, o.low b = true → MOk K H ρ a o → MOk K H (ρ.take b) a o
  | .lst _, l, ⟨vs, h, q⟩ => ⟨vs, h, DenL.lower _ l q⟩
  | .frz _, l, ⟨o, vs, h, q⟩ => ⟨o, vs, h, DenL.lower _ l q⟩
  | .dic kvs, l, .inl ⟨ks, h, k, q⟩ => .inl ⟨ks, h, k, DenL.lower _ (D.lowL_iff.mpr fun d hd => by
      obtain ⟨p, hp, rfl⟩ := List.mem_map.mp hd
      have := List.all_eq_true.mp l p hp
      simp at this; exact this.2) q⟩
  | .dic kvs, l, .inr ⟨ks, h, k, q⟩ => .inr ⟨ks, h, k, DenL.lower _ (D.lowL_iff.mpr fun d hd => by
      obtain ⟨p, hp, rfl⟩ := List.mem_map.mp hd
      have := List.all_eq_true.mp l p hp
      simp at this; exact this.2) q⟩
  | .ins _ fs, l, ⟨dx, vs, h, k, q⟩ => ⟨dx, vs, h, k, DenL.lower _ (D.lowL_iff.mpr fun d hd => by
      obtain ⟨p, hp, rfl⟩ := List.mem_map.mp hd
      exact List.all_eq_true.mp l p hp) q⟩

/-- the tables of code objects that lambdas and generator expressions want -/
structure Tb where
  gen : List Addr
  lam : List (Addr × Str)
/-- the store stands in the heap -/
structure Rel (K : PySem.W.Frag) (T : Tb) (ρ : List Addr) (M : Sto) (H : Hp) : Prop where
  len : ρ.length = M.length
  nd : ρ.Nodup
  ob : ∀ (n : Nat) (o : MO), M[n]? = some o → ∃ a : Addr, ρ[n]? = some a ∧ MOk K H ρ a o
  cl : ∀ o ∈ M, o.low M.length = true
  gen : ∀ P ∈ T.gen, GxR.TabG H P
  lam : LamX.Tabs T.lam H
  dj : ∀ P ∈ T.gen, ∀ p ∈ T.lam, p.1 ≠ P

section
variable {K : PySem.W.Frag} {T : Tb} {ρ ρ' : List Addr} {M M' : Sto} {H H' : Hp}
/-- a new object, untracked, becomes the store's last -/
theorem Rel.push {a : Addr} {o : MO} (R : Rel K T ρ M H) (hn : H a = none) {u : HO} (nt : ∀ xs, u ≠ .tup xs) (nb : ∀ ps, u ≠ .tbl ps)
    (ok : MOk K (upd H a u) (ρ ++ [a]) a o) (lo : o.low (M.length + 1) = true) : Rel K T (ρ ++ [a]) (M ++ [o]) (upd H a u) ∧ Ext ρ H (ρ ++ [a]) (upd H a u) := by
  have X : Ext ρ H (ρ ++ [a]) (upd H a u) := ⟨List.prefix_append _ _, fun b xs e => by rw [upd_ne (ne_of_none e hn)]; exact e, fun b o w e => by rw [upd_ne (ne_of_none e hn)]; exact e, fun b fs e => by rw [upd_ne (ne_of_none e hn)]; exact e⟩
  have na : a ∉ ρ := fun h => by
    obtain ⟨n, hn', e⟩ := List.getElem_of_mem h
    obtain ⟨o', ho'⟩ : ∃ o', M[n]? = some o' := ⟨M[n]'(by rw [← R.len]; exact hn'), List.getElem?_eq_getElem _⟩
    obtain ⟨a', e1, q⟩ := R.ob n o' ho'
    obtain ⟨w, e2, _⟩ := q.some
    rw [List.getElem?_eq_getElem hn', e] at e1; cases e1
    rw [hn] at e2; cases e2
  refine ⟨⟨by simp [R.len], ?_, fun n o' e => ?_, fun o' ho => ?_, fun P hP => ?_, LamX.Tabs.ext R.lam fun b o' e => by rw [upd_ne (ne_of_none e hn)]; exact e, R.dj⟩, X⟩
  · rw [List.nodup_append]
    exact ⟨R.nd, by simp, fun x hx y hy => by simp at hy; subst hy; rintro rfl; exact na hx⟩
  · by_cases h : n < M.length
    · rw [List.getElem?_append_left h] at e
      obtain ⟨c, e1, q⟩ := R.ob n o' e
      obtain ⟨w, e2, _⟩ := q.some
      refine ⟨c, by rw [List.getElem?_append_left (by rw [R.len]; exact h)]; exact e1, q.stay X (upd_ne (ne_of_none e2 hn))⟩
    · have hl : n = M.length := by
        have := (List.getElem?_eq_some_iff.mp e).1
        simp at this; omega
      subst hl
      simp at e; subst e
      exact ⟨a, by rw [← R.len]; simp, ok⟩
  · rw [List.length_append, List.length_singleton]
    rcases List.mem_append.mp ho with h | h
    · have := R.cl o' h
      have mono : ∀ {b c : Nat}, b ≤ c → ∀ {o : MO}, o.low b = true → o.low c = true := by
        intro b c hbc
        have dm : ∀ (d : D), D.low b d = true → D.low c d = true := by
          intro d
          exact D.rec (motive_1 := fun d => D.low b d = true → D.low c d = true) (motive_2 := fun ds => D.lowL b ds = true → D.lowL c ds = true)
            (fun _ => rfl) (fun _ _ => rfl) (fun _ _ => rfl) (fun _ _ => rfl) (fun n h => by simp [D.low] at h ⊢; omega) (fun ds ih h => by simp [D.low] at h ⊢; exact ih h) (fun _ => rfl)
            (fun d r i1 i2 h => by simp [D.lowL] at h ⊢; exact ⟨i1 h.1, i2 h.2⟩) d
        have lm : ∀ (ds : List D), D.lowL b ds = true → D.lowL c ds = true := fun ds h => D.lowL_iff.mpr fun d hd => dm d (D.lowL_iff.mp h d hd)
        intro o h
        cases o with
        | lst xs => exact lm xs h
        | frz xs => exact lm xs h
        | dic kvs => exact List.all_eq_true.mpr fun p hp => by have := List.all_eq_true.mp h p hp; simp at this ⊢; exact ⟨dm _ this.1, dm _ this.2⟩
        | ins C fs => exact List.all_eq_true.mpr fun p hp => dm _ (List.all_eq_true.mp h p hp)
      exact mono (Nat.le_succ _) this
    · simp at h; subst h; exact lo
  · obtain ⟨ps, e, q⟩ := R.gen P hP
    exact ⟨ps, by rw [upd_ne (ne_of_none e hn)]; exact e, q⟩
/-- an untracked place is taken by something that is not the store's (a tuple) -/
theorem Rel.other {a : Addr} {u : HO} (R : Rel K T ρ M H) (hn : H a = none) : Rel K T ρ M (upd H a u) ∧ Ext ρ H ρ (upd H a u) := by
  have X : Ext ρ H ρ (upd H a u) := ⟨List.prefix_refl _, fun b xs e => by rw [upd_ne (ne_of_none e hn)]; exact e, fun b o w e => by rw [upd_ne (ne_of_none e hn)]; exact e, fun b fs e => by rw [upd_ne (ne_of_none e hn)]; exact e⟩
  refine ⟨⟨R.len, R.nd, fun n o e => ?_, R.cl, fun P hP => ?_, LamX.Tabs.ext R.lam fun b o' e => by rw [upd_ne (ne_of_none e hn)]; exact e, R.dj⟩, X⟩
  · obtain ⟨c, e1, q⟩ := R.ob n o e
    obtain ⟨w, e2, _⟩ := q.some
    exact ⟨c, e1, q.stay X (upd_ne (ne_of_none e2 hn))⟩
  · obtain ⟨ps, e, q⟩ := R.gen P hP
    exact ⟨ps, by rw [upd_ne (ne_of_none e hn)]; exact e, q⟩
/-- the object at place n is written -/
theorem Rel.write {n : Nat} {a : Addr} {o o' : MO} {u : HO} (R : Rel K T ρ M H) (hM : M[n]? = some o) (ha : ρ[n]? = some a) (nf : ∀ w xs, H a ≠ some (.frz w xs))
    (ok : ∀ Y : Ext ρ H ρ (upd H a u), MOk K (upd H a u) ρ a o') (lo : o'.low M.length = true) : Rel K T ρ (M.set n o') (upd H a u) ∧ Ext ρ H ρ (upd H a u) := by
  obtain ⟨a0, e0, q0⟩ := R.ob n o hM
  rw [ha] at e0; cases e0
  obtain ⟨w, hw, nt, nb, nx, ne⟩ := q0.some
  have X : Ext ρ H ρ (upd H a u) := ⟨List.prefix_refl _, fun b xs e => by rw [upd_ne (by rintro rfl; rw [hw] at e; cases e; exact nt _ rfl)]; exact e,
    fun b o w' e => by rw [upd_ne (by rintro rfl; exact nf _ _ e)]; exact e, fun b fs e => by rw [upd_ne (by rintro rfl; rw [hw] at e; cases e; exact nx _ rfl)]; exact e⟩
  have hlt := (List.getElem?_eq_some_iff.mp hM).1
  refine ⟨⟨by simp [R.len], R.nd, fun m o2 e => ?_, fun o2 ho => ?_, fun P hP => ?_, fun p hp => ?_, R.dj⟩, X⟩
  · by_cases hm : m = n
    · subst hm
      rw [List.getElem?_set_self hlt] at e
      cases e
      exact ⟨a, ha, ok X⟩
    · rw [List.getElem?_set_ne (Ne.symm hm)] at e
      obtain ⟨c, e1, q⟩ := R.ob m o2 e
      refine ⟨c, e1, q.stay X (upd_ne ?_)⟩
      rintro rfl
      obtain ⟨h1, e1'⟩ := List.getElem?_eq_some_iff.mp e1
      obtain ⟨h2, e2'⟩ := List.getElem?_eq_some_iff.mp ha
      exact hm ((List.getElem_inj R.nd).mp (e1'.trans e2'.symm))
  · rw [List.length_set]
    rcases List.mem_or_eq_of_mem_set ho with h | h
    · exact R.cl o2 h
    · rw [h]; exact lo
  · obtain ⟨ps, e, q⟩ := R.gen P hP
    exact ⟨ps, by rw [upd_ne (by rintro rfl; rw [hw] at e; cases e; exact nb _ rfl)]; exact e, q⟩
  · obtain ⟨ps, e, t, q⟩ := R.lam p hp
    exact ⟨ps, by rw [upd_ne (by rintro rfl; rw [hw] at e; cases e; exact nb _ rfl)]; exact e, t, fun pos cv hc => by
      obtain ⟨c, e1, e2⟩ := q pos cv hc
      exact ⟨c, e1, by rw [upd_ne (by rintro rfl; rw [hw] at e2; cases e2; exact ne _ rfl)]; exact e2⟩⟩
/-- what is above b, and not spoken of below, may be forgotten -/
theorem Rel.cut {b : Nat} (R : Rel K T ρ M H) (hb : b ≤ M.length) (lo : (M.take b).all (fun o => o.low b) = true) : Rel K T (ρ.take b) (M.take b) H := by
  refine ⟨by simp [R.len], R.nd.sublist (List.take_sublist _ _), fun n o e => ?_, fun o ho => ?_, R.gen, R.lam, R.dj⟩
  · have hn : n < b := by
      have := (List.getElem?_eq_some_iff.mp e).1
      simp at this; omega
    rw [List.getElem?_take_of_lt hn] at e
    obtain ⟨a, e1, q⟩ := R.ob n o e
    refine ⟨a, by rw [List.getElem?_take_of_lt hn]; exact e1, q.lower ?_⟩
    exact List.all_eq_true.mp lo o (List.mem_of_getElem? (by rw [List.getElem?_take_of_lt hn]; exact e))
  · have e : (M.take b).length = b := by simp; omega
    rw [e]
    exact List.all_eq_true.mp lo o ho
end
end Mp

set_option Elab.async false
set_option linter.all false
set_option maxRecDepth 100000
set_option maxHeartbeats 2000000
/-! Mp2: what an evaluation comes to, expressions -/
namespace Mp
open PySem PySem.Spec PyProof.Rows L2

inductive Res (α : Type) where
  | ok (a : α) (M : Sto)
  | exn (C : Addr) (fs : List (Str × D)) (M : Sto)
  | bad
def Res.bind {α β : Type} (r : Res α) (k : α → Sto → Res β) : Res β := match r with
  | .ok a M => k a M
  | .exn C fs M => .exn C fs M
  | .bad => .bad
theorem Res.bind_ok {α β : Type} (a : α) (M : Sto) (k : α → Sto → Res β) : (Res.ok a M).bind k = k a M := rfl
theorem Res.bind_exn {α β : Type} (C : Addr) (fs : List (Str × D)) (M : Sto) (k : α → Sto → Res β) : (Res.exn C fs M).bind k = .exn C fs M := rfl
theorem Res.bind_bad {α β : Type} (k : α → Sto → Res β) : (Res.bad : Res α).bind k = .bad := rfl

abbrev Ev (α : Type) := Env → Sto → Res α
abbrev FE := Ev D

/-- what is wanted of a result -/
def Good {α : Type} (K : PySem.W.Frag) (T : Tb) (W : WX) (σ : L2.St) (ρ : List Addr) (H : Hp) (R : α → List Addr → Hp → Prop) : Res α → Prop
  | .ok a M' => ∀ ρ' H', Ext ρ H ρ' H' → Rel K T ρ' M' H' → R a ρ' H'
  | .exn C fs M' => ∀ ρ' H' dd vs, Ext ρ H ρ' H' → Rel K T ρ' M' H' → H' dd = some (.xd vs) → DenF K H' ρ' fs vs → W (.ref C) (some dd) σ H'
  | .bad => False
theorem Good.mono {α : Type} {K : PySem.W.Frag} {T : Tb} {W : WX} {σ : L2.St} {ρ ρ' : List Addr} {H H' : Hp} {R : α → List Addr → Hp → Prop} (x : Ext ρ H ρ' H') : ∀ {r : Res α}, Good K T W σ ρ H R r → Good K T W σ ρ' H' R r
  | .ok _ _, h => fun _ _ y => h _ _ (x.trans y)
  | .exn _ _ _, h => fun _ _ _ _ y => h _ _ _ _ (x.trans y)
  | .bad, h => h
theorem Good.imp {α : Type} {K : PySem.W.Frag} {T : Tb} {W : WX} {σ : L2.St} {ρ : List Addr} {H : Hp} {R R' : α → List Addr → Hp → Prop} (i : ∀ a ρ' H', R a ρ' H' → R' a ρ' H') : ∀ {r : Res α}, Good K T W σ ρ H R r → Good K T W σ ρ H R' r
  | .ok _ _, h => fun _ _ y z => i _ _ _ (h _ _ y z)
  | .exn _ _ _, h => h
  | .bad, h => h

def DenE (K : PySem.W.Frag) (H : Hp) (ρ : List Addr) (τ : Env) (σ : L2.St) : Prop := τ.length = σ.length ∧ ∀ (i : Nat) (d : D), τ[i]? = some (some d) → ∃ v, σ[i]? = some (some v) ∧ Den K H ρ d v
theorem DenE.mono {K : PySem.W.Frag} {H H' : Hp} {ρ ρ' : List Addr} {τ : Env} {σ : L2.St} (x : Ext ρ H ρ' H') (h : DenE K H ρ τ σ) : DenE K H' ρ' τ σ :=
  ⟨h.1, fun i d e => let ⟨v, e1, q⟩ := h.2 i d e; ⟨v, e1, Den.mono x d q⟩⟩
theorem DenE.set {K : PySem.W.Frag} {H : Hp} {ρ : List Addr} {τ : Env} {σ : L2.St} {i : Nat} {d : D} {v : V} (h : DenE K H ρ τ σ) (q : Den K H ρ d v) : DenE K H ρ (τ.set i (some d)) (σ.set i (some v)) := by
  refine ⟨by simpa using h.1, fun j e hj => ?_⟩
  by_cases hji : j = i
  · subst hji
    have hl : j < τ.length := by have := (List.getElem?_eq_some_iff.mp hj).1; simpa using this
    rw [List.getElem?_set_self hl] at hj
    cases hj
    exact ⟨v, List.getElem?_set_self (by rw [← h.1]; exact hl), q⟩
  · rw [List.getElem?_set_ne (Ne.symm hji)] at hj
    obtain ⟨u, e1, q1⟩ := h.2 j e hj
    exact ⟨u, by rw [List.getElem?_set_ne (Ne.symm hji)]; exact e1, q1⟩
theorem DenE.del {K : PySem.W.Frag} {H : Hp} {ρ : List Addr} {τ : Env} {σ : L2.St} {i : Nat} (h : DenE K H ρ τ σ) : DenE K H ρ (τ.set i none) (σ.set i none) := by
  refine ⟨by simpa using h.1, fun j e hj => ?_⟩
  by_cases hji : j = i
  · subst hji
    have hl : j < τ.length := by have := (List.getElem?_eq_some_iff.mp hj).1; simpa using this
    rw [List.getElem?_set_self hl] at hj
    cases hj
  · rw [List.getElem?_set_ne (Ne.symm hji)] at hj
    obtain ⟨u, e1, q1⟩ := h.2 j e hj
    exact ⟨u, by rw [List.getElem?_set_ne (Ne.symm hji)]; exact e1, q1⟩

/-- the state: the store, the slots, what was reckoned so far -/
structure Sg (K : PySem.W.Frag) (T : Tb) (ρ : List Addr) (M : Sto) (H : Hp) (τ : Env) (σ : L2.St) (c : List (D × V)) : Prop where
  rel : Rel K T ρ M H
  env : DenE K H ρ τ σ
  car : ∀ p ∈ c, Den K H ρ p.1 p.2
def At {α : Type} (K : PySem.W.Frag) (T : Tb) (W : WX) (c : List (D × V)) (σ : L2.St) (H : Hp) (R : α → List Addr → Hp → Prop) (g : Ev α) : Prop :=
  ∃ ρ M τ, Sg K T ρ M H τ σ c ∧ Good K T W σ ρ H R (g τ M)
abbrev RE (K : PySem.W.Frag) (Q : VK) : D → List Addr → Hp → Prop := fun d ρ' H' => ∀ v, Den K H' ρ' d v → Q v H'
abbrev RB (Q : Bool → Hp → Prop) : Bool → List Addr → Hp → Prop := fun b _ H' => Q b H'
abbrev RA (K : PySem.W.Frag) (Q : List V → Hp → Prop) : List D → List Addr → Hp → Prop := fun ds ρ' H' => ∀ vs, DenL K H' ρ' ds vs → Q vs H'
def tE (K : PySem.W.Frag) (T : Tb) (W : WX) (f : FE) : TE := fun σ H Q => At K T W [] σ H (RE K Q) f
def tT (K : PySem.W.Frag) (T : Tb) (W : WX) (f : Ev Bool) : TT := fun σ H Q => At K T W [] σ H (RB Q) f
def tA (K : PySem.W.Frag) (T : Tb) (W : WX) (f : Ev (List D)) : TA := fun σ H Q => At K T W [] σ H (RA K Q) f

section
variable {K : PySem.W.Frag} {T : Tb} {W : WX} {σ : L2.St} {H : Hp} {α β : Type} {c : List (D × V)} {R : α → List Addr → Hp → Prop}
theorem At.imp {R' : α → List Addr → Hp → Prop} {g : Ev α} (h : At K T W c σ H R g) (i : ∀ a ρ' H', R a ρ' H' → R' a ρ' H') : At K T W c σ H R' g :=
  let ⟨ρ, M, τ, s, q⟩ := h; ⟨ρ, M, τ, s, q.imp i⟩
/-- the first of two evaluations: behind it the second is at hand -/
theorem At.bind {f : Ev β} {g : β → Ev α} (h : At K T W c σ H R fun τ M => (f τ M).bind fun b M1 => g b τ M1) :
    ∃ ρ M τ, Sg K T ρ M H τ σ c ∧ Good K T W σ ρ H (fun b ρ1 H1 => ∀ M1, Rel K T ρ1 M1 H1 → f τ M = .ok b M1 → Sg K T ρ1 M1 H1 τ σ c ∧ Good K T W σ ρ1 H1 R (g b τ M1)) (f τ M) := by
  obtain ⟨ρ, M, τ, s, q⟩ := h
  refine ⟨ρ, M, τ, s, ?_⟩
  dsimp only at q
  cases e : f τ M with
  | ok b M1 =>
    rw [e] at q
    intro ρ1 H1 x r M2 r2 e2
    cases e2
    exact ⟨⟨r2, s.env.mono x, fun p hp => Den.mono x _ (s.car p hp)⟩, Good.mono x q⟩
  | exn C fs M1 => rw [e] at q; exact q
  | bad => rw [e] at q; exact q
theorem At.bindE {f : FE} {g : D → Ev α} (h : At K T W c σ H R fun τ M => (f τ M).bind fun d M1 => g d τ M1) :
    tE K T W f σ H fun v H1 => ∃ d, At K T W ((d, v) :: c) σ H1 R (g d) := by
  obtain ⟨ρ, M, τ, s, q⟩ := h
  refine ⟨ρ, M, τ, ⟨s.rel, s.env, fun _ z => nomatch z⟩, ?_⟩
  dsimp only at q
  cases e : f τ M with
  | ok d M1 =>
    rw [e] at q
    intro ρ1 H1 x r v hv
    refine ⟨d, ρ1, M1, τ, ⟨r, s.env.mono x, fun p hp => ?_⟩, Good.mono x q⟩
    rcases List.mem_cons.mp hp with rfl | hp
    · exact hv
    · exact Den.mono x _ (s.car p hp)
  | exn C fs M1 => rw [e] at q; exact q
  | bad => rw [e] at q; exact q
theorem At.bindT {f : Ev Bool} {g : Bool → Ev α} (h : At K T W c σ H R fun τ M => (f τ M).bind fun b M1 => g b τ M1) :
    tT K T W f σ H fun b H1 => At K T W c σ H1 R (g b) := by
  obtain ⟨ρ, M, τ, s, q⟩ := h
  refine ⟨ρ, M, τ, ⟨s.rel, s.env, fun _ z => nomatch z⟩, ?_⟩
  dsimp only at q
  cases e : f τ M with
  | ok b M1 =>
    rw [e] at q
    intro ρ1 H1 x r
    exact ⟨ρ1, M1, τ, ⟨r, s.env.mono x, fun p hp => Den.mono x _ (s.car p hp)⟩, Good.mono x q⟩
  | exn C fs M1 => rw [e] at q; exact q
  | bad => rw [e] at q; exact q
/-- .. arguments: the list is carried -/
def AtL {α : Type} (K : PySem.W.Frag) (T : Tb) (W : WX) (c : List (D × V)) (l : List (List D × List V)) (σ : L2.St) (H : Hp) (R : α → List Addr → Hp → Prop) (g : Ev α) : Prop :=
  ∃ ρ M τ, Sg K T ρ M H τ σ c ∧ (∀ p ∈ l, DenL K H ρ p.1 p.2) ∧ Good K T W σ ρ H R (g τ M)
theorem At.bindA {f : Ev (List D)} {g : List D → Ev α} (h : At K T W c σ H R fun τ M => (f τ M).bind fun d M1 => g d τ M1) :
    tA K T W f σ H fun vs H1 => ∃ ds, AtL K T W c [(ds, vs)] σ H1 R (g ds) := by
  obtain ⟨ρ, M, τ, s, q⟩ := h
  refine ⟨ρ, M, τ, ⟨s.rel, s.env, fun _ z => nomatch z⟩, ?_⟩
  dsimp only at q
  cases e : f τ M with
  | ok ds M1 =>
    rw [e] at q
    intro ρ1 H1 x r vs hv
    exact ⟨ds, ρ1, M1, τ, ⟨r, s.env.mono x, fun p hp => Den.mono x _ (s.car p hp)⟩, fun p hp => by simp at hp; subst hp; exact hv, Good.mono x q⟩
  | exn C fs M1 => rw [e] at q; exact q
  | bad => rw [e] at q; exact q
theorem tE.imp {f : FE} {Q Q' : VK} (h : tE K T W f σ H Q) (i : ∀ v H', Q v H' → Q' v H') : tE K T W f σ H Q' := At.imp h fun _ _ _ z v hv => i _ _ (z v hv)
theorem tT.imp {f : Ev Bool} {Q Q' : Bool → Hp → Prop} (h : tT K T W f σ H Q) (i : ∀ v H', Q v H' → Q' v H') : tT K T W f σ H Q' := At.imp h fun _ _ _ z => i _ _ z
theorem tA.imp {f : Ev (List D)} {Q Q' : List V → Hp → Prop} (h : tA K T W f σ H Q) (i : ∀ v H', Q v H' → Q' v H') : tA K T W f σ H Q' := At.imp h fun _ _ _ z v hv => i _ _ (z v hv)
end

/-! ### weakening the readings -/
section
variable {X : Cx} {e : Expr} {es : List Expr}
theorem _root_.L2.PE.weak {t t' : TE} (h : PE X e t) (i : ∀ σ H Q, t' σ H Q → t σ H Q) : PE X e t' := ⟨fun p s σ H Q I q => h.run p s σ H Q I (i σ H Q q)⟩
theorem _root_.L2.PT.weak {t t' : TT} (h : PT X e t) (i : ∀ σ H Q, t' σ H Q → t σ H Q) : PT X e t' := ⟨fun p s σ H Q I q => h.run p s σ H Q I (i σ H Q q)⟩
theorem _root_.L2.PW.weak {t t' : TT} (h : PW X e t) (i : ∀ σ H Q, t' σ H Q → t σ H Q) : PW X e t' := ⟨fun wh p s σ H Q I q => h.run wh p s σ H Q I (i σ H Q q)⟩
theorem _root_.L2.PA.weak {t t' : TA} (h : PA X es t) (i : ∀ σ H Q, t' σ H Q → t σ H Q) : PA X es t' := ⟨fun ps p s σ H Q I q => h.run ps p s σ H Q I (i σ H Q q)⟩
theorem _root_.L2.PS.weak {st : Stmt} {t t' : TS} (h : PS X st t) (i : ∀ D σ H, t' D σ H → t D σ H) : PS X st t' := ⟨fun p s σ H D I q => h.run p s σ H D I (i D σ H q)⟩
theorem _root_.L2.PSs.weak {st : List Stmt} {t t' : TS} (h : PSs X st t) (i : ∀ D σ H, t' D σ H → t D σ H) : PSs X st t' := ⟨fun p s σ H D I q => h.run p s σ H D I (i D σ H q)⟩
end

/-! ### names, constants -/
def eVar (i : Nat) : FE := fun τ M => match τ[i]? with
  | some (some d) => .ok d M
  | _ => .bad
def eCon (d : D) : FE := fun _ M => .ok d M
section
variable {X : Cx} {T : Tb} {W : WX} {pos : Pos}
theorem Ext.me {ρ : List Addr} {H : Hp} : Ext ρ H ρ H := Ext.refl ρ H
theorem mp_var (i : Nat) {x : Str} (hN : X.N[i]? = some x := by rfl) (hv : Vis X.env.scope x := by first | exact Or.inl rfl | exact Or.inr (Or.inl rfl) | exact Or.inr (Or.inr rfl))
    (hd : (x == ("__debug__" : Str)) = false := by decide) (hcd : (x == ("__classdict__" : Str)) = false := by decide) : PE X (.Name x pos) (tE X.K T W (eVar i)) :=
  (pe_var (i := i) hN hv hd hcd).weak fun σ H Q h => by
    obtain ⟨ρ, M, τ, s, q⟩ := h
    unfold eVar at q
    split at q
    · next d e =>
      obtain ⟨v, e1, q1⟩ := s.env.2 i d e
      exact ⟨v, e1, q ρ H .me s.rel v q1⟩
    · exact q.elim
theorem mp_conE {e : Expr} {d : D} {v : V} (h : PE X e (tC v)) (hd : ∀ H ρ, Den X.K H ρ d v) : PE X e (tE X.K T W (eCon d)) :=
  h.weak fun σ H Q h => by
    obtain ⟨ρ, M, τ, s, q⟩ := h
    exact q ρ H .me s.rel v (hd H ρ)
theorem mp_int {i : Int} {j} : PE X (.Constant (.int i) j pos) (tE X.K T W (eCon (.int i))) := mp_conE pe_int fun _ _ => by unfold Den; rfl
theorem mp_bl {b : Bool} {j} : PE X (.Constant (.bool b) j pos) (tE X.K T W (eCon (.bl b))) := mp_conE pe_bl fun _ _ => by unfold Den; rfl
theorem mp_non {j} : PE X (.Constant .none j pos) (tE X.K T W (eCon .non)) := mp_conE pe_non fun _ _ => by unfold Den; rfl
theorem mp_str {x : Str} {j} : PE X (.Constant (.str x) j pos) (tE X.K T W (eCon (.str x))) := mp_conE pe_str fun _ _ => by unfold Den; rfl
end

/-! ### operators on two values -/
/-- what the datum's operation makes is what the rule makes -/
def OpS (K : PySem.W.Frag) (T : Tb) (r : R2) (f : D → D → Sto → Res D) : Prop :=
  ∀ ρ M H x y dx dy Q W σ, Rel K T ρ M H → Den K H ρ dx x → Den K H ρ dy y → Good K T W σ ρ H (RE K Q) (f dx dy M) → r x y H Q
def UnS (K : PySem.W.Frag) (T : Tb) (r : V → Hp → VK → Prop) (f : D → Sto → Res D) : Prop :=
  ∀ ρ M H x dx Q W σ, Rel K T ρ M H → Den K H ρ dx x → Good K T W σ ρ H (RE K Q) (f dx M) → r x H Q
def ArS (K : PySem.W.Frag) (T : Tb) (r : List V → Hp → VK → Prop) (f : List D → Sto → Res D) : Prop :=
  ∀ ρ M H xs ds Q W σ, Rel K T ρ M H → DenL K H ρ ds xs → Good K T W σ ρ H (RE K Q) (f ds M) → r xs H Q
def MtS (K : PySem.W.Frag) (T : Tb) (r : V → List V → Hp → VK → Prop) (f : D → List D → Sto → Res D) : Prop :=
  ∀ ρ M H x xs dx ds Q W σ, Rel K T ρ M H → Den K H ρ dx x → DenL K H ρ ds xs → Good K T W σ ρ H (RE K Q) (f dx ds M) → r x xs H Q
def eOp (op : D → D → Sto → Res D) (f g : FE) : FE := fun τ M => (f τ M).bind fun a M1 => (g τ M1).bind fun b M2 => op a b M2
def eUn (op : D → Sto → Res D) (f : FE) : FE := fun τ M => (f τ M).bind fun a M1 => op a M1
theorem tE.op {K : PySem.W.Frag} {T : Tb} {W : WX} {r : R2} {op : D → D → Sto → Res D} {f g : FE} {σ : L2.St} {H : Hp} {Q : VK} (s : OpS K T r op) (h : tE K T W (eOp op f g) σ H Q) :
    tOp r (tE K T W f) (tE K T W g) σ H Q :=
  (At.bindE (g := fun a τ M1 => (g τ M1).bind fun b M2 => op a b M2) h).imp fun v H1 ⟨d, h1⟩ => (At.bindE (g := fun b _ M2 => op d b M2) h1).imp fun u H2 ⟨e, ρ, M, τ, sg, q⟩ =>
    s ρ M H2 v u d e Q W σ sg.rel (sg.car (d, v) (by simp)) (sg.car (e, u) (by simp)) q
theorem tE.un {K : PySem.W.Frag} {T : Tb} {W : WX} {r : V → Hp → VK → Prop} {op : D → Sto → Res D} {f : FE} {σ : L2.St} {H : Hp} {Q : VK} (s : UnS K T r op) (h : tE K T W (eUn op f) σ H Q) :
    tUn r (tE K T W f) σ H Q :=
  (At.bindE (g := fun a _ M1 => op a M1) h).imp fun v H1 ⟨d, ρ, M, τ, sg, q⟩ => s ρ M H1 v d Q W σ sg.rel (sg.car (d, v) (by simp)) q
section
variable {X : Cx} {T : Tb} {W : WX} {pos : Pos} {a b : Expr} {f g : FE}
theorem mp_op {op : Operator} {r : R2} {fo : D → D → Sto → Res D} (ho : OpR X (binaryOp op) r) (hs : OpS X.K T r fo) (ha : PE X a (tE X.K T W f)) (hb : PE X b (tE X.K T W g)) : PE X (.BinOp a op b pos) (tE X.K T W (eOp fo f g)) :=
  (pe_op ho ha hb).weak fun _ _ _ h => tE.op hs h
theorem mp_un {op : UnaryOp} {r : V → Hp → VK → Prop} {fo : D → Sto → Res D} (ho : UnR X (unaryOp op) r) (hs : UnS X.K T r fo) (ha : PE X a (tE X.K T W f)) : PE X (.UnaryOp op a pos) (tE X.K T W (eUn fo f)) :=
  (pe_un ho ha).weak fun _ _ _ h => tE.un hs h
theorem mp_cmp {op : CmpOp} {r : R2} {fo : D → D → Sto → Res D} (ho : OpR X (compareOp op) r) (hs : OpS X.K T r fo) (ha : PE X a (tE X.K T W f)) (hb : PE X b (tE X.K T W g)) (hm : behindInMarks op b = false) :
    PE X (.Compare a [op] [b] pos) (tE X.K T W (eOp fo f g)) := (pe_cmpR ho ha hb hm).weak fun _ _ _ h => tE.op hs h
theorem mp_ix {r : R2} {fo : D → D → Sto → Res D} (hr : IxR X r) (hs : OpS X.K T r fo) (ha : PE X a (tE X.K T W f)) (hb : PE X b (tE X.K T W g)) (hp : PlainIx b) : PE X (.Subscript a b pos) (tE X.K T W (eOp fo f g)) :=
  (pe_ix hr ha hb hp).weak fun _ _ _ h => tE.op hs h
end
theorem OpS.or {K : PySem.W.Frag} {T : Tb} {r r' : R2} {f : D → D → Sto → Res D} (h : ∀ ρ M H x y dx dy Q W σ, Rel K T ρ M H → Den K H ρ dx x → Den K H ρ dy y → Good K T W σ ρ H (RE K Q) (f dx dy M) → r x y H Q ∨ r' x y H Q) :
    OpS K T (fun x y H Q => r x y H Q ∨ r' x y H Q) f := h

/-! ### tests -/
def truD : D → Sto → Option Bool
  | .non, _ => some false
  | .bl b, _ => some b
  | .int i, _ => some (i != 0)
  | .tup ds, _ => some (!ds.isEmpty)
  | .adr n, M => match M[n]? with
    | some (.lst xs) => some (!xs.isEmpty)
    | _ => none
  | .str x, _ => if x.length ≤ 1000000 then some ((x.length : Int) != 0) else none
def eTst (f : FE) : Ev Bool := fun τ M => (f τ M).bind fun d M1 => match truD d M1 with
  | some b => .ok b M1
  | none => .bad
def eTB (f : FE) : Ev Bool := fun τ M => (f τ M).bind fun d M1 => match d with
  | .bl b => .ok b M1
  | _ => .bad
def eAndT (f g : Ev Bool) : Ev Bool := fun τ M => (f τ M).bind fun b M1 => if b = true then g τ M1 else .ok false M1
def eOrT (f g : Ev Bool) : Ev Bool := fun τ M => (f τ M).bind fun b M1 => if b = true then .ok true M1 else g τ M1
def eNotT (f : Ev Bool) : Ev Bool := fun τ M => (f τ M).bind fun b M1 => .ok (!b) M1
def eBl (f : Ev Bool) : FE := fun τ M => (f τ M).bind fun b M1 => .ok (.bl b) M1
def eIf (c : Ev Bool) (f g : FE) : FE := fun τ M => (c τ M).bind fun b M1 => if b = true then f τ M1 else g τ M1
/-- x and y, x or y as values, of bools -/
def eAnd (f g : FE) : FE := fun τ M => (f τ M).bind fun d M1 => match d with
  | .bl b => if b = true then g τ M1 else .ok (.bl false) M1
  | _ => .bad
def eOr (f g : FE) : FE := fun τ M => (f τ M).bind fun d M1 => match d with
  | .bl b => if b = true then .ok (.bl true) M1 else g τ M1
  | _ => .bad
def eNot (f : FE) : FE := fun τ M => (f τ M).bind fun d M1 => match d with
  | .bl b => .ok (.bl !b) M1
  | _ => .bad
theorem tru_of {K : PySem.W.Frag} {T : Tb} {ρ : List Addr} {M : Sto} {H : Hp} {d : D} {v : V} {b : Bool} (R : Rel K T ρ M H) (h : Den K H ρ d v) (e : truD d M = some b) : TruV K v H b := by
  cases d with
  | non => unfold Den at h; subst h; simp only [truD, Option.some.injEq] at e; exact e.symm
  | bl c => unfold Den at h; subst h; simp only [truD, Option.some.injEq] at e; exact e.symm
  | int i => unfold Den at h; subst h; simp only [truD, Option.some.injEq] at e; exact e.symm
  | str x =>
    unfold Den at h; subst h
    simp only [truD] at e
    by_cases hx : x.length ≤ 1000000
    · rw [if_pos hx] at e; cases e; exact ⟨Nat.le_trans hx (by unfold sizeLine; decide), rfl⟩
    · rw [if_neg hx] at e; cases e
  | tup ds =>
    unfold Den at h
    obtain ⟨a, vs, rfl, h1, h2⟩ := h
    simp only [truD, Option.some.injEq] at e
    refine .inr (.inl ⟨vs, h1, ?_⟩)
    rw [← e]
    have := h2.length
    cases ds <;> cases vs <;> simp_all
  | adr n =>
    unfold Den at h
    obtain ⟨a, h1, rfl⟩ := h
    simp only [truD] at e
    cases hM : M[n]? with
    | none => rw [hM] at e; cases e
    | some o =>
      rw [hM] at e
      cases o with
      | lst xs =>
        simp only [Option.some.injEq] at e
        obtain ⟨a', h2, vs, h3, h4⟩ := R.ob n _ hM
        rw [h1] at h2; cases h2
        refine .inl ⟨vs, .inl (.inl h3), ?_⟩
        rw [← e]
        have := h4.length
        cases xs <;> cases vs <;> simp_all
      | _ => cases e
section
variable {X : Cx} {T : Tb} {W : WX} {pos : Pos} {a b c : Expr} {f g : FE} {rest : List Expr} {tf tg : Ev Bool}
/-- a value as a test (a name, a call, a subscript, a field ..) -/
theorem mp_tst (ha : PE X a (tE X.K T W f)) (he : ∀ whole, isTrue a X.env whole = (do let v ← whole; standAt a.pos; holding [v] (truthy v)) := by intro _; rfl) : PT X a (tT X.K T W (eTst f)) :=
  (pt_truth ha he).weak fun σ H Q h => (At.bindE (g := fun d _ M1 => match truD d M1 with | some b => .ok b M1 | none => .bad) h).imp fun v H1 ⟨d, ρ, M, τ, s, q⟩ => by
    dsimp only at q
    split at q
    · next b e => exact ⟨b, tru_of s.rel (s.car (d, v) (by simp)) e, q ρ H1 .me s.rel⟩
    · exact q.elim
theorem mp_tcmp {op : CmpOp} {r : R2} {fo : D → D → Sto → Res D} (ho : OpR X (compareOp op) r) (hs : OpS X.K T r fo) (ha : PE X a (tE X.K T W f)) (hb : PE X b (tE X.K T W g)) (hm : behindInMarks op b = false) :
    PT X (.Compare a [op] [b] pos) (tT X.K T W (eTB (eOp fo f g))) :=
  (pt_cmpR ho ha hb hm).weak fun σ H Q h => tE.op hs ((At.bindE (g := fun d _ M1 => match d with | .bl b => .ok b M1 | _ => .bad) h).imp fun v H1 ⟨d, ρ, M, τ, s, q⟩ => by
    have hd := s.car (d, v) (by simp)
    cases d with
    | bl b =>
      unfold Den at hd
      exact ⟨b, hd, q ρ H1 .me s.rel⟩
    | _ => exact q.elim)
theorem mp_tnot (ha : PT X a (tT X.K T W tf)) : PT X (.UnaryOp .Not a pos) (tT X.K T W (eNotT tf)) :=
  (pt_not ha).weak fun σ H Q h => (At.bindT (g := fun b _ M1 => .ok (!b) M1) h).imp fun b H1 ⟨ρ, M, τ, s, q⟩ => q ρ H1 .me s.rel
theorem mw_and1 (ha : PT X a (tT X.K T W tf)) : PW X (.BoolOp .And [a] pos) (tT X.K T W tf) := pw_and1 ha
theorem mw_or1 (ha : PT X a (tT X.K T W tf)) : PW X (.BoolOp .Or [a] pos) (tT X.K T W tf) := pw_or1 ha
theorem mw_and (ha : PT X a (tT X.K T W tf)) (hb : PW X (.BoolOp .And (b :: rest) pos) (tT X.K T W tg)) : PW X (.BoolOp .And (a :: b :: rest) pos) (tT X.K T W (eAndT tf tg)) :=
  (pw_and ha hb).weak fun σ H Q h => (At.bindT (g := fun b τ M1 => if b = true then tg τ M1 else .ok false M1) h).imp fun b H1 ⟨ρ, M, τ, s, q⟩ => by
    cases b with
    | true => exact ⟨ρ, M, τ, s, q⟩
    | false => exact q ρ H1 .me s.rel
theorem mw_or (ha : PT X a (tT X.K T W tf)) (hb : PW X (.BoolOp .Or (b :: rest) pos) (tT X.K T W tg)) : PW X (.BoolOp .Or (a :: b :: rest) pos) (tT X.K T W (eOrT tf tg)) :=
  (pw_or ha hb).weak fun σ H Q h => (At.bindT (g := fun b τ M1 => if b = true then .ok true M1 else tg τ M1) h).imp fun b H1 ⟨ρ, M, τ, s, q⟩ => by
    cases b with
    | true => exact q ρ H1 .me s.rel
    | false => exact ⟨ρ, M, τ, s, q⟩
theorem mp_and (ha : PE X a (tE X.K T W f)) (hb : PE X (.BoolOp .And (b :: rest) pos) (tE X.K T W g)) : PE X (.BoolOp .And (a :: b :: rest) pos) (tE X.K T W (eAnd f g)) :=
  (pe_and ha hb).weak fun σ H Q h => (At.bindE (g := fun d τ M1 => match d with | .bl b => if b = true then g τ M1 else .ok (.bl false) M1 | _ => .bad) h).imp fun v H1 ⟨d, ρ, M, τ, s, q⟩ => by
    have hd := s.car (d, v) (by simp)
    cases d with
    | bl b =>
      unfold Den at hd
      refine ⟨b, hd, ?_⟩
      cases b with
      | true => exact ⟨ρ, M, τ, ⟨s.rel, s.env, fun _ z => nomatch z⟩, q⟩
      | false => exact q ρ H1 .me s.rel (.bl false) (by unfold Den; rfl)
    | _ => exact q.elim
theorem mp_or (ha : PE X a (tE X.K T W f)) (hb : PE X (.BoolOp .Or (b :: rest) pos) (tE X.K T W g)) : PE X (.BoolOp .Or (a :: b :: rest) pos) (tE X.K T W (eOr f g)) :=
  (pe_or ha hb).weak fun σ H Q h => (At.bindE (g := fun d τ M1 => match d with | .bl b => if b = true then .ok (.bl true) M1 else g τ M1 | _ => .bad) h).imp fun v H1 ⟨d, ρ, M, τ, s, q⟩ => by
    have hd := s.car (d, v) (by simp)
    cases d with
    | bl b =>
      unfold Den at hd
      refine ⟨b, hd, ?_⟩
      cases b with
      | true => exact q ρ H1 .me s.rel (.bl true) (by unfold Den; rfl)
      | false => exact ⟨ρ, M, τ, ⟨s.rel, s.env, fun _ z => nomatch z⟩, q⟩
    | _ => exact q.elim
theorem mp_one {op} (ha : PE X a (tE X.K T W f)) : PE X (.BoolOp op [a] pos) (tE X.K T W f) := pe_one ha
theorem mp_not (ha : PE X a (tE X.K T W f)) : PE X (.UnaryOp .Not a pos) (tE X.K T W (eNot f)) :=
  (pe_not ha).weak fun σ H Q h => (At.bindE (g := fun (d : D) (_ : Env) (M1 : Sto) => (match d with | .bl b => Res.ok (D.bl !b) M1 | _ => Res.bad : Res D)) h).imp fun v H1 ⟨d, ρ, M, τ, s, q⟩ => by
    have hd := s.car (d, v) (by simp)
    cases d with
    | bl b =>
      unfold Den at hd
      exact ⟨b, hd, q ρ H1 .me s.rel _ (by unfold Den; rfl)⟩
    | _ => exact q.elim
theorem mp_if (hc : PT X c (tT X.K T W tf)) (ha : PE X a (tE X.K T W f)) (hb : PE X b (tE X.K T W g)) : PE X (.IfExp c a b pos) (tE X.K T W (eIf tf f g)) :=
  (pe_ifExp hc ha hb).weak fun σ H Q h => (At.bindT (g := fun b τ M1 => if b = true then f τ M1 else g τ M1) h).imp fun b H1 ⟨ρ, M, τ, s, q⟩ => by
    cases b with
    | true => exact ⟨ρ, M, τ, s, q⟩
    | false => exact ⟨ρ, M, τ, s, q⟩
end

/-! ### argument lists, displays -/
def aNil : Ev (List D) := fun _ M => .ok [] M
def aCons (f : FE) (g : Ev (List D)) : Ev (List D) := fun τ M => (f τ M).bind fun d M1 => (g τ M1).bind fun ds M2 => .ok (d :: ds) M2
def eTup (g : Ev (List D)) : FE := fun τ M => (g τ M).bind fun ds M1 => if ds.length ≤ 16777216 then .ok (.tup ds) M1 else .bad
def eLst (g : Ev (List D)) : FE := fun τ M => (g τ M).bind fun ds M1 => if ds.length ≤ 16777216 then .ok (.adr M1.length) (M1 ++ [.lst ds]) else .bad
section
variable {X : Cx} {T : Tb} {W : WX} {pos : Pos} {a : Expr} {es : List Expr} {f : FE} {g : Ev (List D)}
theorem ma_nil : PA X [] (tA X.K T W aNil) := pa_nil.weak fun σ H Q ⟨ρ, M, τ, s, q⟩ => q ρ H .me s.rel [] (by unfold DenL; rfl)
theorem ma_cons (ha : PE X a (tE X.K T W f)) (hr : PA X es (tA X.K T W g)) (hs : starEach (a :: es) X.env = (false, eval a X.env) :: starEach es X.env := by rfl) : PA X (a :: es) (tA X.K T W (aCons f g)) :=
  (pa_cons ha hr hs).weak fun σ H Q h => (At.bindE (g := fun d τ M1 => (g τ M1).bind fun ds M2 => .ok (d :: ds) M2) h).imp fun v H1 ⟨d, h1⟩ =>
    (At.bindA (g := fun ds _ M2 => .ok (d :: ds) M2) h1).imp fun vs H2 ⟨ds, ρ, M, τ, s, l, q⟩ =>
      q ρ H2 .me s.rel (v :: vs) (DenL.cons_iff.mpr ⟨v, vs, rfl, s.car (d, v) (by simp), l (ds, vs) (by simp)⟩)
theorem len_line {ds : List D} {vs : List V} {K : PySem.W.Frag} {H : Hp} {ρ : List Addr} (h : DenL K H ρ ds vs) (l : ds.length ≤ 16777216) : vs.length ≤ sizeLine := by
  rw [← h.length]; unfold sizeLine; exact l
theorem den_new_tup {K : PySem.W.Frag} {H : Hp} {ρ : List Addr} {ds : List D} {vs : List V} {p : Addr} (hp : H p = none) (h : DenL K H ρ ds vs) : Den K (upd H p (.tup vs)) ρ (.tup ds) (.ref p) := by
  unfold Den
  refine ⟨p, vs, rfl, .inl (.inl upd_same), DenL.mono ⟨List.prefix_refl _, fun b xs e => by rw [upd_ne (ne_of_none e hp)]; exact e, fun b o w e => by rw [upd_ne (ne_of_none e hp)]; exact e, fun b fs e => by rw [upd_ne (ne_of_none e hp)]; exact e⟩ _ h⟩
theorem mp_tup {x1} (h : PA X es (tA X.K T W g)) : PE X (.Tuple es x1 pos) (tE X.K T W (eTup g)) :=
  (pe_tup h).weak fun σ H Q h => (At.bindA (g := fun (ds : List D) (_ : Env) (M1 : Sto) => (if ds.length ≤ 16777216 then Res.ok (D.tup ds) M1 else Res.bad : Res D)) h).imp fun vs H1 ⟨ds, ρ, M, τ, s, l, q⟩ => by
    dsimp only at q
    by_cases hl : ds.length ≤ 16777216
    · rw [if_pos hl] at q
      refine ⟨len_line (l (ds, vs) (by simp)) hl, fun p hp => ?_⟩
      obtain ⟨r, x⟩ := s.rel.other (u := .tup vs) hp
      exact q ρ _ x r _ (den_new_tup hp (l (ds, vs) (by simp)))
    · rw [if_neg hl] at q; exact q.elim
theorem rel_new {K : PySem.W.Frag} {T : Tb} {ρ : List Addr} {M : Sto} {H : Hp} {ds : List D} {vs : List V} {p : Addr} (R : Rel K T ρ M H) (hp : H p = none) (h : DenL K H ρ ds vs) (lo : D.lowL (M.length + 1) ds = true) :
    Rel K T (ρ ++ [p]) (M ++ [.lst ds]) (upd H p (.lst vs)) ∧ Ext ρ H (ρ ++ [p]) (upd H p (.lst vs)) := by
  have X : Ext ρ H (ρ ++ [p]) (upd H p (.lst vs)) := ⟨List.prefix_append _ _, fun b xs e => by rw [upd_ne (ne_of_none e hp)]; exact e, fun b o w e => by rw [upd_ne (ne_of_none e hp)]; exact e, fun b fs e => by rw [upd_ne (ne_of_none e hp)]; exact e⟩
  exact R.push hp (fun _ => HO.noConfusion) (fun _ => HO.noConfusion) ⟨vs, upd_same, DenL.mono X _ h⟩ lo
theorem den_new_lst {K : PySem.W.Frag} {H : Hp} {ρ : List Addr} {M : Sto} {p : Addr} (hl : ρ.length = M.length) : Den K H (ρ ++ [p]) (.adr M.length) (.ref p) := by
  unfold Den
  exact ⟨p, by rw [← hl]; simp, rfl⟩
end
mutual
theorem Den.low {K : PySem.W.Frag} {H : Hp} {ρ : List Addr} : ∀ (d : D) {v : V}, Den K H ρ d v → D.low ρ.length d = true
  | .non, _, _ => rfl
  | .bl _, _, _ => rfl
  | .int _, _, _ => rfl
  | .str _, _, _ => rfl
  | .adr n, _, h => by
    unfold Den at h
    obtain ⟨a, e, _⟩ := h
    simp [D.low, (List.getElem?_eq_some_iff.mp e).1]
  | .tup ds, _, h => by
    unfold Den at h
    obtain ⟨a, vs, _, _, l⟩ := h
    simpa [D.low] using DenL.low ds l
theorem DenL.low {K : PySem.W.Frag} {H : Hp} {ρ : List Addr} : ∀ (ds : List D) {vs : List V}, DenL K H ρ ds vs → D.lowL ρ.length ds = true
  | [], _, _ => rfl
  | d :: ds, _, h => by
    unfold DenL at h
    obtain ⟨v, r, _, h1, h2⟩ := h
    simp [D.lowL, Den.low d h1, DenL.low ds h2]
end
theorem D.low_mono {b c : Nat} (hbc : b ≤ c) (d : D) : D.low b d = true → D.low c d = true :=
  D.rec (motive_1 := fun d => D.low b d = true → D.low c d = true) (motive_2 := fun ds => D.lowL b ds = true → D.lowL c ds = true)
    (fun _ => rfl) (fun _ _ => rfl) (fun _ _ => rfl) (fun _ _ => rfl) (fun n h => by simp [D.low] at h ⊢; omega) (fun ds ih h => by simp [D.low] at h ⊢; exact ih h) (fun _ => rfl)
    (fun d r i1 i2 h => by simp [D.lowL] at h ⊢; exact ⟨i1 h.1, i2 h.2⟩) d
theorem D.lowL_mono {b c : Nat} (hbc : b ≤ c) (ds : List D) (h : D.lowL b ds = true) : D.lowL c ds = true := D.lowL_iff.mpr fun d hd => D.low_mono hbc d (D.lowL_iff.mp h d hd)
theorem denL_low_succ {K : PySem.W.Frag} {T : Tb} {ρ : List Addr} {M : Sto} {H : Hp} {ds : List D} {vs : List V} (R : Rel K T ρ M H) (h : DenL K H ρ ds vs) : D.lowL (M.length + 1) ds = true :=
  D.lowL_mono (by rw [R.len]; exact Nat.le_succ _) ds (DenL.low ds h)
section
variable {X : Cx} {T : Tb} {W : WX} {pos : Pos} {es : List Expr} {g : Ev (List D)}
theorem mp_lst (h : PA X es (tA X.K T W g)) : PE X (.List es pos) (tE X.K T W (eLst g)) :=
  (pe_lst h).weak fun σ H Q h => (At.bindA (g := fun (ds : List D) (_ : Env) (M1 : Sto) => (if ds.length ≤ 16777216 then Res.ok (D.adr M1.length) (M1 ++ [MO.lst ds]) else Res.bad : Res D)) h).imp fun vs H1 ⟨ds, ρ, M, τ, s, l, q⟩ => by
    dsimp only at q
    by_cases hl : ds.length ≤ 16777216
    · rw [if_pos hl] at q
      have l1 := l (ds, vs) (by simp)
      refine ⟨len_line l1 hl, fun p hp => ?_⟩
      obtain ⟨r, x⟩ := rel_new s.rel hp l1 (denL_low_succ s.rel l1)
      exact q _ _ x r _ (den_new_lst s.rel.len)
    · rw [if_neg hl] at q; exact q.elim
end

/-! ### built-ins called, methods of built-in types -/
def eCall (fo : List D → Sto → Res D) (g : Ev (List D)) : FE := fun τ M => (g τ M).bind fun ds M1 => fo ds M1
def eMt (fo : D → List D → Sto → Res D) (f : FE) (g : Ev (List D)) : FE := fun τ M => (f τ M).bind fun d M1 => (g τ M1).bind fun ds M2 => fo d ds M2
section
variable {X : Cx} {T : Tb} {W : WX} {pos p : Pos} {x : Str} {e : Expr} {es : List Expr} {f : FE} {g : Ev (List D)} {r : List V → Hp → VK → Prop} {fo : List D → Sto → Res D} {id Ty : String}
theorem tE.call {K : PySem.W.Frag} {σ : L2.St} {H : Hp} {Q : VK} (s : ArS K T r fo) (h : tE K T W (eCall fo g) σ H Q) : tA K T W g σ H fun vs H1 => r vs H1 Q :=
  (At.bindA (g := fun ds _ M1 => fo ds M1) h).imp fun vs H1 ⟨ds, ρ, M, τ, sg, l, q⟩ => s ρ M H1 vs ds Q W σ sg.rel (l (ds, vs) (by simp)) q
theorem mp_callB (hc : CallR X (.builtin id) r) (hs : ArS X.K T r fo) (hg : Gl X x) (hm : X.mg x = none) (hv : bootBuiltins x = some (.builtin id)) (ha : PA X (e :: es) (tA X.K T W g)) (hn : x ≠ "__name__" := by decide) (hdb : (x == ("__debug__" : Str)) = false := by decide)
    (he : starEach (e :: es) X.env = (false, eval e X.env) :: starEach es X.env := by rfl) (hpl : (backTo pos (starEach es X.env)).any (·.1) = false := by rfl) : PE X (.Call (.Name x p) (e :: es) [] pos) (tE X.K T W (eCall fo g)) :=
  (pe_callB hc hg hm hv ha hn hdb he hpl).weak fun _ _ _ h => tE.call hs h
theorem mp_callTy (hc : CallR X (.type Ty) r) (hs : ArS X.K T r fo) (hg : Gl X x) (hm : X.mg x = none) (hv : bootBuiltins x = some (.type Ty)) (ha : PA X (e :: es) (tA X.K T W g)) (hn : x ≠ "__name__" := by decide) (hdb : (x == ("__debug__" : Str)) = false := by decide)
    (he : starEach (e :: es) X.env = (false, eval e X.env) :: starEach es X.env := by rfl) (hpl : (backTo pos (starEach es X.env)).any (·.1) = false := by rfl) : PE X (.Call (.Name x p) (e :: es) [] pos) (tE X.K T W (eCall fo g)) :=
  (pe_callTy hc hg hm hv ha hn hdb he hpl).weak fun _ _ _ h => tE.call hs h
end
end Mp

set_option Elab.async false
set_option linter.all false
set_option maxRecDepth 100000
set_option maxHeartbeats 2000000
/-! Mp3: the operations on data -/
namespace Mp
open PySem PySem.Spec PyProof.Rows L2
section
variable {K : PySem.W.Frag} {T : Tb} {ρ : List Addr} {M : Sto} {H : Hp} {W : WX} {σ : L2.St}
theorem den_int {i : Int} {v : V} : Den K H ρ (.int i) v ↔ v = .int i := by unfold Den; exact Iff.rfl
theorem den_bl {b : Bool} {v : V} : Den K H ρ (.bl b) v ↔ v = .bl b := by unfold Den; exact Iff.rfl
theorem den_str {x : Str} {v : V} : Den K H ρ (.str x) v ↔ v = .str x := by unfold Den; exact Iff.rfl
theorem den_non {v : V} : Den K H ρ .non v ↔ v = .non := by unfold Den; exact Iff.rfl
theorem den_tup {ds : List D} {v : V} : Den K H ρ (.tup ds) v ↔ ∃ a vs, v = .ref a ∧ SqT K H a vs ∧ DenL K H ρ ds vs := by rw [Den]
theorem den_adr {n : Nat} {v : V} : Den K H ρ (.adr n) v ↔ ∃ a : Addr, ρ[n]? = some a ∧ v = .ref a := by rw [Den]
theorem Rel.lst {n : Nat} {xs : List D} {v : V} (R : Rel K T ρ M H) (hM : M[n]? = some (.lst xs)) (h : Den K H ρ (.adr n) v) : ∃ a vs, v = .ref a ∧ ρ[n]? = some a ∧ H a = some (.lst vs) ∧ DenL K H ρ xs vs := by
  obtain ⟨a, e, rfl⟩ := den_adr.mp h
  obtain ⟨a', e', vs, h1, h2⟩ := R.ob n _ hM
  rw [e] at e'; cases e'
  exact ⟨a, vs, rfl, e, h1, h2⟩
theorem Rel.frz {n : Nat} {xs : List D} {v : V} (R : Rel K T ρ M H) (hM : M[n]? = some (.frz xs)) (h : Den K H ρ (.adr n) v) : ∃ a o vs, v = .ref a ∧ ρ[n]? = some a ∧ H a = some (.frz o (.lst vs)) ∧ DenL K H ρ xs vs := by
  obtain ⟨a, e, rfl⟩ := den_adr.mp h
  obtain ⟨a', e', o, vs, h1, h2⟩ := R.ob n _ hM
  rw [e] at e'; cases e'
  exact ⟨a, o, vs, rfl, e, h1, h2⟩
/-- a sequence's items: a tuple's, a list's -/
def seqOf : D → Sto → Option (List D)
  | .tup ds, _ => some ds
  | .adr n, M => match M[n]? with
    | some (.lst xs) => some xs
    | some (.frz xs) => some xs
    | _ => none
  | _, _ => none
theorem Rel.seq {d : D} {ds : List D} {v : V} (R : Rel K T ρ M H) (e : seqOf d M = some ds) (h : Den K H ρ d v) : ∃ a vs, v = .ref a ∧ (SqL K H a vs ∨ SqT K H a vs) ∧ DenL K H ρ ds vs ∧ ((∃ n, d = .adr n) → SqL K H a vs) ∧ ((∃ es, d = .tup es) → SqT K H a vs) := by
  cases d with
  | tup es =>
    cases e
    obtain ⟨a, vs, rfl, h1, h2⟩ := den_tup.mp h
    exact ⟨a, vs, rfl, .inr h1, h2, (fun h => by obtain ⟨_, z⟩ := h; cases z), fun _ => h1⟩
  | adr n =>
    simp only [seqOf] at e
    split at e
    · next xs hM =>
      cases e
      obtain ⟨a, vs, rfl, _, h1, h2⟩ := R.lst hM h
      exact ⟨a, vs, rfl, .inl (.inl (.inl h1)), h2, fun _ => .inl (.inl h1), (fun h => by obtain ⟨_, z⟩ := h; cases z)⟩
    · next xs hM =>
      cases e
      obtain ⟨a, o, vs, rfl, _, h1, h2⟩ := R.frz hM h
      exact ⟨a, vs, rfl, .inl (.inl (.inr ⟨o, h1⟩)), h2, fun _ => .inl (.inr ⟨o, h1⟩), (fun h => by obtain ⟨_, z⟩ := h; cases z)⟩
    · cases e
  | _ => cases e
/-- a new list as an answer -/
theorem new_lst {ds : List D} {vs : List V} {Q : VK} (R : Rel K T ρ M H) (l : DenL K H ρ ds vs) (q : Good K T W σ ρ H (RE K Q) (.ok (.adr M.length) (M ++ [.lst ds]))) : ∀ p, H p = none → Q (.ref p) (upd H p (.lst vs)) := fun p hp => by
  obtain ⟨r, x⟩ := rel_new R hp l (denL_low_succ R l)
  exact q _ _ x r _ (den_new_lst R.len)
theorem new_tup {ds : List D} {vs : List V} {Q : VK} (R : Rel K T ρ M H) (l : DenL K H ρ ds vs) (q : Good K T W σ ρ H (RE K Q) (.ok (.tup ds) M)) : ∀ p, H p = none → Q (.ref p) (upd H p (.tup vs)) := fun p hp => by
  obtain ⟨r, x⟩ := R.other (u := .tup vs) hp
  exact q _ _ x r _ (den_new_tup hp l)
end

/-! ### arithmetic -/
def dAdd : D → D → Sto → Res D
  | .int i, .int j, M => .ok (.int (i + j)) M
  | .tup a, .tup b, M => if a.length + b.length ≤ 16777216 then .ok (.tup (a ++ b)) M else .bad
  | .adr a, .adr b, M => match M[a]?, M[b]? with
    | some (.lst xs), some (.lst ys) => if xs.length + ys.length ≤ 16777216 then .ok (.adr M.length) (M ++ [.lst (xs ++ ys)]) else .bad
    | _, _ => .bad
  | _, _, _ => .bad
def dI2 (C : Int → Int → Bool) (g : Int → Int → Int) : D → D → Sto → Res D
  | .int i, .int j, M => if C i j = true then .ok (.int (g i j)) M else .bad
  | _, _, _ => .bad
def dSub : D → D → Sto → Res D := dI2 (fun _ _ => true) fun i j => i - j
def dMul : D → D → Sto → Res D
  | .int i, .int j, M => if i.natAbs.log2 + j.natAbs.log2 < 100000000 then .ok (.int (i * j)) M else .bad
  | .adr a, .int k, M => match M[a]? with
    | some (.lst xs) => if 0 ≤ k ∧ k < 2 ^ 63 ∧ xs.length * k.toNat ≤ 16777216 then .ok (.adr M.length) (M ++ [.lst (List.replicate k.toNat xs).flatten]) else .bad
    | _ => .bad
  | _, _, _ => .bad
def dFdiv : D → D → Sto → Res D := dI2 (fun _ j => decide (0 < j ∧ j.natAbs.log2 < 9000)) fun i j => i / j
def dMod : D → D → Sto → Res D := dI2 (fun _ j => decide (0 < j)) fun i j => i % j
def dPow : D → D → Sto → Res D := dI2 (fun i j => decide (0 ≤ j ∧ j ≤ 1000000 ∧ i.natAbs < 2 ^ 64)) fun i j => i ^ j.toNat
def dShl : D → D → Sto → Res D := dI2 (fun i j => decide (0 ≤ j ∧ (Builtin.Int.intBits i : Int) + j ≤ 2 ^ 27)) fun i j => i * 2 ^ j.toNat
def dShr : D → D → Sto → Res D := dI2 (fun _ j => decide (0 ≤ j)) fun i j => i / 2 ^ j.toNat
def dAnd : D → D → Sto → Res D := dI2 (fun _ _ => true) Builtin.bitAnd
def dOr : D → D → Sto → Res D := dI2 (fun _ _ => true) Builtin.bitOr
def dXor : D → D → Sto → Res D := dI2 (fun _ _ => true) Builtin.bitXor
def dNeg : D → Sto → Res D
  | .int i, M => .ok (.int (-i)) M
  | _, _ => .bad
section
variable {K : PySem.W.Frag} {T : Tb} {X : Cx}
theorem i2_s {C : Int → Int → Bool} {P : Int → Int → Prop} {g : Int → Int → Int} (h : ∀ i j, C i j = true → P i j) : OpS K T (rI P fun i j => .int (g i j)) (dI2 C g) := by
  intro ρ M H x y dx dy Q W σ R d1 d2 q
  cases dx with
  | int i =>
    cases dy with
    | int j =>
      rw [den_int] at d1 d2
      simp only [dI2] at q
      by_cases hc : C i j = true
      · rw [if_pos hc] at q
        exact ⟨i, j, d1, d2, h i j hc, q ρ H .me R _ (den_int.mpr rfl)⟩
      · rw [if_neg hc] at q; exact q.elim
    | _ => exact q.elim
  | _ => exact q.elim
theorem i0_s {g : Int → Int → Int} : OpS K T (rI0 fun i j => .int (g i j)) (dI2 (fun _ _ => true) g) := by
  intro ρ M H x y dx dy Q W σ R d1 d2 q
  obtain ⟨i, j, e1, e2, _, q⟩ := i2_s (P := fun _ _ => True) (fun _ _ _ => trivial) ρ M H x y dx dy Q W σ R d1 d2 q
  exact ⟨i, j, e1, e2, q⟩
theorem sub_s : OpS K T (rI0 fun i j => .int (i - j)) dSub := i0_s
theorem and_s : OpS K T (rI0 fun i j => .int (Builtin.bitAnd i j)) dAnd := i0_s
theorem or_s : OpS K T (rI0 fun i j => .int (Builtin.bitOr i j)) dOr := i0_s
theorem xor_s : OpS K T (rI0 fun i j => .int (Builtin.bitXor i j)) dXor := i0_s
theorem fdiv_s : OpS K T (rI CDivW fun i j => .int (i / j)) dFdiv := i2_s fun i j h => by simpa [CDivW] using h
theorem mod_s : OpS K T (rI (fun _ j => 0 < j) fun i j => .int (i % j)) dMod := i2_s fun i j h => by simpa using h
theorem pow_s : OpS K T (rI CPow fun i j => .int (i ^ j.toNat)) dPow := i2_s fun i j h => by simpa [CPow] using h
theorem shl_s : OpS K T (rI CShl fun i j => .int (i * 2 ^ j.toNat)) dShl := i2_s fun i j h => by simpa [CShl] using h
theorem shr_s : OpS K T (rI (fun _ j => 0 ≤ j) fun i j => .int (i / 2 ^ j.toNat)) dShr := i2_s fun i j h => by simpa using h
theorem neg_s : UnS K T (rU fun i => .int (-i)) dNeg := by
  intro ρ M H x dx Q W σ R d1 q
  cases dx with
  | int i => rw [den_int] at d1; exact ⟨i, d1, q ρ H .me R _ (den_int.mpr rfl)⟩
  | _ => exact q.elim
def rAddX (K : PySem.W.Frag) : R2 := fun x y H Q => rI0 (fun i j => .int (i + j)) x y H Q ∨ rCatA K x y H Q ∨ rCat x y H Q
theorem op_addX : OpR X (binaryOp .Add) (rAddX X.K) := op_add.or (op_catA.or op_cat)
theorem iop_addX : OpR X (inplaceOp .Add) (rI0 fun i j => .int (i + j)) := iop_add
theorem add_s : OpS K T (rAddX K) dAdd := by
  intro ρ M H x y dx dy Q W σ R d1 d2 q
  cases dx with
  | int i =>
    cases dy with
    | int j =>
      rw [den_int] at d1 d2
      exact .inl ⟨i, j, d1, d2, q ρ H .me R _ (den_int.mpr rfl)⟩
    | _ => exact q.elim
  | tup a =>
    cases dy with
    | tup b =>
      simp only [dAdd] at q
      by_cases hl : a.length + b.length ≤ 16777216
      · rw [if_pos hl] at q
        obtain ⟨p1, xs, rfl, h1, l1⟩ := den_tup.mp d1
        obtain ⟨p2, ys, rfl, h2, l2⟩ := den_tup.mp d2
        refine .inr (.inl ⟨p1, p2, xs, ys, rfl, rfl, h1, h2, by rw [← l1.length, ← l2.length]; unfold sizeLine; exact hl, fun e => ?_, fun e1 e2 => ?_, fun _ _ => new_tup R (l1.append l2) q⟩)
        · have ha : a = [] := List.eq_nil_of_length_eq_zero (by rw [l1.length, e]; rfl)
          subst ha
          exact q ρ H .me R _ (by simpa using d2)
        · have hb : b = [] := List.eq_nil_of_length_eq_zero (by rw [l2.length, e2]; rfl)
          subst hb
          exact q ρ H .me R _ (by simpa using d1)
      · rw [if_neg hl] at q; exact q.elim
    | _ => exact q.elim
  | adr a =>
    cases dy with
    | adr b =>
      simp only [dAdd] at q
      split at q
      · next xs ys e1 e2 =>
        by_cases hl : xs.length + ys.length ≤ 16777216
        · rw [if_pos hl] at q
          obtain ⟨p1, us, rfl, _, h1, l1⟩ := R.lst e1 d1
          obtain ⟨p2, ws, rfl, _, h2, l2⟩ := R.lst e2 d2
          exact .inr (.inr ⟨p1, p2, us, ws, rfl, rfl, h1, h2, by rw [← l1.length, ← l2.length]; unfold sizeLine; exact hl, new_lst R (l1.append l2) q⟩)
        · rw [if_neg hl] at q; exact q.elim
      · exact q.elim
    | _ => exact q.elim
  | _ => cases dy <;> exact q.elim
theorem DenL.rep {H : Hp} {ρ : List Addr} {ds : List D} {vs : List V} (l : DenL K H ρ ds vs) : ∀ n, DenL K H ρ (List.replicate n ds).flatten (List.replicate n vs).flatten
  | 0 => by simp [DenL.nil_iff]
  | n + 1 => by
    rw [List.replicate_succ, List.replicate_succ, List.flatten_cons, List.flatten_cons]
    exact l.append (DenL.rep l n)
/-- * of two factors of together less than a hundred million bits -/
def CMulV (i j : Int) : Prop := i.natAbs.log2 + j.natAbs.log2 < 100000000
theorem CMulV.ok {i j : Int} (h : CMulV i j) : IntMulOk i j := by
  have b : ∀ x : Int, Builtin.Int.intBits x ≤ x.natAbs.log2 + 1 := fun x => by
    unfold Builtin.Int.intBits
    split <;> omega
  have h1 := b i
  have h2 := b j
  have h3 : i.natAbs.log2 + j.natAbs.log2 < 100000000 := h
  have e : bitsLine = 134217728 := by decide
  unfold IntMulOk
  intro z
  rw [Bool.and_eq_true] at z
  have z2 := z.2
  unfold Builtin.Int.intTooBig at z2
  have z3 := of_decide_eq_true z2
  rw [e] at z3
  omega
theorem op_mulV : OpR X (binaryOp .Mult) (rI CMulV fun i j => .int (i * j)) := opI fun _ _ _ _ _ _ _ hc q => mul_int q hc.ok
def rMulX : R2 := fun x y H Q => rI CMulV (fun i j => .int (i * j)) x y H Q ∨ rRep x y H Q
theorem op_mulX' : OpR X (binaryOp .Mult) rMulX := op_mulV.or op_rep
theorem mul_s : OpS K T rMulX dMul := by
  intro ρ M H x y dx dy Q W σ R d1 d2 q
  cases dx with
  | int i =>
    cases dy with
    | int j =>
      rw [den_int] at d1 d2
      simp only [dMul] at q
      by_cases hc : i.natAbs.log2 + j.natAbs.log2 < 100000000
      · rw [if_pos hc] at q
        exact .inl ⟨i, j, d1, d2, hc, q ρ H .me R _ (den_int.mpr rfl)⟩
      · rw [if_neg hc] at q; exact q.elim
    | _ => exact q.elim
  | adr a =>
    cases dy with
    | int k =>
      simp only [dMul] at q
      split at q
      · next xs e1 =>
        by_cases hl : 0 ≤ k ∧ k < 2 ^ 63 ∧ xs.length * k.toNat ≤ 16777216
        · rw [if_pos hl] at q
          obtain ⟨p1, us, rfl, _, h1, l1⟩ := R.lst e1 d1
          rw [den_int] at d2
          exact .inr ⟨p1, k, us, rfl, d2, h1, by omega, hl.2.1, by rw [← l1.length]; unfold sizeLine; exact hl.2.2, new_lst R (l1.rep _) q⟩
        · rw [if_neg hl] at q; exact q.elim
      · exact q.elim
    | _ => exact q.elim
  | _ => cases dy <;> exact q.elim
end
end Mp

set_option Elab.async false
set_option linter.all false
set_option maxRecDepth 100000
set_option maxHeartbeats 2000000
/-! Mp4: comparisons, items, slices, built-ins -/
namespace Mp
open PySem PySem.Spec PyProof.Rows L2
mutual
def D.py : D → Option PyData
  | .non => some .none
  | .bl b => some (.bool b)
  | .int i => some (.int i)
  | .str x => some (.str x)
  | .adr _ => none
  | .tup ds => (D.pyL ds).map .tuple
def D.pyL : List D → Option (List PyData)
  | [] => some []
  | d :: r => match D.py d, D.pyL r with
    | some x, some y => some (x :: y)
    | _, _ => none
end
mutual
theorem py_dp {K : PySem.W.Frag} {H : Hp} {ρ : List Addr} : ∀ (d : D) {v : V} {p : PyData}, Den K H ρ d v → D.py d = some p → Dp K H v p
  | .non, _, _, h, e => by unfold Den at h; subst h; unfold D.py at e; cases e; exact .non
  | .bl b, _, _, h, e => by unfold Den at h; subst h; unfold D.py at e; cases e; exact .bl b
  | .int i, _, _, h, e => by unfold Den at h; subst h; unfold D.py at e; cases e; exact .int i
  | .str x, _, _, h, e => by unfold Den at h; subst h; unfold D.py at e; cases e; exact .str x
  | .adr _, _, _, _, e => by unfold D.py at e; cases e
  | .tup ds, _, _, h, e => by
    unfold Den at h
    obtain ⟨a, vs, rfl, h1, h2⟩ := h
    unfold D.py at e
    cases hl : D.pyL ds with
    | none => rw [hl] at e; cases e
    | some ps => rw [hl] at e; cases e; exact .tup h1 (py_dpL ds h2 hl)
theorem py_dpL {K : PySem.W.Frag} {H : Hp} {ρ : List Addr} : ∀ (ds : List D) {vs : List V} {ps : List PyData}, DenL K H ρ ds vs → D.pyL ds = some ps → DpAll K H vs ps
  | [], _, _, h, e => by unfold DenL at h; subst h; unfold D.pyL at e; cases e; exact .nil
  | d :: r, _, _, h, e => by
    unfold DenL at h
    obtain ⟨v, vr, rfl, h1, h2⟩ := h
    unfold D.pyL at e
    cases h3 : D.py d with
    | none => rw [h3] at e; cases e
    | some x =>
      cases h4 : D.pyL r with
      | none => rw [h3, h4] at e; cases e
      | some y => rw [h3, h4] at e; cases e; exact .cons (py_dp d h1 h3) (py_dpL r h2 h4)
end
def eqP (x y : D) : Option Bool := match x.py, y.py with
  | some a, some b => if SeqAt.shaped a = true ∧ SeqAt.shaped b = true then some (PyData.eqv a b) else none
  | _, _ => none
def dEq (x y : D) (M : Sto) : Res D := match eqP x y with
  | some b => .ok (.bl b) M
  | none => .bad
def dNe (x y : D) (M : Sto) : Res D := match eqP x y with
  | some b => .ok (.bl !b) M
  | none => .bad
def dCmp (p : Int → Int → Bool) : D → D → Sto → Res D
  | .int i, .int j, M => .ok (.bl (p i j)) M
  | _, _, _ => .bad
def dLt := dCmp fun i j => decide (i < j)
def dLe := dCmp fun i j => decide (i ≤ j)
def dGt := dCmp fun i j => decide (j < i)
def dGe := dCmp fun i j => decide (j ≤ i)
/-- is None, is not None: the right side is None -/
def dIsN : D → D → Sto → Res D
  | .non, .non, M => .ok (.bl true) M
  | _, .non, M => .ok (.bl false) M
  | _, _, _ => .bad
def dNotN : D → D → Sto → Res D
  | .non, .non, M => .ok (.bl false) M
  | _, .non, M => .ok (.bl true) M
  | _, _, _ => .bad
/-- an item: of a list, a tuple -/
def dIx (x y : D) (M : Sto) : Res D := match y with
  | .int i => match seqOf x M with
    | some ds => match atI ds i with
      | some d => .ok d M
      | none => .bad
    | none => .bad
  | _ => .bad
def cutD (xs : List D) (lo hi : Option Int) : List D := (xs.drop (HT.sIx xs.length 0 lo)).take (HT.sIx xs.length xs.length hi - HT.sIx xs.length 0 lo)
def dSl (x : D) (lo hi : Option Int) (M : Sto) : Res D := match x with
  | .tup ds => .ok (.tup (cutD ds lo hi)) M
  | .adr n => match M[n]? with
    | some (.lst xs) => .ok (.adr M.length) (M ++ [.lst (cutD xs lo hi)])
    | some (.frz xs) => .ok (.adr M.length) (M ++ [.lst (cutD xs lo hi)])
    | _ => .bad
  | _ => .bad
section
variable {K : PySem.W.Frag} {T : Tb} {X : Cx}
theorem eq_s : OpS K T (rEqD K) dEq := by
  intro ρ M H x y dx dy Q W σ R d1 d2 q
  unfold dEq eqP at q
  cases e1 : dx.py with
  | none => rw [e1] at q; exact q.elim
  | some a =>
    cases e2 : dy.py with
    | none => rw [e1, e2] at q; exact q.elim
    | some b =>
      rw [e1, e2] at q
      by_cases h : SeqAt.shaped a = true ∧ SeqAt.shaped b = true
      · simp only [if_pos h] at q
        exact ⟨a, b, py_dp _ d1 e1, py_dp _ d2 e2, h.1, h.2, q ρ H .me R _ (den_bl.mpr rfl)⟩
      · simp only [if_neg h] at q; exact q.elim
theorem ne_s : OpS K T (rNeD K) dNe := by
  intro ρ M H x y dx dy Q W σ R d1 d2 q
  unfold dNe eqP at q
  cases e1 : dx.py with
  | none => rw [e1] at q; exact q.elim
  | some a =>
    cases e2 : dy.py with
    | none => rw [e1, e2] at q; exact q.elim
    | some b =>
      rw [e1, e2] at q
      by_cases h : SeqAt.shaped a = true ∧ SeqAt.shaped b = true
      · simp only [if_pos h] at q
        exact ⟨a, b, py_dp _ d1 e1, py_dp _ d2 e2, h.1, h.2, q ρ H .me R _ (den_bl.mpr rfl)⟩
      · simp only [if_neg h] at q; exact q.elim
theorem cmp_s {p : Int → Int → Bool} : OpS K T (rI0 fun i j => .bl (p i j)) (dCmp p) := by
  intro ρ M H x y dx dy Q W σ R d1 d2 q
  cases dx with
  | int i =>
    cases dy with
    | int j => rw [den_int] at d1 d2; exact ⟨i, j, d1, d2, q ρ H .me R _ (den_bl.mpr rfl)⟩
    | _ => exact q.elim
  | _ => exact q.elim
theorem lt_s : OpS K T (rI0 fun i j => .bl (decide (i < j))) dLt := cmp_s
theorem le_s : OpS K T (rI0 fun i j => .bl (decide (i ≤ j))) dLe := cmp_s
theorem gt_s : OpS K T (rI0 fun i j => .bl (decide (j < i))) dGt := cmp_s
theorem ge_s : OpS K T (rI0 fun i j => .bl (decide (j ≤ i))) dGe := cmp_s
theorem den_notnon {H : Hp} {ρ : List Addr} {d : D} {v : V} (h : Den K H ρ d v) (hd : d ≠ .non) : v ≠ .non := by
  rintro rfl
  cases d with
  | non => exact hd rfl
  | bl b => rw [den_bl] at h; cases h
  | int b => rw [den_int] at h; cases h
  | str b => rw [den_str] at h; cases h
  | adr n => obtain ⟨a, _, h⟩ := den_adr.mp h; cases h
  | tup ds => obtain ⟨a, vs, h, _⟩ := den_tup.mp h; cases h
theorem isN_s : OpS K T (fun x y H Q => y = .non ∧ Q (.bl (decide (x = .non))) H) dIsN := by
  intro ρ M H x y dx dy Q W σ R d1 d2 q
  cases dy with
  | non =>
    refine ⟨den_non.mp d2, ?_⟩
    cases dx with
    | non => rw [den_non.mp d1]; exact q ρ H .me R _ (den_bl.mpr rfl)
    | _ => rw [decide_eq_false (den_notnon d1 (by intro z; cases z))]; exact q ρ H .me R _ (den_bl.mpr rfl)
  | _ => cases dx <;> exact q.elim
theorem notN_s : OpS K T (fun x y H Q => y = .non ∧ Q (.bl (!decide (x = .non))) H) dNotN := by
  intro ρ M H x y dx dy Q W σ R d1 d2 q
  cases dy with
  | non =>
    refine ⟨den_non.mp d2, ?_⟩
    cases dx with
    | non => rw [den_non.mp d1]; exact q ρ H .me R _ (den_bl.mpr rfl)
    | _ => rw [decide_eq_false (den_notnon d1 (by intro z; cases z))]; exact q ρ H .me R _ (den_bl.mpr rfl)
  | _ => cases dx <;> exact q.elim
theorem atI_den {H : Hp} {ρ : List Addr} {ds : List D} {vs : List V} {i : Int} {d : D} (l : DenL K H ρ ds vs) (e : atI ds i = some d) : ∃ v, atI vs i = some v ∧ Den K H ρ d v := by
  unfold atI at e ⊢
  rw [← l.length]
  cases hx : ixN ds.length i with
  | none => rw [hx] at e; cases e
  | some j =>
    rw [hx] at e
    obtain ⟨v, h1, h2⟩ := l.get (i := j) e
    exact ⟨v, h1, h2⟩
def rIxX (K : PySem.W.Frag) : R2 := fun x y H Q => rIxL K x y H Q ∨ rIxT K x y H Q
theorem ix_X : IxR X (rIxX X.K) := ix_list.or ix_tup
theorem ix_s : OpS K T (rIxX K) dIx := by
  intro ρ M H x y dx dy Q W σ R d1 d2 q
  unfold dIx at q
  cases dy with
  | int i =>
    simp only at q
    cases e : seqOf dx M with
    | none => rw [e] at q; exact q.elim
    | some ds =>
      rw [e] at q
      simp only at q
      cases e2 : atI ds i with
      | none => rw [e2] at q; exact q.elim
      | some d =>
        rw [e2] at q
        rw [den_int] at d2
        obtain ⟨a, vs, rfl, hs, l, _, _⟩ := R.seq e d1
        obtain ⟨v, h1, h2⟩ := atI_den l e2
        rcases hs with hs | hs
        · exact .inl ⟨a, vs, i, v, rfl, d2, hs, h1, q ρ H .me R _ h2⟩
        · exact .inr ⟨a, vs, i, v, rfl, d2, hs, h1, q ρ H .me R _ h2⟩
  | _ => exact q.elim
theorem cut_den {H : Hp} {ρ : List Addr} {ds : List D} {vs : List V} (l : DenL K H ρ ds vs) (lo hi : Option Int) : DenL K H ρ (cutD ds lo hi) (cutV vs lo hi) := by
  unfold cutD cutV
  rw [← l.length]
  exact (l.drop _).take _
/-- slices -/
def SlS (K : PySem.W.Frag) (T : Tb) (r : V → Option Int → Option Int → Hp → VK → Prop) (f : D → Option Int → Option Int → Sto → Res D) : Prop :=
  ∀ ρ M H x dx lo hi Q W σ, Rel K T ρ M H → Den K H ρ dx x → Good K T W σ ρ H (RE K Q) (f dx lo hi M) → r x lo hi H Q
def rSlX (K : PySem.W.Frag) : V → Option Int → Option Int → Hp → VK → Prop := fun x lo hi H Q => rSlA K x lo hi H Q ∨ rSlL K x lo hi H Q
theorem sl_X : SlR X (rSlX X.K) := sl_tupA.or sl_list
theorem cut_whole {ds : List D} {lo hi : Option Int} (h : HT.sIx ds.length 0 lo = 0 ∧ HT.sIx ds.length ds.length hi = ds.length) : cutD ds lo hi = ds := by
  unfold cutD
  rw [h.1, h.2]; simp
theorem sl_s : SlS K T (rSlX K) dSl := by
  intro ρ M H x dx lo hi Q W σ R d1 q
  cases dx with
  | tup ds =>
    obtain ⟨a, vs, rfl, h1, l⟩ := den_tup.mp d1
    refine .inl ⟨a, vs, rfl, h1, fun hw => ?_, fun _ => new_tup R (cut_den l lo hi) q⟩
    rw [← l.length] at hw
    simp only [dSl] at q
    rw [cut_whole hw] at q
    exact q ρ H .me R _ d1
  | adr n =>
    simp only [dSl] at q
    split at q
    · next xs hM =>
      obtain ⟨a, vs, rfl, _, h1, l⟩ := R.lst hM d1
      exact .inr ⟨a, vs, rfl, .inl (.inl h1), new_lst R (cut_den l lo hi) q⟩
    · next xs hM =>
      obtain ⟨a, o, vs, rfl, _, h1, l⟩ := R.frz hM d1
      exact .inr ⟨a, vs, rfl, .inl (.inr ⟨o, h1⟩), new_lst R (cut_den l lo hi) q⟩
    · exact q.elim
  | _ => exact q.elim
end
/-- a slice's part -/
def oNone : Ev (Option Int) := fun _ M => .ok none M
def oSome (f : FE) : Ev (Option Int) := fun τ M => (f τ M).bind fun d M1 => match d with
  | .int i => .ok (some i) M1
  | _ => .bad
def eSl (f : FE) (lo hi : Ev (Option Int)) : FE := fun τ M => (f τ M).bind fun d M1 => (lo τ M1).bind fun l M2 => (hi τ M2).bind fun h M3 => dSl d l h M3
def tO (K : PySem.W.Frag) (T : Tb) (W : WX) (f : Ev (Option Int)) : TO := fun σ H Q => At K T W [] σ H (fun o _ H' => Q o H') f
theorem At.bindO {α : Type} {K : PySem.W.Frag} {T : Tb} {W : WX} {c : List (D × V)} {σ : L2.St} {H : Hp} {R : α → List Addr → Hp → Prop} {f : Ev (Option Int)} {g : Option Int → Ev α} (h : At K T W c σ H R fun τ M => (f τ M).bind fun b M1 => g b τ M1) :
    tO K T W f σ H fun b H1 => At K T W c σ H1 R (g b) := by
  obtain ⟨ρ, M, τ, s, q⟩ := h
  refine ⟨ρ, M, τ, ⟨s.rel, s.env, fun _ z => nomatch z⟩, ?_⟩
  dsimp only at q
  cases e : f τ M with
  | ok b M1 =>
    rw [e] at q
    intro ρ1 H1 x r
    exact ⟨ρ1, M1, τ, ⟨r, s.env.mono x, fun p hp => Den.mono x _ (s.car p hp)⟩, Good.mono x q⟩
  | exn C fs M1 => rw [e] at q; exact q
  | bad => rw [e] at q; exact q
section
variable {X : Cx} {T : Tb} {W : WX} {pos p2 : Pos} {e : Expr} {lo hi : Option Expr} {f : FE} {fl fh : Ev (Option Int)}
theorem PO.weak {t t' : TO} (h : PO X lo t) (i : ∀ σ H Q, t' σ H Q → t σ H Q) : PO X lo t' := ⟨fun p s σ H Q I q => h.run p s σ H Q I (i σ H Q q)⟩
theorem mo_none : PO X none (tO X.K T W oNone) := PO.weak po_none fun σ H Q ⟨ρ, M, τ, s, q⟩ => q ρ H .me s.rel
theorem mo_some (h : PE X e (tE X.K T W f)) : PO X (some e) (tO X.K T W (oSome f)) :=
  PO.weak (po_some h) fun σ H Q h => (At.bindE (g := fun (d : D) (_ : Env) (M1 : Sto) => (match d with | .int i => Res.ok (some i) M1 | _ => Res.bad : Res (Option Int))) h).imp fun v H1 ⟨d, ρ, M, τ, s, q⟩ => by
    have hd := s.car (d, v) (by simp)
    cases d with
    | int i => exact ⟨i, den_int.mp hd, q ρ H1 .me s.rel⟩
    | _ => exact q.elim
theorem mp_slice (he : PE X e (tE X.K T W f)) (hl : PO X lo (tO X.K T W fl)) (hh : PO X hi (tO X.K T W fh)) : PE X (.Subscript e (.Slice lo hi none p2) pos) (tE X.K T W (eSl f fl fh)) :=
  (pe_slice sl_X he hl hh).weak fun σ H Q h =>
    (At.bindE (g := fun d τ M1 => (fl τ M1).bind fun l M2 => (fh τ M2).bind fun h M3 => dSl d l h M3) h).imp fun v H1 ⟨d, h1⟩ =>
    At.imp (At.bindO (g := fun l τ M2 => (fh τ M2).bind fun h M3 => dSl d l h M3) h1) fun l ρ' H2 h2 =>
    At.imp (At.bindO (g := fun h _ M3 => dSl d l h M3) h2) fun h ρ'' H3 ⟨ρ, M, τ, s, q⟩ => sl_s ρ M H3 v d l h Q W σ s.rel (s.car (d, v) (by simp)) q
end
end Mp

set_option Elab.async false
set_option linter.all false
set_option maxRecDepth 100000
set_option maxHeartbeats 2000000
/-! Mp5: built-ins -/
namespace Mp
open PySem PySem.Spec PyProof.Rows L2
/-! ### max, min of a tuple of ints -/
section
variable {prog : Program} {w : World} {A : Around} {E : Value → Shared → Prop} {s : Shared} {l : Addr} {its : List Value} {ns : List Int}
theorem iter_tupI {items : Array Value} {Q : Value → Shared → Prop} (hl : s.heap.IsTuple l items)
    (h : ∀ s₂ : Shared, s₂ = { s with heap := s.heap.push { cls := .type "tuple_iterator", data := .fields #[.ref l, .int 0 0] } } →
      (s₂.heap.IsTupleIter s.heap.objs.size l 0 ∧ s₂.heap.IsTuple l items) → (∀ b ∈ [s.heap.objs.size, l], b < s₂.heap.objs.size) → l ≠ s.heap.objs.size → Q (.ref s.heap.objs.size) s₂) :
    wpAny (model prog w) A (pyIter (.ref l)) Q E s := by
  have hlt : l < s.heap.objs.size := by obtain ⟨_, e, _⟩ := hl; exact Heap.lt_size e
  refine wpAny_pyIter_tuple hl (h _ rfl ⟨⟨_, Heap.get?_push_size _ rfl, rfl, rfl⟩, hl.at fun o e => Heap.get?_push_of_some _ e⟩ (fun b hb => ?_) (Nat.ne_of_lt hlt))
  show b < (s.heap.push _).objs.size
  rw [Heap.size_push]
  rcases List.mem_cons.mp hb with rfl | hb
  · exact Nat.lt_succ_self _
  · rcases List.mem_cons.mp hb with rfl | hb
    · exact Nat.lt_succ_of_lt hlt
    · cases hb
theorem old_keptT {h' : Heap} (hk : ∀ b o, b ∉ [s.heap.objs.size] → (s.heap.push { cls := .type "tuple_iterator", data := .fields #[.ref l, .int 0 0] }).get? b = some o → h'.get? b = some o) :
    ∀ b o, s.heap.get? b = some o → h'.get? b = some o := fun b o e => by
  refine hk b o (fun hm => ?_) (Heap.get?_push_of_some _ e)
  rcases List.mem_cons.mp hm with e1 | hm
  · exact absurd (e1 ▸ Heap.lt_size e) (Nat.lt_irrefl _)
  · cases hm
theorem max_intTup {xs : Array (Int × Tok)} {Q : Value → Shared → Prop} (hh : A.handled = none) (hl : s.heap.IsTuple l (intItems xs)) (hne : 0 < xs.size)
    (h : ∀ v h' tk, (intItems xs)[argBest (fun i j => decide (numAt xs i > numAt xs j)) (xs.size - 1)]? = some v → (∀ b o, s.heap.get? b = some o → h'.get? b = some o) → Q v { s with heap := h', toks := tk }) :
    wpAny (model prog w) A (call (.builtin "max") [.ref l]) Q E s := by
  refine call_max_walk (iter_tupI hl fun s₂ e st hfp hlI => ?_)
  subst e
  refine ⟨_, _, _, _, _, _, _, rfl, Walks.tuple (A := A.in1) hh _ l hlI (intItems xs), st, hfp, by simpa [intItems] using hne, CmpOf.ints_gt (numAt xs) (fun _ _ => intItems_at), fun v h' tk hP hk => ?_⟩
  exact h v h' tk (by simpa [intItems] using hP) (old_keptT hk)
theorem min_intTup {xs : Array (Int × Tok)} {Q : Value → Shared → Prop} (hh : A.handled = none) (hl : s.heap.IsTuple l (intItems xs)) (hne : 0 < xs.size)
    (h : ∀ v h' tk, (intItems xs)[argBest (fun i j => decide (numAt xs i < numAt xs j)) (xs.size - 1)]? = some v → (∀ b o, s.heap.get? b = some o → h'.get? b = some o) → Q v { s with heap := h', toks := tk }) :
    wpAny (model prog w) A (call (.builtin "min") [.ref l]) Q E s := by
  refine call_min_walk (iter_tupI hl fun s₂ e st hfp hlI => ?_)
  subst e
  refine ⟨_, _, _, _, _, _, _, rfl, Walks.tuple (A := A.in1) hh _ l hlI (intItems xs), st, hfp, by simpa [intItems] using hne, CmpOf.ints_lt (numAt xs) (fun _ _ => intItems_at), fun v h' tk hP hk => ?_⟩
  exact h v h' tk (by simpa [intItems] using hP) (old_keptT hk)
theorem max_rawT {Q : Value → Shared → Prop} (hh : A.handled = none) (hl : s.heap.IsTuple l its.toArray) (hi : IntsAre its ns) (hne : 0 < ns.length)
    (h : ∀ h' tk M t', (∀ b o, s.heap.get? b = some o → h'.get? b = some o) → M ∈ ns → (∀ a, a ∈ ns → a ≤ M) → Q (.int M t') { s with heap := h', toks := tk }) : wpAny (model prog w) A (call (.builtin "max") [.ref l]) Q E s := by
  obtain ⟨xs, e⟩ := hi.allInts.items
  have hn : numsOf (intItems xs).toList = ns := by rw [← e]; exact hi.numsOf
  rw [nums_intItems] at hn
  subst hn
  rw [e] at hl
  have hsz : 0 < xs.size := by simpa using hne
  refine max_intTup hh hl hsz fun v h' tk hv hk => ?_
  obtain ⟨t, rfl⟩ := intItems_at hv
  obtain ⟨h1, h2⟩ := argBest_gt (numAt xs) (xs.size - 1)
  refine h h' tk _ t hk ?_ fun a ha => ?_
  · rw [numAt_eq]; exact PySem.getD_mem (by rw [List.length_map, Array.length_toList]; omega)
  · obtain ⟨j, hj, rfl⟩ := mem_getD ha
    rw [List.length_map, Array.length_toList] at hj
    rw [← numAt_eq]; exact h2 j (by omega)
theorem min_rawT {Q : Value → Shared → Prop} (hh : A.handled = none) (hl : s.heap.IsTuple l its.toArray) (hi : IntsAre its ns) (hne : 0 < ns.length)
    (h : ∀ h' tk M t', (∀ b o, s.heap.get? b = some o → h'.get? b = some o) → M ∈ ns → (∀ a, a ∈ ns → M ≤ a) → Q (.int M t') { s with heap := h', toks := tk }) : wpAny (model prog w) A (call (.builtin "min") [.ref l]) Q E s := by
  obtain ⟨xs, e⟩ := hi.allInts.items
  have hn : numsOf (intItems xs).toList = ns := by rw [← e]; exact hi.numsOf
  rw [nums_intItems] at hn
  subst hn
  rw [e] at hl
  have hsz : 0 < xs.size := by simpa using hne
  refine min_intTup hh hl hsz fun v h' tk hv hk => ?_
  obtain ⟨t, rfl⟩ := intItems_at hv
  obtain ⟨h1, h2⟩ := argBest_lt (numAt xs) (xs.size - 1)
  refine h h' tk _ t hk ?_ fun a ha => ?_
  · rw [numAt_eq]; exact PySem.getD_mem (by rw [List.length_map, Array.length_toList]; omega)
  · obtain ⟨j, hj, rfl⟩ := mem_getD ha
    rw [List.length_map, Array.length_toList] at hj
    rw [← numAt_eq]; exact h2 j (by omega)
end
section
variable {X : Cx}
def rMaxT (K : PySem.W.Frag) : List V → Hp → VK → Prop := fun vs H Q => ∃ (a : Addr) (ns : List Int), vs = [V.ref a] ∧ SqT K H a (ns.map V.int) ∧ 0 < ns.length ∧ ∀ m, m ∈ ns → (∀ y, y ∈ ns → y ≤ m) → Q (.int m) H
def rMinT (K : PySem.W.Frag) : List V → Hp → VK → Prop := fun vs H Q => ∃ (a : Addr) (ns : List Int), vs = [V.ref a] ∧ SqT K H a (ns.map V.int) ∧ 0 < ns.length ∧ ∀ m, m ∈ ns → (∀ y, y ∈ ns → m ≤ y) → Q (.int m) H
theorem cr_maxT (hc : X.calm = true) : CallR X (.builtin "max") (rMaxT X.K) := by
  intro pins s σ H vs us Q I r h
  obtain ⟨a, ns, rfl, hs, hne, q⟩ := h
  obtain ⟨its, rv, hl, _⟩ := I.tuple hs
  rw [Vals.ref1 r]
  exact max_rawT (I.ok.hd hc) (show s.heap.IsTuple a its.toArray from hl) rv.ints hne fun h' tk m t' hk h1 h2 => ⟨.int _, H, I.kept hk, ⟨_, rfl⟩, q m h1 h2⟩
theorem cr_minT (hc : X.calm = true) : CallR X (.builtin "min") (rMinT X.K) := by
  intro pins s σ H vs us Q I r h
  obtain ⟨a, ns, rfl, hs, hne, q⟩ := h
  obtain ⟨its, rv, hl, _⟩ := I.tuple hs
  rw [Vals.ref1 r]
  exact min_rawT (I.ok.hd hc) (show s.heap.IsTuple a its.toArray from hl) rv.ints hne fun h' tk m t' hk h1 h2 => ⟨.int _, H, I.kept hk, ⟨_, rfl⟩, q m h1 h2⟩
end
/-! ### the built-ins on data -/
def intL : List D → Option (List Int)
  | [] => some []
  | .int i :: r => (intL r).map (i :: ·)
  | _ => none
def blL : List D → Option (List Bool)
  | [] => some []
  | .bl i :: r => (blL r).map (i :: ·)
  | _ => none
theorem intL_den {K : PySem.W.Frag} {H : Hp} {ρ : List Addr} : ∀ {ds : List D} {ns : List Int} {vs : List V}, intL ds = some ns → DenL K H ρ ds vs → vs = ns.map V.int
  | [], _, _, e, h => by simp only [intL, Option.some.injEq] at e; subst e; rw [DenL.nil_iff] at h; exact h
  | d :: r, _, _, e, h => by
    obtain ⟨v, t, rfl, h1, h2⟩ := DenL.cons_iff.mp h
    cases d with
    | int i =>
      simp only [intL, Option.map_eq_some_iff] at e
      obtain ⟨ns, e1, rfl⟩ := e
      rw [den_int] at h1
      rw [h1, intL_den e1 h2, List.map_cons]
    | _ => simp [intL] at e
theorem blL_den {K : PySem.W.Frag} {H : Hp} {ρ : List Addr} : ∀ {ds : List D} {ns : List Bool} {vs : List V}, blL ds = some ns → DenL K H ρ ds vs → vs = ns.map V.bl
  | [], _, _, e, h => by simp only [blL, Option.some.injEq] at e; subst e; rw [DenL.nil_iff] at h; exact h
  | d :: r, _, _, e, h => by
    obtain ⟨v, t, rfl, h1, h2⟩ := DenL.cons_iff.mp h
    cases d with
    | bl i =>
      simp only [blL, Option.map_eq_some_iff] at e
      obtain ⟨ns, e1, rfl⟩ := e
      rw [den_bl] at h1
      rw [h1, blL_den e1 h2, List.map_cons]
    | _ => simp [blL] at e
def bLen : List D → Sto → Res D
  | [.str x], M => if x.length ≤ 1000000 then .ok (.int x.length) M else .bad
  | [d], M => match seqOf d M with
    | some ds => .ok (.int ds.length) M
    | none => .bad
  | _, _ => .bad
def bAbs : List D → Sto → Res D
  | [.int i], M => .ok (.int (if i < 0 then -i else i)) M
  | _, _ => .bad
def bInt : List D → Sto → Res D
  | [.int i], M => .ok (.int i) M
  | [.bl b], M => .ok (.int (if b then 1 else 0)) M
  | _, _ => .bad
def bBool : List D → Sto → Res D
  | [.int i], M => .ok (.bl (i != 0)) M
  | [.bl b], M => .ok (.bl b) M
  | _, _ => .bad
/-- the greatest of a list -/
def maxI : Int → List Int → Int
  | m, [] => m
  | m, x :: r => maxI (if x > m then x else m) r
def minI : Int → List Int → Int
  | m, [] => m
  | m, x :: r => minI (if x < m then x else m) r
theorem maxI_spec : ∀ (r : List Int) (m : Int), maxI m r ∈ m :: r ∧ ∀ y ∈ m :: r, y ≤ maxI m r
  | [], m => by simp [maxI]
  | x :: r, m => by
    obtain ⟨h1, h2⟩ := maxI_spec r (if x > m then x else m)
    unfold maxI
    refine ⟨?_, fun y hy => ?_⟩
    · rcases List.mem_cons.mp h1 with e | e
      · rw [e]; split <;> simp
      · simp [e]
    · have h3 := h2 _ List.mem_cons_self
      rcases List.mem_cons.mp hy with rfl | hy
      · split at h3 <;> split <;> omega
      · rcases List.mem_cons.mp hy with rfl | hy
        · split at h3 <;> split <;> omega
        · exact h2 y (List.mem_cons_of_mem _ hy)
theorem minI_spec : ∀ (r : List Int) (m : Int), minI m r ∈ m :: r ∧ ∀ y ∈ m :: r, minI m r ≤ y
  | [], m => by simp [minI]
  | x :: r, m => by
    obtain ⟨h1, h2⟩ := minI_spec r (if x < m then x else m)
    unfold minI
    refine ⟨?_, fun y hy => ?_⟩
    · rcases List.mem_cons.mp h1 with e | e
      · rw [e]; split <;> simp
      · simp [e]
    · have h3 := h2 _ List.mem_cons_self
      rcases List.mem_cons.mp hy with rfl | hy
      · split at h3 <;> split <;> omega
      · rcases List.mem_cons.mp hy with rfl | hy
        · split at h3 <;> split <;> omega
        · exact h2 y (List.mem_cons_of_mem _ hy)
def bMax : List D → Sto → Res D
  | [.int i, .int j], M => .ok (.int (if j > i then j else i)) M
  | [d], M => match (seqOf d M).bind intL with
    | some (m :: r) => .ok (.int (maxI m r)) M
    | _ => .bad
  | _, _ => .bad
def bMin : List D → Sto → Res D
  | [.int i, .int j], M => .ok (.int (if j < i then j else i)) M
  | [d], M => match (seqOf d M).bind intL with
    | some (m :: r) => .ok (.int (minI m r)) M
    | _ => .bad
  | _, _ => .bad
/-- of lists alone -/
def lstOf : D → Sto → Option (List D)
  | .adr n, M => seqOf (.adr n) M
  | _, _ => none
def bSum : List D → Sto → Res D
  | [d], M => match (lstOf d M).bind intL with
    | some ns => .ok (.int ns.sum) M
    | none => .bad
  | _, _ => .bad
def bAll : List D → Sto → Res D
  | [d], M => match (lstOf d M).bind blL with
    | some bs => .ok (.bl (bs.all id)) M
    | none => .bad
  | _, _ => .bad
def bAny : List D → Sto → Res D
  | [d], M => match (lstOf d M).bind blL with
    | some bs => .ok (.bl (bs.any id)) M
    | none => .bad
  | _, _ => .bad
def bTuple : List D → Sto → Res D
  | [.tup ds], M => .ok (.tup ds) M
  | [.adr n], M => match seqOf (.adr n) M with
    | some ds => .ok (.tup ds) M
    | none => .bad
  | _, _ => .bad
def bList : List D → Sto → Res D
  | [d], M => match seqOf d M with
    | some ds => .ok (.adr M.length) (M ++ [.lst ds])
    | none => .bad
  | _, _ => .bad
def D.ty : D → Sto → Option String
  | .non, _ => some "NoneType"
  | .bl _, _ => some "bool"
  | .int _, _ => some "int"
  | .str _, _ => some "str"
  | .tup _, _ => some "tuple"
  | .adr n, M => match M[n]? with
    | some (.lst _) => some "list"
    | some (.frz _) => some "list"
    | some (.dic _) => some "dict"
    | _ => none
def dIsi (C : String) (d : D) (M : Sto) : Res D := match d.ty M with
  | some t => match kitB t C with
    | some b => .ok (.bl b) M
    | none => .bad
  | none => .bad
def dBits : D → Sto → Res D
  | .int i, M => .ok (.int (Builtin.Int.intBits i : Nat)) M
  | _, _ => .bad
def dAppend : D → List D → Sto → Res D
  | .adr n, [d], M => match M[n]? with
    | some (.lst xs) => if xs.length < 16777216 then .ok .non (M.set n (.lst (xs ++ [d]))) else .bad
    | _ => .bad
  | _, _, _ => .bad
section
variable {K : PySem.W.Frag} {T : Tb} {X : Cx}
theorem denL1 {H : Hp} {ρ : List Addr} {d : D} {vs : List V} (h : DenL K H ρ [d] vs) : ∃ v, vs = [v] ∧ Den K H ρ d v := by
  obtain ⟨v, r, rfl, h1, h2⟩ := DenL.cons_iff.mp h
  rw [DenL.nil_iff] at h2
  subst h2
  exact ⟨v, rfl, h1⟩
theorem denL2 {H : Hp} {ρ : List Addr} {d e : D} {vs : List V} (h : DenL K H ρ [d, e] vs) : ∃ v w, vs = [v, w] ∧ Den K H ρ d v ∧ Den K H ρ e w := by
  obtain ⟨v, r, rfl, h1, h2⟩ := DenL.cons_iff.mp h
  obtain ⟨w, rfl, h3⟩ := denL1 h2
  exact ⟨v, w, rfl, h1, h3⟩
def rLenX (K : PySem.W.Frag) : List V → Hp → VK → Prop := fun xs H Q => (∃ p ys, xs = [.ref p] ∧ (SqL K H p ys ∨ SqT K H p ys) ∧ Q (.int ys.length) H) ∨ (∃ z, xs = [.str z] ∧ z.length ≤ sizeLine ∧ Q (.int z.length) H)
theorem len_X : CallR X (.builtin "len") (rLenX X.K) := call_len_seq.or call_len_str
theorem len_s : ArS K T (rLenX K) bLen := by
  intro ρ M H xs ds Q W σ R l q
  unfold bLen at q
  split at q
  · next x =>
    obtain ⟨v, rfl, hv⟩ := denL1 l
    rw [den_str] at hv
    subst hv
    split at q
    · next hx => exact .inr ⟨x, rfl, Nat.le_trans hx (by unfold sizeLine; decide), q ρ H .me R _ (den_int.mpr rfl)⟩
    · exact q.elim
  · next d _ =>
    obtain ⟨v, rfl, hv⟩ := denL1 l
    split at q
    · next es e =>
      obtain ⟨a, vs, rfl, h1, h2, _⟩ := R.seq e hv
      rw [h2.length] at q
      exact .inl ⟨a, vs, rfl, h1, q ρ H .me R _ (den_int.mpr rfl)⟩
    · exact q.elim
  · exact q.elim
theorem abs_s : ArS K T (fun xs H Q => ∃ i, xs = [.int i] ∧ Q (.int (if i < 0 then -i else i)) H) bAbs := by
  intro ρ M H xs ds Q W σ R l q
  unfold bAbs at q
  split at q
  · next i =>
    obtain ⟨v, rfl, hv⟩ := denL1 l
    rw [den_int] at hv; subst hv
    exact ⟨i, rfl, q ρ H .me R _ (den_int.mpr rfl)⟩
  · exact q.elim
theorem int_s : ArS K T (fun xs H Q => (∃ i, xs = [.int i] ∧ Q (.int i) H) ∨ ∃ k, xs = [.bl k] ∧ Q (.int (if k then 1 else 0)) H) bInt := by
  intro ρ M H xs ds Q W σ R l q
  unfold bInt at q
  split at q
  · next i =>
    obtain ⟨v, rfl, hv⟩ := denL1 l
    rw [den_int] at hv; subst hv
    exact .inl ⟨i, rfl, q ρ H .me R _ (den_int.mpr rfl)⟩
  · next i =>
    obtain ⟨v, rfl, hv⟩ := denL1 l
    rw [den_bl] at hv; subst hv
    exact .inr ⟨i, rfl, q ρ H .me R _ (den_int.mpr rfl)⟩
  · exact q.elim
theorem bool_s : ArS K T (fun xs H Q => (∃ i, xs = [.int i] ∧ Q (.bl (i != 0)) H) ∨ ∃ k, xs = [.bl k] ∧ Q (.bl k) H) bBool := by
  intro ρ M H xs ds Q W σ R l q
  unfold bBool at q
  split at q
  · next i =>
    obtain ⟨v, rfl, hv⟩ := denL1 l
    rw [den_int] at hv; subst hv
    exact .inl ⟨i, rfl, q ρ H .me R _ (den_bl.mpr rfl)⟩
  · next i =>
    obtain ⟨v, rfl, hv⟩ := denL1 l
    rw [den_bl] at hv; subst hv
    exact .inr ⟨i, rfl, q ρ H .me R _ (den_bl.mpr rfl)⟩
  · exact q.elim
def rMaxX (K : PySem.W.Frag) : List V → Hp → VK → Prop := fun xs H Q => (∃ i j, xs = [.int i, .int j] ∧ Q (.int (if j > i then j else i)) H) ∨ (rMax K xs H Q ∨ rMaxT K xs H Q)
def rMinX (K : PySem.W.Frag) : List V → Hp → VK → Prop := fun xs H Q => (∃ i j, xs = [.int i, .int j] ∧ Q (.int (if j < i then j else i)) H) ∨ (rMin K xs H Q ∨ rMinT K xs H Q)
theorem max_X (hc : X.calm = true) : CallR X (.builtin "max") (rMaxX X.K) := (call_max2 hc).or ((cr_max hc).or (cr_maxT hc))
theorem min_X (hc : X.calm = true) : CallR X (.builtin "min") (rMinX X.K) := (call_min2 hc).or ((cr_min hc).or (cr_minT hc))
theorem max_s : ArS K T (rMaxX K) bMax := by
  intro ρ M H xs ds Q W σ R l q
  unfold bMax at q
  split at q
  · next i j =>
    obtain ⟨v, w, rfl, h1, h2⟩ := denL2 l
    rw [den_int] at h1 h2; subst h1 h2
    exact .inl ⟨i, j, rfl, q ρ H .me R _ (den_int.mpr rfl)⟩
  · next d =>
    obtain ⟨v, rfl, hv⟩ := denL1 l
    split at q
    · next m r e =>
      obtain ⟨es, e1, e2⟩ := Option.bind_eq_some_iff.mp e
      obtain ⟨a, vs, rfl, h1, h2, _⟩ := R.seq e1 hv
      have h3 := intL_den e2 h2
      subst h3
      have fin : ∀ k, k ∈ m :: r → (∀ y, y ∈ m :: r → y ≤ k) → Q (.int k) H := fun k hk hy => by
        obtain ⟨s1, s2⟩ := maxI_spec r m
        have : k = maxI m r := Int.le_antisymm (s2 k hk) (hy _ s1)
        subst this
        exact q ρ H .me R _ (den_int.mpr rfl)
      rcases h1 with h1 | h1
      · exact .inr (.inl ⟨a, m :: r, rfl, h1, by simp, fin⟩)
      · exact .inr (.inr ⟨a, m :: r, rfl, h1, by simp, fin⟩)
    · exact q.elim
  · exact q.elim
theorem min_s : ArS K T (rMinX K) bMin := by
  intro ρ M H xs ds Q W σ R l q
  unfold bMin at q
  split at q
  · next i j =>
    obtain ⟨v, w, rfl, h1, h2⟩ := denL2 l
    rw [den_int] at h1 h2; subst h1 h2
    exact .inl ⟨i, j, rfl, q ρ H .me R _ (den_int.mpr rfl)⟩
  · next d =>
    obtain ⟨v, rfl, hv⟩ := denL1 l
    split at q
    · next m r e =>
      obtain ⟨es, e1, e2⟩ := Option.bind_eq_some_iff.mp e
      obtain ⟨a, vs, rfl, h1, h2, _⟩ := R.seq e1 hv
      have h3 := intL_den e2 h2
      subst h3
      have fin : ∀ k, k ∈ m :: r → (∀ y, y ∈ m :: r → k ≤ y) → Q (.int k) H := fun k hk hy => by
        obtain ⟨s1, s2⟩ := minI_spec r m
        have : k = minI m r := Int.le_antisymm (hy _ s1) (s2 k hk)
        subst this
        exact q ρ H .me R _ (den_int.mpr rfl)
      rcases h1 with h1 | h1
      · exact .inr (.inl ⟨a, m :: r, rfl, h1, by simp, fin⟩)
      · exact .inr (.inr ⟨a, m :: r, rfl, h1, by simp, fin⟩)
    · exact q.elim
  · exact q.elim
theorem Rel.lstOf {ρ : List Addr} {M : Sto} {H : Hp} {d : D} {ds : List D} {v : V} (R : Rel K T ρ M H) (e : lstOf d M = some ds) (h : Den K H ρ d v) : ∃ a vs, v = .ref a ∧ SqL K H a vs ∧ DenL K H ρ ds vs := by
  cases d with
  | adr n =>
    obtain ⟨a, vs, rfl, _, h2, h3, _⟩ := R.seq (d := .adr n) e h
    exact ⟨a, vs, rfl, h3 ⟨n, rfl⟩, h2⟩
  | _ => simp [Mp.lstOf] at e
theorem sum_s : ArS K T (rSum K) bSum := by
  intro ρ M H xs ds Q W σ R l q
  unfold bSum at q
  split at q
  · next d =>
    obtain ⟨v, rfl, hv⟩ := denL1 l
    split at q
    · next ns e =>
      obtain ⟨es, e1, e2⟩ := Option.bind_eq_some_iff.mp e
      obtain ⟨a, vs, rfl, h1, h2⟩ := R.lstOf e1 hv
      have h3 := intL_den e2 h2
      subst h3
      exact ⟨a, ns, rfl, h1, q ρ H .me R _ (den_int.mpr rfl)⟩
    · exact q.elim
  · exact q.elim
theorem all_s : ArS K T (rAll K) bAll := by
  intro ρ M H xs ds Q W σ R l q
  unfold bAll at q
  split at q
  · next d =>
    obtain ⟨v, rfl, hv⟩ := denL1 l
    split at q
    · next ns e =>
      obtain ⟨es, e1, e2⟩ := Option.bind_eq_some_iff.mp e
      obtain ⟨a, vs, rfl, h1, h2⟩ := R.lstOf e1 hv
      have h3 := blL_den e2 h2
      subst h3
      exact ⟨a, ns, rfl, h1, q ρ H .me R _ (den_bl.mpr rfl)⟩
    · exact q.elim
  · exact q.elim
theorem any_s : ArS K T (rAny K) bAny := by
  intro ρ M H xs ds Q W σ R l q
  unfold bAny at q
  split at q
  · next d =>
    obtain ⟨v, rfl, hv⟩ := denL1 l
    split at q
    · next ns e =>
      obtain ⟨es, e1, e2⟩ := Option.bind_eq_some_iff.mp e
      obtain ⟨a, vs, rfl, h1, h2⟩ := R.lstOf e1 hv
      have h3 := blL_den e2 h2
      subst h3
      exact ⟨a, ns, rfl, h1, q ρ H .me R _ (den_bl.mpr rfl)⟩
    · exact q.elim
  · exact q.elim
def rTupleX (K : PySem.W.Frag) : List V → Hp → VK → Prop := fun xs H Q => ∃ p ys, xs = [.ref p] ∧ ((SqL K H p ys ∧ ∀ l, H l = none → Q (.ref l) (upd H l (.tup ys))) ∨ (SqT K H p ys ∧ Q (.ref p) H))
theorem tuple_X : CallR X (.type "tuple") (rTupleX X.K) := call_tuple_of
theorem tuple_s : ArS K T (rTupleX K) bTuple := by
  intro ρ M H xs ds Q W σ R l q
  unfold bTuple at q
  split at q
  · next es =>
    obtain ⟨v, rfl, hv⟩ := denL1 l
    obtain ⟨a, vs, rfl, h1, h2⟩ := den_tup.mp hv
    exact ⟨a, vs, rfl, .inr ⟨h1, q ρ H .me R _ hv⟩⟩
  · next n =>
    obtain ⟨v, rfl, hv⟩ := denL1 l
    split at q
    · next es e =>
      obtain ⟨a, vs, rfl, _, h2, h3, _⟩ := R.seq e hv
      exact ⟨a, vs, rfl, .inl ⟨h3 ⟨n, rfl⟩, new_tup R h2 q⟩⟩
    · exact q.elim
  · exact q.elim
def rListX (K : PySem.W.Frag) : List V → Hp → VK → Prop := fun xs H Q => ∃ p ys, xs = [.ref p] ∧ (SqL K H p ys ∨ SqT K H p ys) ∧ ∀ l, H l = none → Q (.ref l) (upd H l (.lst ys))
theorem list_X : CallR X (.type "list") (rListX X.K) := call_list_of
theorem list_s : ArS K T (rListX K) bList := by
  intro ρ M H xs ds Q W σ R l q
  unfold bList at q
  split at q
  · next d =>
    obtain ⟨v, rfl, hv⟩ := denL1 l
    split at q
    · next es e =>
      obtain ⟨a, vs, rfl, h1, h2, _⟩ := R.seq e hv
      exact ⟨a, vs, rfl, h1, new_lst R h2 q⟩
    · exact q.elim
  · exact q.elim
theorem tyX_of {ρ : List Addr} {M : Sto} {H : Hp} {d : D} {v : V} {t : String} (R : Rel K T ρ M H) (h : Den K H ρ d v) (e : d.ty M = some t) : TyX K H v (.type t) := by
  cases d with
  | non => rw [den_non] at h; subst h; simp only [D.ty, Option.some.injEq] at e; subst e; exact .base .non
  | bl b => rw [den_bl] at h; subst h; simp only [D.ty, Option.some.injEq] at e; subst e; exact .base (.bl b)
  | int b => rw [den_int] at h; subst h; simp only [D.ty, Option.some.injEq] at e; subst e; exact .base (.int b)
  | str b => rw [den_str] at h; subst h; simp only [D.ty, Option.some.injEq] at e; subst e; exact .base (.str b)
  | tup ds =>
    obtain ⟨a, vs, rfl, h1, _⟩ := den_tup.mp h
    simp only [D.ty, Option.some.injEq] at e
    subst e
    rcases h1 with (h1 | ⟨o, h1⟩) | ⟨o, its, n, h1, h2, _⟩
    · exact .base (.tup h1)
    · exact .fTuple h1
    · exact .kTuple h1 h2
  | adr n =>
    simp only [D.ty] at e
    split at e
    · next xs hM =>
      obtain ⟨a, vs, rfl, _, h1, _⟩ := R.lst hM h
      cases e; exact .base (.lst h1)
    · next xs hM =>
      obtain ⟨a, o, vs, rfl, _, h1, _⟩ := R.frz hM h
      cases e; exact .base (.frz h1)
    · next xs hM =>
      obtain ⟨a, e1, rfl⟩ := den_adr.mp h
      obtain ⟨a', e2, h1⟩ := R.ob n _ hM
      rw [e1] at e2; cases e2
      cases e
      rcases h1 with ⟨ks, h1, _⟩ | ⟨ks, h1, _⟩
      · exact .base (.dK h1)
      · exact .base (.dT h1)
    · cases e
theorem isi_s {C : String} : UnS K T (fun x H Q => ∃ t u b, ClsV (.ty C) u ∧ TyX K H x t ∧ PySem.W.kitOne K t u = some b ∧ Q (.bl b) H) (dIsi C) := by
  intro ρ M H x dx Q W σ R d q
  unfold dIsi at q
  split at q
  · next t e =>
    split at q
    · next b e2 => exact ⟨.type t, .type C, b, .ty C, tyX_of R d e, kit_ty e2, q ρ H .me R _ (den_bl.mpr rfl)⟩
    · exact q.elim
  · exact q.elim
end
def eApp (f : FE) (g : Ev (List D)) : FE := fun τ M => (f τ M).bind fun d M1 => match lstOf d M1 with
  | some _ => (g τ M1).bind fun ds M2 => dAppend d ds M2
  | none => .bad
section
variable {X : Cx} {T : Tb} {W : WX} {pos p p2 ap : Pos} {C x : Str} {a : Expr} {f : FE} {g : Ev (List D)} {e : Expr} {es : List Expr}
/-- isinstance(x, C), C a built-in type -/
theorem mp_isi {C : String} (hg : Gl X "isinstance") (hm : X.mg "isinstance" = none) (hg2 : Gl X (Str.ofString C)) (hm2 : X.mg (Str.ofString C) = none) (hv2 : bootBuiltins (Str.ofString C) = some (.type C)) (ha : PE X a (tE X.K T W f)) (hn : Str.ofString C ≠ "__name__" := by decide) (hdb : (Str.ofString C == ("__debug__" : Str)) = false := by decide)
    (hs : starEach [a, .Name (Str.ofString C) p2] X.env = (false, eval a X.env) :: starEach [.Name (Str.ofString C) p2] X.env := by rfl) :
    PE X (.Call (.Name "isinstance" p) [a, .Name (Str.ofString C) p2] [] pos) (tE X.K T W (eUn (dIsi C) f)) :=
  (pe_callB call_isi hg hm PyProof.Rows.boot_isinstance (pa_cons ha (pa_cons (pe_bltn (v := .ty C) hg2 hm2 hv2 rfl hn hdb) pa_nil) hs) (by decide) (by decide) hs).weak fun σ H Q h => by
    refine (tE.un isi_s h).imp fun v H1 ⟨t, u, b, c, ty, k, q⟩ => ?_
    exact ⟨v, .ty C, t, u, b, rfl, c, ty, k, q⟩
theorem mp_bits (ho : PE X a (tE X.K T W f)) (hbase : attributeBase a "bit_length" X.env (eval a X.env) = eval a X.env := by rfl) (hline : (ap.endLine == pos.line) = true := by rfl) : PE X (.Call (.Attribute a "bit_length" ap) [] [] pos) (tE X.K T W (eUn dBits f)) :=
  (pe_bits ho hbase hline).weak fun σ H Q h => tE.un (r := fun x H Q => ∃ i, x = .int i ∧ Q (.int (Builtin.Int.intBits i : Nat)) H) (fun ρ M H x dx Q W σ R d q => by
    cases dx with
    | int i => rw [den_int] at d; exact ⟨i, d, q ρ H .me R _ (den_int.mpr rfl)⟩
    | _ => exact q.elim) h
/-- l.append(x) -/
theorem mp_append (ho : PE X a (tE X.K T W f)) (ha : PA X (e :: es) (tA X.K T W g)) (hbase : attributeBase a "append" X.env (eval a X.env) = eval a X.env := by rfl)
    (hfew : ((backTo pos (starEach (e :: es) X.env)).all (fun x => !x.1) && (backToKw pos (keywordEach [] X.env)).all (fun x => x.1.isSome)
      && decide ((e :: es).length + ([] : List Keyword).length + (if ([] : List Keyword).isEmpty then 0 else 1) < 30)) = true := by rfl)
    (hline : (ap.endLine == pos.line) = true := by rfl) (hs : starEach (e :: es) X.env = (false, eval e X.env) :: starEach es X.env := by rfl) (hplain : (backTo pos (starEach es X.env)).any (·.1) = false := by rfl) :
    PE X (.Call (.Attribute a "append" ap) (e :: es) [] pos) (tE X.K T W (eApp f g)) :=
  (pe_bm PySem.F.plainAttrs_list PySem.F.slot_list_append PySem.F.type_list_append mt_append ho ha hbase hfew hline hs hplain).weak fun σ H Q h => by
    refine (At.bindE (g := fun d τ M1 => match lstOf d M1 with | some _ => (g τ M1).bind fun ds M2 => dAppend d ds M2 | none => .bad) h).imp fun v H1 ⟨d, ρ0, M0, τ0, s0, q0⟩ => ?_
    dsimp only at q0
    cases e0 : lstOf d M0 with
    | none => rw [e0] at q0; exact q0.elim
    | some xs0 =>
    rw [e0] at q0
    have ty : tyV X.K "list" v H1 := by
      obtain ⟨b, us, rfl, h1, _⟩ := s0.rel.lstOf e0 (s0.car (d, v) (by simp))
      exact .inl ⟨rfl, us, h1⟩
    refine ⟨ty, (At.bindA (g := fun ds _ M2 => dAppend d ds M2) ⟨ρ0, M0, τ0, s0, q0⟩).imp fun vs H2 ⟨ds, ρ, M, τ, s, l, q⟩ => ?_⟩
    dsimp only at q
    have hd := s.car (d, v) (by simp)
    have hl := l (ds, vs) (by simp)
    unfold dAppend at q
    split at q
    · next n d0 _ =>
      split at q
      · next xs hM =>
        split at q
        · next hlt =>
          obtain ⟨b, us, rfl, e1, h1, h2⟩ := s.rel.lst hM hd
          obtain ⟨u, rfl, hu⟩ := denL1 hl
          have hlen := h2.length
          refine ⟨b, us, u, rfl, rfl, h1, by rw [← hlen]; unfold sizeLine; exact hlt, ?_⟩
          obtain ⟨r, x⟩ := s.rel.write (o' := .lst (xs ++ [d0])) (u := .lst (us ++ [u])) hM e1 (fun w ys z => by rw [h1] at z; cases z)
            (fun Y => ⟨us ++ [u], upd_same, (DenL.mono Y _ h2).append (DenL.cons_iff.mpr ⟨u, [], rfl, Den.mono Y _ hu, DenL.nil_iff.mpr rfl⟩)⟩)
            (D.lowL_iff.mpr fun d hd => by
              rcases List.mem_append.mp hd with hd | hd
              · exact D.lowL_iff.mp (s.rel.cl _ (List.mem_of_getElem? hM)) d hd
              · simp only [List.mem_singleton] at hd
                subst hd
                rw [← s.rel.len]; exact Den.low _ hu)
          exact q ρ _ x r _ (den_non.mpr rfl)
        · exact q.elim
      · exact q.elim
    · exact q.elim
end
end Mp

set_option Elab.async false
set_option linter.all false
set_option maxRecDepth 100000
set_option maxHeartbeats 2000000
/-! Mp6: statements -/
namespace Mp
open PySem PySem.Spec PyProof.Rows L2

inductive Fl where
  | nx | bk | ct
  | rt (d : D)
inductive SR where
  | go (f : Fl) (τ : Env) (M : Sto)
  | ex (C : Addr) (fs : List (Str × D)) (τ : Env) (M : Sto)
  | bad
abbrev FS := Env → Sto → SR
def GoodS (K : PySem.W.Frag) (T : Tb) (W : WX) (ρ : List Addr) (H : Hp) (E : Ends) : SR → Prop
  | .go .nx τ' M' => ∀ ρ' H' σ', Ext ρ H ρ' H' → Rel K T ρ' M' H' → DenE K H' ρ' τ' σ' → E.nx σ' H'
  | .go .bk τ' M' => ∀ ρ' H' σ', Ext ρ H ρ' H' → Rel K T ρ' M' H' → DenE K H' ρ' τ' σ' → E.bk σ' H'
  | .go .ct τ' M' => ∀ ρ' H' σ', Ext ρ H ρ' H' → Rel K T ρ' M' H' → DenE K H' ρ' τ' σ' → E.ct σ' H'
  | .go (.rt d) _ M' => ∀ ρ' H' v, Ext ρ H ρ' H' → Rel K T ρ' M' H' → Den K H' ρ' d v → E.rt v H'
  | .ex C fs τ' M' => ∀ ρ' H' σ' dd vs, Ext ρ H ρ' H' → Rel K T ρ' M' H' → DenE K H' ρ' τ' σ' → H' dd = some (.xd vs) → DenF K H' ρ' fs vs → W (.ref C) (some dd) σ' H'
  | .bad => False
theorem GoodS.mono {K : PySem.W.Frag} {T : Tb} {W : WX} {E : Ends} {ρ ρ' : List Addr} {H H' : Hp} (x : Ext ρ H ρ' H') : ∀ {r : SR}, GoodS K T W ρ H E r → GoodS K T W ρ' H' E r
  | .go .nx _ _, h => fun _ _ _ y => h _ _ _ (x.trans y)
  | .go .bk _ _, h => fun _ _ _ y => h _ _ _ (x.trans y)
  | .go .ct _ _, h => fun _ _ _ y => h _ _ _ (x.trans y)
  | .go (.rt _) _ _, h => fun _ _ _ y => h _ _ _ (x.trans y)
  | .ex _ _ _ _, h => fun _ _ _ _ _ y => h _ _ _ _ _ (x.trans y)
  | .bad, h => h
def tS (K : PySem.W.Frag) (T : Tb) (W : WX) (f : FS) : TS := fun E σ H => ∃ ρ M τ, Sg K T ρ M H τ σ [] ∧ GoodS K T W ρ H E (f τ M)
theorem sg0 {K : PySem.W.Frag} {T : Tb} {ρ : List Addr} {M : Sto} {H : Hp} {τ : Env} {σ : L2.St} (r : Rel K T ρ M H) (e : DenE K H ρ τ σ) : Sg K T ρ M H τ σ [] := ⟨r, e, fun _ z => nomatch z⟩

/-! ### an expression's value goes on -/
def liftR {α : Type} (τ : Env) (r : Res α) (k : α → FS) : SR := match r with
  | .ok a M => k a τ M
  | .exn C fs M => .ex C fs τ M
  | .bad => .bad
def liftE {α : Type} (f : Ev α) (k : α → FS) : FS := fun τ M => liftR τ (f τ M) k
/-- behind an evaluation -/
theorem good_of {α : Type} {K : PySem.W.Frag} {T : Tb} {W : WX} {ρ : List Addr} {M : Sto} {H : Hp} {τ : Env} {σ : L2.St} {E : Ends} {c : List (D × V)} {r : Res α} {k : α → FS} {R : α → List Addr → Hp → Prop}
    (s : Sg K T ρ M H τ σ c) (q : GoodS K T W ρ H E (liftR τ r k)) (h : ∀ a M1 ρ1 H1, Ext ρ H ρ1 H1 → Sg K T ρ1 M1 H1 τ σ c → GoodS K T W ρ1 H1 E (k a τ M1) → R a ρ1 H1) : Good K T W σ ρ H R r := by
  cases r with
  | ok a M1 =>
    intro ρ1 H1 x rl
    exact h a M1 ρ1 H1 x ⟨rl, s.env.mono x, fun p hp => Den.mono x _ (s.car p hp)⟩ (GoodS.mono x q)
  | exn C fs M1 =>
    intro ρ1 H1 dd vs x rl e d
    exact q ρ1 H1 σ dd vs x rl (s.env.mono x) e d
  | bad => exact q
section
variable {K : PySem.W.Frag} {T : Tb} {W : WX} {ρ : List Addr} {M : Sto} {H : Hp} {τ : Env} {σ : L2.St} {E : Ends} {c : List (D × V)}
theorem Sg.none {c : List (D × V)} (s : Sg K T ρ M H τ σ c) : Sg K T ρ M H τ σ [] := ⟨s.rel, s.env, fun _ z => nomatch z⟩
theorem Sg.add {d : D} {v : V} (s : Sg K T ρ M H τ σ c) (h : Den K H ρ d v) : Sg K T ρ M H τ σ ((d, v) :: c) := ⟨s.rel, s.env, fun p hp => by
  rcases List.mem_cons.mp hp with rfl | hp
  · exact h
  · exact s.car p hp⟩
theorem liftE_E {f : FE} {k : D → FS} {Q : VK} (s : Sg K T ρ M H τ σ c) (q : GoodS K T W ρ H E (liftE f k τ M)) (h : ∀ d v M1 ρ1 H1, Ext ρ H ρ1 H1 → Sg K T ρ1 M1 H1 τ σ ((d, v) :: c) → GoodS K T W ρ1 H1 E (k d τ M1) → Q v H1) : tE K T W f σ H Q :=
  ⟨ρ, M, τ, s.none, good_of s q fun a M1 ρ1 H1 x s1 q1 v hv => h a v M1 ρ1 H1 x (s1.add hv) q1⟩
theorem liftE_T {f : Ev Bool} {k : Bool → FS} {Q : Bool → Hp → Prop} (s : Sg K T ρ M H τ σ c) (q : GoodS K T W ρ H E (liftE f k τ M)) (h : ∀ d M1 ρ1 H1, Ext ρ H ρ1 H1 → Sg K T ρ1 M1 H1 τ σ c → GoodS K T W ρ1 H1 E (k d τ M1) → Q d H1) : tT K T W f σ H Q :=
  ⟨ρ, M, τ, s.none, good_of s q fun a M1 ρ1 H1 x s1 q1 => h a M1 ρ1 H1 x s1 q1⟩
end

/-! ### blocks, small statements -/
def sNil : FS := fun τ M => .go .nx τ M
def sSeq (f g : FS) : FS := fun τ M => match f τ M with
  | .go .nx τ' M' => g τ' M'
  | r => r
def sRet (f : FE) : FS := liftE f fun d τ M => .go (.rt d) τ M
def sRetN : FS := fun τ M => .go (.rt .non) τ M
def sExp (f : FE) : FS := liftE f fun _ τ M => .go .nx τ M
def sIf (c : Ev Bool) (f g : FS) : FS := liftE c fun b => if b = true then f else g
def sBrk : FS := fun τ M => .go .bk τ M
def sCnt : FS := fun τ M => .go .ct τ M
section
variable {X : Cx} {T : Tb} {W : WX} {pos : Pos} {st : Stmt} {rest : List Stmt} {e c : Expr} {f g : FS} {fe : FE} {fc : Ev Bool}
theorem ms_nil : PSs X [] (tS X.K T W sNil) := pss_nil.weak fun E σ H ⟨ρ, M, τ, s, q⟩ => q ρ H σ .me s.rel s.env
theorem ms_cons (h1 : PS X st (tS X.K T W f)) (h2 : PSs X rest (tS X.K T W g)) : PSs X (st :: rest) (tS X.K T W (sSeq f g)) :=
  (pss_cons h1 h2).weak fun E σ H ⟨ρ, M, τ, s, q⟩ => by
    refine ⟨ρ, M, τ, s, ?_⟩
    unfold sSeq at q
    cases h : f τ M with
    | go fl τ' M' =>
      rw [h] at q
      cases fl with
      | nx => exact fun ρ' H' σ' x r d => ⟨ρ', M', τ', sg0 r d, GoodS.mono x q⟩
      | bk => exact q
      | ct => exact q
      | rt d => exact q
    | ex C fs τ' M' => rw [h] at q; exact q
    | bad => rw [h] at q; exact q
theorem ms_one (h1 : PS X st (tS X.K T W f)) : PSs X [st] (tS X.K T W f) := pss_one h1
theorem ms_pass : PS X (.Pass pos) (tS X.K T W sNil) := ps_pass.weak fun E σ H ⟨ρ, M, τ, s, q⟩ => q ρ H σ .me s.rel s.env
theorem ms_brk : PS X (.Break pos) (tS X.K T W sBrk) := ps_break.weak fun E σ H ⟨ρ, M, τ, s, q⟩ => q ρ H σ .me s.rel s.env
theorem ms_cnt : PS X (.Continue pos) (tS X.K T W sCnt) := ps_continue.weak fun E σ H ⟨ρ, M, τ, s, q⟩ => q ρ H σ .me s.rel s.env
theorem ms_retN : PS X (.Return none pos) (tS X.K T W sRetN) := ps_retN.weak fun E σ H ⟨ρ, M, τ, s, q⟩ => q ρ H .non .me s.rel (den_non.mpr rfl)
theorem ms_ret (he : PE X e (tE X.K T W fe)) : PS X (.Return (some e) pos) (tS X.K T W (sRet fe)) :=
  (ps_ret he).weak fun E σ H ⟨ρ, M, τ, s, q⟩ => liftE_E s q fun d v M1 ρ1 H1 x s1 q1 => q1 ρ1 H1 v .me s1.rel (s1.car (d, v) (by simp))
theorem ms_exp (he : PE X e (tE X.K T W fe)) (hs : swapsWith e none pos.line X.env = pure false := by rfl) : PS X (.Expr e pos) (tS X.K T W (sExp fe)) :=
  (ps_expr he hs).weak fun E σ H ⟨ρ, M, τ, s, q⟩ => liftE_E s q fun d v M1 ρ1 H1 x s1 q1 => q1 ρ1 H1 σ .me s1.rel s1.env
theorem ms_if {a b : List Stmt} (hc : PT X c (tT X.K T W fc)) (ha : PSs X a (tS X.K T W f)) (hb : PSs X b (tS X.K T W g)) : PS X (.If c a b pos) (tS X.K T W (sIf fc f g)) :=
  (ps_if hc ha hb).weak fun E σ H ⟨ρ, M, τ, s, q⟩ => liftE_T s q fun d M1 ρ1 H1 x s1 q1 => by
    cases d with
    | true => exact ⟨ρ1, M1, τ, s1, q1⟩
    | false => exact ⟨ρ1, M1, τ, s1, q1⟩
end

/-! ### targets: names, tuples of names -/
inductive Tg where
  | nm (i : Nat)
  | tp (ts : List Tg)
mutual
def Tg.put : Tg → D → Env → Option Env
  | .nm i, d, τ => some (τ.set i (some d))
  | .tp ts, d, τ => match d with
    | .tup ds => if ds.length = ts.length then Tg.puts ts ds τ else none
    | _ => none
def Tg.puts : List Tg → List D → Env → Option Env
  | [], [], τ => some τ
  | t :: ts, d :: ds, τ => match Tg.put t d τ with
    | some τ' => Tg.puts ts ds τ'
    | none => none
  | _, _, _ => none
end
mutual
def Tg.inn (vs : List Nat) : Tg → Bool
  | .nm i => vs.contains i
  | .tp ts => Tg.inns vs ts
def Tg.inns (vs : List Nat) : List Tg → Bool
  | [] => true
  | t :: ts => Tg.inn vs t && Tg.inns vs ts
end
theorem wipe_set_out {σ : L2.St} {i : Nat} {x : Option V} : ∀ {vs : List Nat}, i ∉ vs → wipe (σ.set i x) vs = (wipe σ vs).set i x
  | [], _ => rfl
  | v :: vs, h => by
    simp only [List.mem_cons, not_or] at h
    simp only [wipe]
    rw [wipe_set_out h.2, List.set_comm _ _ h.1]
theorem wipe_set {σ : L2.St} {i : Nat} {x : Option V} : ∀ {vs : List Nat}, i ∈ vs → wipe (σ.set i x) vs = wipe σ vs
  | v :: vs, h => by
    simp only [wipe]
    by_cases hi : i ∈ vs
    · rw [wipe_set hi]
    · have e : i = v := by
        rcases List.mem_cons.mp h with e | e
        · exact e
        · exact absurd e hi
      subst e
      rw [wipe_set_out hi, List.set_set]
/-- a target's reading: the slots behind it -/
def tG (K : PySem.W.Frag) (t : Tg) : TG := fun v σ H Q => ∃ ρ d τ τ', DenE K H ρ τ σ ∧ Den K H ρ d v ∧ t.put d τ = some τ' ∧ ∀ σ', DenE K H ρ τ' σ' → (∀ vs, t.inn vs = true → wipe σ' vs = wipe σ vs) → Q σ' H
def tGs (K : PySem.W.Frag) (ts : List Tg) : TGs := fun vs σ H Q => ∃ ρ ds τ τ', DenE K H ρ τ σ ∧ DenL K H ρ ds vs ∧ Tg.puts ts ds τ = some τ' ∧ ∀ σ', DenE K H ρ τ' σ' → (∀ vs, Tg.inns vs ts = true → wipe σ' vs = wipe σ vs) → Q σ' H
section
variable {X : Cx} {pos : Pos} {e : Expr} {es : List Expr} {t : Tg} {ts : List Tg}
theorem _root_.L2.PG.weak {t t' : TG} (h : PG X e t) (i : ∀ v σ H Q, t' v σ H Q → t v σ H Q) : PG X e t' := ⟨fun p s σ H v u Q I r q => h.run p s σ H v u Q I r (i v σ H Q q)⟩
theorem _root_.L2.PGs.weak {t t' : TGs} (h : PGs X es t) (i : ∀ v σ H Q, t' v σ H Q → t v σ H Q) : PGs X es t' := ⟨fun p s σ H v u Q I r q => h.run p s σ H v u Q I r (i v σ H Q q)⟩
theorem mg_name (i : Nat) {x : Str} (hN : X.N.Nodup) (hi : X.N[i]? = some x := by rfl) (hx : Loc X.env.scope x := by first | exact Or.inl rfl | exact Or.inr rfl) (hf : X.fn x = true ∨ X.env.scope.names.lookup x = some .local := by first | exact .inl rfl | exact .inr rfl | assumption) : PG X (.Name x pos) (tG X.K (.nm i)) :=
  (pg_name hN hi hx hf).weak fun v σ H Q ⟨ρ, d, τ, τ', h1, h2, h3, h4⟩ => by
    simp only [Tg.put, Option.some.injEq] at h3
    subst h3
    exact h4 _ (h1.set h2) fun vs hv => wipe_set (by simpa [Tg.inn] using hv)
theorem mgs_nil : PGs X [] (tGs X.K []) := pgs_nil.weak fun v σ H Q ⟨ρ, d, τ, τ', h1, h2, h3, h4⟩ => by
  cases d with
  | nil =>
    simp only [Tg.puts, Option.some.injEq] at h3
    subst h3
    exact ⟨DenL.nil_iff.mp h2, h4 _ h1 fun _ _ => rfl⟩
  | cons a b => simp [Tg.puts] at h3
theorem mgs_cons (h1 : PG X e (tG X.K t)) (h2 : PGs X es (tGs X.K ts)) (hs : (assignEach (e :: es) X.env).map (·.2) = assign e X.env :: (assignEach es X.env).map (·.2) := by rfl) : PGs X (e :: es) (tGs X.K (t :: ts)) :=
  (pgs_cons h1 h2 hs).weak fun v σ H Q ⟨ρ, d, τ, τ', h1, h2, h3, h4⟩ => by
    cases d with
    | nil => simp [Tg.puts] at h3
    | cons a b =>
      simp only [Tg.puts] at h3
      split at h3
      · next τ1 e1 =>
        obtain ⟨w, r, rfl, g1, g2⟩ := DenL.cons_iff.mp h2
        exact ⟨w, r, rfl, ρ, a, τ, τ1, h1, g1, e1, fun σ' k k2 => ⟨ρ, b, τ1, τ', k, g2, h3, fun σ2 l l2 => h4 σ2 l fun vs hv => by
          simp only [Tg.inns, Bool.and_eq_true] at hv
          rw [l2 vs hv.2, k2 vs hv.1]⟩⟩
      · cases h3
theorem mg_tup {k : Nat} {n : Nat} (hc : X.calm = true) (h : PGs X es (tGs X.K ts)) (hl : ts.length = n := by rfl) (hn : (assignEach es X.env).length = n := by rfl) (hst : (assignEach es X.env).findIdx? (·.1) = none := by rfl) : PG X (.Tuple es k pos) (tG X.K (.tp ts)) :=
  (pg_tup hc h hn hst).weak fun v σ H Q ⟨ρ, d, τ, τ', h1, h2, h3, h4⟩ => by
    simp only [Tg.put] at h3
    split at h3
    · next ds =>
      split at h3
      · next hlen =>
        obtain ⟨a, vs, rfl, g1, g2⟩ := den_tup.mp h2
        exact ⟨a, vs, rfl, g1, by rw [← g2.length, hlen, hl], ρ, ds, τ, τ', h1, g2, h3, fun σ' k k2 => h4 σ' k fun vs hv => k2 vs (by simpa [Tg.inn] using hv)⟩
      · cases h3
    · cases h3
end
mutual
theorem Tg.put_len : ∀ (t : Tg) {d : D} {τ τ' : Env}, t.put d τ = some τ' → τ'.length = τ.length
  | .nm i, d, τ, τ', h => by simp only [Tg.put, Option.some.injEq] at h; subst h; simp
  | .tp ts, d, τ, τ', h => by
    simp only [Tg.put] at h
    split at h
    · split at h
      · exact Tg.puts_len ts h
      · cases h
    · cases h
theorem Tg.puts_len : ∀ (ts : List Tg) {ds : List D} {τ τ' : Env}, Tg.puts ts ds τ = some τ' → τ'.length = τ.length
  | [], [], τ, τ', h => by simp only [Tg.puts, Option.some.injEq] at h; subst h; rfl
  | [], _ :: _, _, _, h => by simp [Tg.puts] at h
  | _ :: _, [], _, _, h => by simp [Tg.puts] at h
  | t :: ts, d :: ds, τ, τ', h => by
    simp only [Tg.puts] at h
    split at h
    · next τ1 e1 => rw [Tg.puts_len ts h, Tg.put_len t e1]
    · cases h
end
def sPut (t : Tg) (d : D) : FS := fun τ M => match t.put d τ with
  | some τ' => .go .nx τ' M
  | none => .bad
def sSet (t : Tg) (f : FE) : FS := liftE f (sPut t)
/-- o[i] = v of a list -/
def dSet (o i d : D) (M : Sto) : Res Unit := match o, i with
  | .adr n, .int k => match M[n]? with
    | some (.lst xs) => match ixN xs.length k with
      | some j => .ok () (M.set n (.lst (xs.set j d)))
      | none => .bad
    | _ => .bad
  | _, _ => .bad
def sSub (fo fi f : FE) : FS := liftE f fun d => liftE fo fun o => liftE fi fun i τ M => liftR τ (dSet o i d M) fun _ τ M => .go .nx τ M
/-- x op= e -/
def sAug (i : Nat) (op : D → D → Sto → Res D) (f : FE) : FS := fun τ M => match τ[i]? with
  | some (some x) => liftE f (fun y τ M => liftR τ (op x y M) fun z τ M => .go .nx (τ.set i (some z)) M) τ M
  | _ => .bad
section
variable {X : Cx} {T : Tb} {W : WX} {pos pos' : Pos} {e o i tg : Expr} {f fo fi : FE} {t : Tg}
theorem sPut_ok {K : PySem.W.Frag} {ρ : List Addr} {M : Sto} {H : Hp} {τ : Env} {σ : L2.St} {E : Ends} {d : D} {v : V} (s : Sg K T ρ M H τ σ [(d, v)]) (q : GoodS K T W ρ H E (sPut t d τ M)) : tG K t v σ H E.nx := by
  unfold sPut at q
  split at q
  · next τ' e => exact ⟨ρ, d, τ, τ', s.env, s.car (d, v) (by simp), e, fun σ' k _ => q ρ H σ' .me s.rel k⟩
  · exact q.elim
theorem ms_set {x : Str} (j : Nat) (hN : X.N.Nodup) (he : PE X e (tE X.K T W f)) (hi : X.N[j]? = some x := by rfl) (hx : Loc X.env.scope x := by first | exact Or.inl rfl | exact Or.inr rfl) (hs : swapsWith e (some (.Name x pos')) pos.line X.env = pure false := by rfl) (hf : X.fn x = true ∨ X.env.scope.names.lookup x = some .local := by first | exact .inl rfl | exact .inr rfl | assumption) :
    PS X (.Assign [.Name x pos'] e pos) (tS X.K T W (sSet (.nm j) f)) :=
  (ps_set hN hi hx he hs hf).weak fun E σ H ⟨ρ, M, τ, s, q⟩ => liftE_E s q fun d v M1 ρ1 H1 x s1 q1 => by
    have q2 : GoodS X.K T W ρ1 H1 E (.go .nx (τ.set j (some d)) M1) := q1
    exact q2 ρ1 H1 _ .me s1.rel (s1.env.set (s1.car (d, v) (by simp)))
theorem ms_asg (he : PE X e (tE X.K T W f)) (hg : PG X tg (tG X.K t)) (hs : swapsWithSole [tg] e pos.line X.env = pure false := by rfl) (hw : swappedStores [tg] e X.env = pure none := by rfl)
    (h1 : (assignEach [tg] X.env).map (·.2) = [assign tg X.env] := by rfl) : PS X (.Assign [tg] e pos) (tS X.K T W (sSet t f)) :=
  (ps_asg he hg hs hw h1).weak fun E σ H ⟨ρ, M, τ, s, q⟩ => liftE_E s q fun d v M1 ρ1 H1 x s1 q1 => sPut_ok s1 q1
theorem set_s {K : PySem.W.Frag} {ρ : List Addr} {M : Sto} {H : Hp} {o i d : D} {vo vi v : V} {Q : Hp → Prop} {σ : L2.St} (R : Rel K T ρ M H) (ho : Den K H ρ o vo) (hi : Den K H ρ i vi) (hd : Den K H ρ d v)
    (q : Good K T W σ ρ H (fun _ _ H' => Q H') (dSet o i d M)) : rSetL vo vi v H Q := by
  unfold dSet at q
  split at q
  · next n k =>
    split at q
    · next xs hM =>
      split at q
      · next j hj =>
        obtain ⟨a, vs, rfl, e1, h1, h2⟩ := R.lst hM ho
        rw [den_int] at hi
        refine ⟨a, vs, k, j, rfl, hi, h1, by rw [← h2.length]; exact hj, ?_⟩
        obtain ⟨r, x⟩ := R.write (o' := .lst (xs.set j d)) (u := .lst (vs.set j v)) hM e1 (fun w ys z => by rw [h1] at z; cases z)
          (fun Y => ⟨vs.set j v, upd_same, DenL.set (Den.mono Y _ hd) j (DenL.mono Y _ h2)⟩)
          (D.lowL_iff.mpr fun d' hd' => by
            rcases List.mem_or_eq_of_mem_set hd' with hd' | hd'
            · exact D.lowL_iff.mp (R.cl _ (List.mem_of_getElem? hM)) d' hd'
            · subst hd'
              rw [← R.len]; exact Den.low _ hd)
        exact q ρ _ x r
      · exact q.elim
    · exact q.elim
  · exact q.elim
theorem ms_sub {p : Pos} (ho : PE X o (tE X.K T W fo)) (hi : PE X i (tE X.K T W fi)) (he : PE X e (tE X.K T W f))
    (ha : ∀ v, assign (.Subscript o i p) X.env v = (do
      let ov ← holding [v] (eval o X.env)
      let iv ← holding [v, ov] (eval i X.env)
      standAt p
      holding [v, ov, iv] (setItem ov iv v)
      release [v, ov, iv] []) := by intro _; rfl)
    (hs : swapsWithSole [.Subscript o i p] e pos.line X.env = pure false := by rfl) (hw : swappedStores [.Subscript o i p] e X.env = pure none := by rfl)
    (h1 : (assignEach [.Subscript o i p] X.env).map (·.2) = [assign (.Subscript o i p) X.env] := by rfl) : PS X (.Assign [.Subscript o i p] e pos) (tS X.K T W (sSub fo fi f)) :=
  (ps_asg he (pg_sub ho hi set_list ha) hs hw h1).weak fun E σ H ⟨ρ, M, τ, s, q⟩ => liftE_E s q fun d v M1 ρ1 H1 x s1 q1 =>
    liftE_E s1 q1 fun d2 v2 M2 ρ2 H2 x2 s2 q2 => liftE_E s2 q2 fun d3 v3 M3 ρ3 H3 x3 s3 q3 => by
      refine set_s (W := W) (σ := σ) s3.rel (s3.car (d2, v2) (by simp)) (s3.car (d3, v3) (by simp)) (s3.car (d, v) (by simp)) (good_of s3 q3 fun a M4 ρ4 H4 x4 s4 q4 => ?_)
      exact q4 ρ4 H4 σ .me s4.rel s4.env
/-- the in-place operators that we know -/
def IpS (K : PySem.W.Frag) (T : Tb) (r : TIp) (f : D → D → Sto → Res D) : Prop := OpS K T r f
theorem ms_aug {x : Str} (j : Nat) {op : Operator} {ti : TIp} {fop : D → D → Sto → Res D} (hN : X.N.Nodup) (he : PE X e (tE X.K T W f)) (ho : PIp X op ti) (hop : IpS X.K T ti fop) (hi : X.N[j]? = some x := by rfl) (hx : Loc X.env.scope x := by first | exact Or.inl rfl | exact Or.inr rfl)
    (hf : X.fn x = true ∨ X.env.scope.names.lookup x = some .local := by first | exact .inl rfl | exact .inr rfl | assumption) : PS X (.AugAssign (.Name x pos') op e pos) (tS X.K T W (sAug j fop f)) :=
  (ps_aug hN hi hx he ho hf).weak fun E σ H ⟨ρ, M, τ, s, q⟩ => by
    unfold sAug at q
    split at q
    · next dx e1 =>
      obtain ⟨v0, e2, h0⟩ := s.env.2 j dx e1
      refine ⟨v0, e2, liftE_E (s.add h0) q fun d v M1 ρ1 H1 x s1 q1 => ?_⟩
      refine hop ρ1 M1 H1 v0 v dx d _ W σ s1.rel (s1.car (dx, v0) (by simp)) (s1.car (d, v) (by simp)) (good_of s1 q1 fun z M2 ρ2 H2 x2 s2 q2 w hw => ?_)
      exact q2 ρ2 H2 _ .me s2.rel (s2.env.set hw)
    · exact q.elim
end
end Mp

set_option Elab.async false
set_option linter.all false
set_option maxRecDepth 100000
set_option maxHeartbeats 2000000
/-! Mp7: loops -/
namespace Mp
open PySem PySem.Spec PyProof.Rows L2

/-- what a loop walks: how many turns, the item at a turn, whether it ends there -/
structure Wk where
  n : Nat
  it : Nat → Sto → Option D
  fin : Sto → Bool
def wTup (ds : List D) : Wk := ⟨ds.length, fun i _ => ds[i]?, fun _ => true⟩
def wRng (lo : Int) (n : Nat) : Wk := ⟨n, fun i _ => some (.int (lo + i)), fun _ => true⟩
def wLst (a : Nat) (n : Nat) : Wk := ⟨n, fun i M => (lstOf (.adr a) M).bind (·[i]?), fun M => match lstOf (.adr a) M with
  | some xs => decide (xs.length ≤ n)
  | none => false⟩
def WkS (K : PySem.W.Frag) (T : Tb) (ρ0 : List Addr) (H0 : Hp) (J : It) (w : Wk) : Prop := ∀ ρ H M i, Ext ρ0 H0 ρ H → Rel K T ρ M H →
  (∀ d, w.it i M = some d → i < w.n → J.go i H ∧ ∀ x H', J.yld i H x H' → ∃ ρ', Ext ρ H ρ' H' ∧ Rel K T ρ' M H' ∧ Den K H' ρ' d x) ∧ (w.fin M = true → J.stop w.n H)
def tI (K : PySem.W.Frag) (T : Tb) (W : WX) (f : Ev Wk) : TI := fun σ H R => At K T W [] σ H (fun w ρ' H' => ∀ J, WkS K T ρ' H' J w → R J H') f
theorem _root_.L2.PI.weak {X : Cx} {tg iter : Expr} {t t' : TI} (h : PI X tg iter t) (i : ∀ σ H Q, t' σ H Q → t σ H Q) : PI X tg iter t' := ⟨fun p s σ H Q I q => h.run p s σ H Q I (i σ H Q q)⟩
/-- over a value: a tuple, a list -/
def iVal (f : FE) : Ev Wk := fun τ M => (f τ M).bind fun d M1 => match d with
  | .tup ds => .ok (wTup ds) M1
  | .adr a => match lstOf (.adr a) M1 with
    | some xs => .ok (wLst a xs.length) M1
    | none => .bad
  | _ => .bad
def iR1 (f : FE) : Ev Wk := fun τ M => (f τ M).bind fun d M1 => match d with
  | .int j => if -(2 ^ 62) ≤ j ∧ j < 2 ^ 62 then .ok (wRng 0 j.toNat) M1 else .bad
  | _ => .bad
def rng2 (d e : D) (M : Sto) : Res Wk := match d, e with
  | .int i, .int j => if -(2 ^ 62) ≤ i ∧ i < 2 ^ 62 ∧ -(2 ^ 62) ≤ j ∧ j < 2 ^ 62 then .ok (wRng i (j - i).toNat) M else .bad
  | _, _ => .bad
def iR2 (f g : FE) : Ev Wk := fun τ M => (f τ M).bind fun d M1 => (g τ M1).bind fun e M2 => rng2 d e M2
section
variable {K : PySem.W.Frag} {T : Tb} {ρ : List Addr} {M : Sto} {H : Hp} {W : WX}
theorem wk_tup {a : Addr} {ds : List D} {vs : List V} (h : SqT K H a vs) (l : DenL K H ρ ds vs) : WkS K T ρ H (Itt K a) (wTup ds) := by
  intro ρ1 H1 M1 i x R
  have h1 := x.sqT h
  have l1 := DenL.mono x _ l
  refine ⟨fun d e hi => ?_, fun _ => ⟨vs, h1, by rw [← l1.length]; exact Nat.le_refl _⟩⟩
  obtain ⟨v, e1, hv⟩ := l1.get e
  refine ⟨⟨vs, v, h1, e1⟩, fun y H' ⟨e2, q⟩ => ?_⟩
  subst e2
  have := q vs h1
  rw [e1] at this; cases this
  exact ⟨ρ1, .me, R, hv⟩
theorem wk_rng {lo : Int} {n : Nat} : WkS K T ρ H (Itr lo n) (wRng lo n) := by
  intro ρ1 H1 M1 i x R
  refine ⟨fun d e hi => ⟨hi, fun y H' ⟨e2, e3⟩ => ?_⟩, fun _ => Nat.le_refl _⟩
  subst e2 e3
  simp only [wRng, Option.some.injEq] at e
  subst e
  exact ⟨ρ1, .me, R, den_int.mpr rfl⟩
theorem Rel.lstOf' {n : Nat} {ds : List D} (R : Rel K T ρ M H) (e : Mp.lstOf (.adr n) M = some ds) {a : Addr} (ha : ρ[n]? = some a) : ∃ vs, SqL K H a vs ∧ DenL K H ρ ds vs := by
  obtain ⟨b, vs, h1, h2, h3⟩ := R.lstOf (d := .adr n) e (den_adr.mpr ⟨a, ha, rfl⟩)
  cases h1
  exact ⟨vs, h2, h3⟩
theorem wk_lst {n m : Nat} {a : Addr} (ha : ρ[n]? = some a) : WkS K T ρ H (Itl K a) (wLst n m) := by
  intro ρ1 H1 M1 i x R
  have ha1 := pre_get x.pre ha
  refine ⟨fun d e hi => ?_, fun e => ?_⟩
  · simp only [wLst, Option.bind_eq_some_iff] at e
    obtain ⟨ds, e1, e2⟩ := e
    obtain ⟨vs, h1, l1⟩ := R.lstOf' e1 ha1
    obtain ⟨v, e3, hv⟩ := l1.get e2
    refine ⟨⟨vs, v, h1, e3⟩, fun y H' ⟨e4, q⟩ => ?_⟩
    subst e4
    have := q vs h1
    rw [e3] at this; cases this
    exact ⟨ρ1, .me, R, hv⟩
  · simp only [wLst] at e
    split at e
    · next ds e1 =>
      obtain ⟨vs, h1, l1⟩ := R.lstOf' e1 ha1
      exact ⟨vs, h1, by rw [← l1.length]; exact of_decide_eq_true e⟩
    · cases e
end
section
variable {X : Cx} {tg : Expr} {T : Tb} {W : WX}
def iSeq (K : PySem.W.Frag) (tl : TE) : TI := fun σ H R => tl σ H fun x H1 => ∃ a, x = .ref a ∧ (((∃ xs, SqL K H1 a xs) ∧ R (Itl K a) H1) ∨ ((∃ xs, SqT K H1 a xs) ∧ R (Itt K a) H1))
theorem pi_seq {l : Expr} {tl : TE} (hl : PE X l tl) : PI X tg l (iSeq X.K tl) := by
  refine ⟨fun pins s σ H R I h => ?_⟩
  refine thn (hl.run pins s σ H _ I h) fun v s1 ⟨x, H1, I1, r1, q1⟩ => ?_
  obtain ⟨a, e, q1⟩ := q1
  subst e
  cases r1
  rcases q1 with ⟨⟨xs, hq⟩, q⟩ | ⟨⟨xs, hq⟩, q⟩
  · obtain ⟨its, rv, p, hz⟩ := I1.list hq
    refine wpAny_pyIter_list p.isList ?_
    refine ⟨s1.heap.objs.size, [s1.heap.objs.size], _, _, H1, rfl, I1.kept (t' := s1.toks) fun b o e => Heap.get?_push_of_some _ e, turn_list a _, ⟨_, Heap.get?_push_size _ rfl, rfl, rfl⟩, fun b hb => ?_, q⟩
    have e : b = s1.heap.objs.size := by simpa using hb
    subst e
    exact I1.fpOk (Nat.le_refl _) (I1.hok.fresh (Nat.le_refl _))
  · obtain ⟨its, rv, p, hz⟩ := I1.tuple hq
    refine wpAny_pyIter_tuple (show s1.heap.IsTuple a its.toArray from p) ?_
    refine ⟨s1.heap.objs.size, [s1.heap.objs.size], _, _, H1, rfl, I1.kept (t' := s1.toks) fun b o e => Heap.get?_push_of_some _ e, turn_tuple a _, ⟨_, Heap.get?_push_size _ rfl, rfl, rfl⟩, fun b hb => ?_, q⟩
    have e : b = s1.heap.objs.size := by simpa using hb
    subst e
    exact I1.fpOk (Nat.le_refl _) (I1.hok.fresh (Nat.le_refl _))
variable {e : Expr} {es : List Expr} {f : FE} {g : Ev (List D)} {p pos : Pos}
theorem mi_val (he : PE X e (tE X.K T W f)) : PI X tg e (tI X.K T W (iVal f)) :=
  (pi_seq he).weak fun σ H R h => (At.bindE (g := fun (d : D) (_ : Env) (M1 : Sto) => (match d with
  | .tup ds => Res.ok (wTup ds) M1
  | .adr a => match lstOf (.adr a) M1 with
    | some xs => Res.ok (wLst a xs.length) M1
    | none => Res.bad
  | _ => Res.bad : Res Wk)) h).imp fun v H1 ⟨d, ρ, M, τ, s, q⟩ => by
    have hd := s.car (d, v) (by simp)
    cases d with
    | tup ds =>
      obtain ⟨a, vs, rfl, h1, l⟩ := den_tup.mp hd
      exact ⟨a, rfl, .inr ⟨⟨vs, h1⟩, q ρ H1 .me s.rel _ (wk_tup h1 l)⟩⟩
    | adr n =>
      dsimp only at q
      cases e0 : lstOf (.adr n) M with
      | none => rw [e0] at q; exact q.elim
      | some xs =>
        rw [e0] at q
        obtain ⟨a, ha, rfl⟩ := den_adr.mp hd
        obtain ⟨vs, h1, l⟩ := s.rel.lstOf' e0 ha
        exact ⟨a, rfl, .inl ⟨⟨vs, h1⟩, q ρ H1 .me s.rel _ (wk_lst ha)⟩⟩
    | _ => exact q.elim
theorem mi_rng1 (hg : Gl X "range") (hm : X.mg "range" = none) (he : PE X e (tE X.K T W f)) (hs : starEach [e] X.env = [(false, eval e X.env)] := by rfl) : PI X tg (.Call (.Name "range" p) [e] [] pos) (tI X.K T W (iR1 f)) :=
  (pi_range1 hg hm (pa_cons he pa_nil hs) hs).weak fun σ H R h => (At.bindE (g := fun (d : D) (_ : Env) (M1 : Sto) => (match d with
  | .int j => if -(2 ^ 62) ≤ j ∧ j < 2 ^ 62 then Res.ok (wRng 0 j.toNat) M1 else Res.bad
  | _ => Res.bad : Res Wk)) h).imp fun v H1 ⟨d, ρ, M, τ, s, q⟩ => by
    have hd := s.car (d, v) (by simp)
    cases d with
    | int j =>
      rw [den_int] at hd
      subst hd
      dsimp only at q
      by_cases c : -(2 ^ 62) ≤ j ∧ j < 2 ^ 62
      · rw [if_pos c] at q
        exact ⟨j, rfl, c.1, c.2, q ρ H1 .me s.rel _ wk_rng⟩
      · rw [if_neg c] at q; exact q.elim
    | _ => exact q.elim
theorem mi_rng2 {e2 : Expr} {f2 : FE} (hg : Gl X "range") (hm : X.mg "range" = none) (he : PE X e (tE X.K T W f)) (he2 : PE X e2 (tE X.K T W f2)) (hs : starEach [e, e2] X.env = [(false, eval e X.env), (false, eval e2 X.env)] := by rfl) (hs2 : starEach [e2] X.env = [(false, eval e2 X.env)] := by rfl) :
    PI X tg (.Call (.Name "range" p) [e, e2] [] pos) (tI X.K T W (iR2 f f2)) :=
  (pi_range2 hg hm (pa_cons he (pa_cons he2 pa_nil hs2) (by rw [hs, hs2])) hs hs2).weak fun σ H R h =>
    (At.bindE (g := fun d τ M1 => (f2 τ M1).bind fun e M2 => rng2 d e M2) h).imp fun v H1 ⟨d, h1⟩ =>
    (At.bindE (g := fun e τ M2 => rng2 d e M2) h1).imp fun v2 H2 ⟨d2, ρ, M, τ, s, q⟩ => by
    have hd := s.car (d, v) (by simp)
    have hd2 := s.car (d2, v2) (by simp)
    cases d with
    | int i =>
      cases d2 with
      | int j =>
        rw [den_int] at hd hd2
        subst hd hd2
        dsimp only [rng2] at q
        by_cases c : -(2 ^ 62) ≤ i ∧ i < 2 ^ 62 ∧ -(2 ^ 62) ≤ j ∧ j < 2 ^ 62
        · rw [if_pos c] at q
          exact ⟨i, j, rfl, c, q ρ H2 .me s.rel _ wk_rng⟩
        · rw [if_neg c] at q; exact q.elim
      | _ => exact q.elim
    | _ => exact q.elim
end

/-! ### for, while -/
def loopG (w : Wk) (t : Tg) (body : FS) : Nat → Nat → FS
  | 0, _, τ, M => if w.fin M = true then .go .nx τ M else .bad
  | k + 1, i, τ, M => match w.it i M with
    | some d => match t.put d τ with
      | some τ1 => match body τ1 M with
        | .go .nx τ' M' => loopG w t body k (i + 1) τ' M'
        | .go .ct τ' M' => loopG w t body k (i + 1) τ' M'
        | .go .bk τ' M' => .go .nx τ' M'
        | r => r
      | none => .bad
    | none => .bad
def sFor (wi : Ev Wk) (t : Tg) (body : FS) : FS := liftE wi fun w => loopG w t body w.n 0
def loopW (c : Ev Bool) (body : FS) : Nat → FS
  | 0, _, _ => .bad
  | k + 1, τ, M => liftR τ (c τ M) fun b τ M => if b = true then match body τ M with
        | .go .nx τ' M' => loopW c body k τ' M'
        | .go .ct τ' M' => loopW c body k τ' M'
        | .go .bk τ' M' => .go .nx τ' M'
        | r => r
      else .go .nx τ M
def sWhile (n : Nat) (c : Ev Bool) (body : FS) : FS := loopW c body n
section
variable {X : Cx} {T : Tb} {W : WX} {pos : Pos} {iter tg c : Expr} {body : List Stmt} {wi : Ev Wk} {t : Tg} {fb : FS} {fc : Ev Bool}
theorem ms_for (hp : PassesOwn (model X.prog X.w) X.A X.env X.xe) (hc : X.calm = true) (hi : PI X tg iter (tI X.K T W wi)) (hg : PG X tg (tG X.K t)) (hb : PSs X body (tS X.K T W fb))
    (hs : ∀ x, foldedSetIterable iter X.env x = pure x := by intro _; rfl) : PS X (.For tg iter body [] pos) (tS X.K T W (sFor wi t fb)) :=
  (ps_for hp hc hi hg hb hs).weak fun E σ H ⟨ρ, M, τ, s, q⟩ => by
    refine ⟨ρ, M, τ, s, good_of s q fun w M1 ρ1 H1 x s1 q1 J hJ => ?_⟩
    refine ⟨fun i m σ2 H2 => i + m = w.n ∧ ∃ ρ2 M2 τ2, Ext ρ1 H1 ρ2 H2 ∧ Sg X.K T ρ2 M2 H2 τ2 σ2 [] ∧ GoodS X.K T W ρ2 H2 E (loopG w t fb m i τ2 M2), ⟨w.n, by omega, ρ1, M1, τ, .me, s1, q1⟩, ?_⟩
    rintro i m σ2 H2 ⟨hn, ρ2, M2, τ2, x2, s2, q2⟩
    obtain ⟨g1, g2⟩ := hJ ρ2 H2 M2 i x2 s2.rel
    cases m with
    | zero =>
      unfold loopG at q2
      by_cases hf : w.fin M2 = true
      · rw [if_pos hf] at q2
        have hi : i = w.n := by omega
        subst hi
        exact .inl ⟨g2 hf, q2 ρ2 H2 σ2 .me s2.rel s2.env⟩
      · rw [if_neg hf] at q2; exact q2.elim
    | succ k =>
      unfold loopG at q2
      cases hd : w.it i M2 with
      | none => rw [hd] at q2; exact q2.elim
      | some d =>
        rw [hd] at q2
        dsimp only at q2
        obtain ⟨go, yl⟩ := g1 d hd (by omega)
        refine .inr ⟨go, fun σ' H' => (i + 1) + k = w.n ∧ ∃ ρ2 M2 τ2, Ext ρ1 H1 ρ2 H' ∧ Sg X.K T ρ2 M2 H' τ2 σ' [] ∧ GoodS X.K T W ρ2 H' E (loopG w t fb k (i + 1) τ2 M2), fun σ' H' h => ⟨k, Nat.lt_succ_self k, h⟩, fun v H' hy => ?_⟩
        obtain ⟨ρ3, x3, r3, hv⟩ := yl v H' hy
        cases ht : t.put d τ2 with
        | none => rw [ht] at q2; exact q2.elim
        | some τ3 =>
          rw [ht] at q2
          dsimp only at q2
          refine ⟨ρ3, d, τ2, τ3, s2.env.mono x3, hv, ht, fun σ3 e3 _ => ⟨ρ3, M2, τ3, sg0 r3 e3, ?_⟩⟩
          have q3 := GoodS.mono x3 q2
          cases hbd : fb τ3 M2 with
          | go fl τ' M' =>
            rw [hbd] at q3
            cases fl with
            | nx => exact fun ρ' H4 σ' x4 r4 d4 => ⟨by omega, ρ', M', τ', (x2.trans x3).trans x4, sg0 r4 d4, GoodS.mono x4 q3⟩
            | ct => exact fun ρ' H4 σ' x4 r4 d4 => ⟨by omega, ρ', M', τ', (x2.trans x3).trans x4, sg0 r4 d4, GoodS.mono x4 q3⟩
            | bk => exact q3
            | rt d => exact q3
          | ex C fs τ' M' => rw [hbd] at q3; exact q3
          | bad => rw [hbd] at q3; exact q3
theorem ms_while (n : Nat) (hp : PassesOwn (model X.prog X.w) X.A X.env X.xe) (hc : PT X c (tT X.K T W fc)) (hb : PSs X body (tS X.K T W fb)) : PS X (.While c body [] pos) (tS X.K T W (sWhile n fc fb)) :=
  (ps_while hp hc hb).weak fun E σ H ⟨ρ, M, τ, s, q⟩ => by
    refine ⟨fun m σ2 H2 => ∃ ρ2 M2 τ2, Sg X.K T ρ2 M2 H2 τ2 σ2 [] ∧ GoodS X.K T W ρ2 H2 E (loopW fc fb m τ2 M2), ⟨n, ρ, M, τ, s, q⟩, ?_⟩
    rintro m σ2 H2 ⟨ρ2, M2, τ2, s2, q2⟩
    cases m with
    | zero => exact q2.elim
    | succ k =>
      refine ⟨ρ2, M2, τ2, s2, good_of s2 q2 fun b M3 ρ3 H3 x3 s3 q3 => ?_⟩
      cases b with
      | false =>
        simp only [RB, Bool.false_eq_true, if_false] at q3 ⊢
        exact q3 ρ3 H3 σ2 .me s3.rel s3.env
      | true =>
        simp only [RB, if_true] at q3 ⊢
        refine ⟨fun σ' H' => ∃ ρ2 M2 τ2, Sg X.K T ρ2 M2 H' τ2 σ' [] ∧ GoodS X.K T W ρ2 H' E (loopW fc fb k τ2 M2), fun σ' H' h => ⟨k, Nat.lt_succ_self k, h⟩, ρ3, M3, τ2, s3, ?_⟩
        cases hbd : fb τ2 M3 with
        | go fl τ' M' =>
          rw [hbd] at q3
          cases fl with
          | nx => exact fun ρ' H4 σ' x4 r4 d4 => ⟨ρ', M', τ', sg0 r4 d4, GoodS.mono x4 q3⟩
          | ct => exact fun ρ' H4 σ' x4 r4 d4 => ⟨ρ', M', τ', sg0 r4 d4, GoodS.mono x4 q3⟩
          | bk => exact q3
          | rt d => exact q3
        | ex C fs τ' M' => rw [hbd] at q3; exact q3
        | bad => rw [hbd] at q3; exact q3
end
end Mp

set_option Elab.async false
set_option linter.all false
set_option maxRecDepth 100000
set_option maxHeartbeats 2000000
/-! Mp8: list comprehensions -/
namespace Mp
open PySem PySem.Spec PyProof.Rows L2
/-- no exception may leave -/
abbrev W0 : WX := fun _ _ _ _ => False
def wipeE (τ : Env) : List Nat → Env
  | [] => τ
  | v :: vs => (wipeE τ vs).set v none
theorem DenE.wipe {K : PySem.W.Frag} {H : Hp} {ρ : List Addr} {τ : Env} {σ : L2.St} (h : DenE K H ρ τ σ) : ∀ vs : List Nat, DenE K H ρ (wipeE τ vs) (L2.wipe σ vs)
  | [] => h
  | v :: vs => (DenE.wipe h vs).del
theorem wipe_done {σ : L2.St} {u : Nat} : ∀ {vs : List Nat}, u ∈ vs → (L2.wipe σ vs).set u none = L2.wipe σ vs
  | v :: vs, h => by
    simp only [L2.wipe]
    by_cases e : u = v
    · subst e; rw [List.set_set]
    · rw [List.set_comm _ _ (Ne.symm e), wipe_done (by simpa [e] using h)]
theorem wipe_sub {σ : L2.St} {vs : List Nat} : ∀ {us : List Nat}, (∀ u ∈ us, u ∈ vs) → L2.wipe (L2.wipe σ vs) us = L2.wipe σ vs
  | [], _ => rfl
  | u :: us, h => by
    simp only [L2.wipe]
    rw [wipe_sub fun x hx => h x (List.mem_cons_of_mem _ hx), wipe_done (h u List.mem_cons_self)]
theorem wipe_wipe {σ : L2.St} {vs : List Nat} : L2.wipe (L2.wipe σ vs) vs = L2.wipe σ vs := wipe_sub fun _ h => h
/-- an evaluation within a comprehension's block: exceptions are not told of -/
def inB {α β : Type} (r : Res α) (k : α → Sto → Res β) : Res β := match r with
  | .ok a M => k a M
  | _ => .bad
theorem good_inB {α β : Type} {K : PySem.W.Frag} {T : Tb} {W : WX} {ρ : List Addr} {H : Hp} {σ σ2 : L2.St} {r : Res α} {k : α → Sto → Res β} {R : α → List Addr → Hp → Prop} {R' : β → List Addr → Hp → Prop}
    (q : Good K T W σ ρ H R' (inB r k)) (h : ∀ a M1 ρ1 H1, Ext ρ H ρ1 H1 → Rel K T ρ1 M1 H1 → Good K T W σ ρ1 H1 R' (k a M1) → R a ρ1 H1) : Good K T W0 σ2 ρ H R r := by
  cases r with
  | ok a M1 => exact fun ρ1 H1 x rl => h a M1 ρ1 H1 x rl (Good.mono x q)
  | exn C fs M1 => exact q.elim
  | bad => exact q
/-- the new item at the end of the list at n -/
def pushAt (n : Nat) (y : D) (M : Sto) (k : Sto → Res D) : Res D := match M[n]? with
  | some (.lst acc) => if acc.length < 16777216 then k (M.set n (.lst (acc ++ [y]))) else .bad
  | _ => .bad
def lcLoop (n : Nat) (w : Wk) (t : Tg) (τ0 : Env) (tt : Ev Bool) (te : FE) : Nat → Nat → Sto → Res D
  | 0, _, M => if w.fin M = true then .ok (.adr n) M else .bad
  | k + 1, i, M => match w.it i M with
    | some d => match t.put d τ0 with
      | some τ1 => inB (tt τ1 M) fun b M1 => if b = true then inB (te τ1 M1) fun y M2 => pushAt n y M2 (lcLoop n w t τ0 tt te k (i + 1)) else lcLoop n w t τ0 tt te k (i + 1) M1
      | none => .bad
    | none => .bad
def eLc (wi : Ev Wk) (t : Tg) (tt : Ev Bool) (te : FE) (vs : List Nat) : FE := fun τ M => (wi τ M).bind fun w M1 => if t.inn vs = true then lcLoop M1.length w t (wipeE τ vs) tt te w.n 0 (M1 ++ [.lst []]) else .bad
def yes : Ev Bool := fun _ M => .ok true M
theorem pushAt_ok {K : PySem.W.Frag} {T : Tb} {W : WX} {σ : L2.St} {ρ : List Addr} {M : Sto} {H : Hp} {n : Nat} {y : D} {v : V} {D : Addr} {k : Sto → Res Mp.D} {R : Mp.D → List Addr → Hp → Prop} (rl : Rel K T ρ M H) (ha : ρ[n]? = some D) (hv : Den K H ρ y v) (q : Good K T W σ ρ H R (pushAt n y M k)) :
    ∃ acc ds, M[n]? = some (.lst ds) ∧ H D = some (.lst acc) ∧ acc.length < sizeLine ∧ Rel K T ρ (M.set n (.lst (ds ++ [y]))) (upd H D (.lst (acc ++ [v]))) ∧ Ext ρ H ρ (upd H D (.lst (acc ++ [v]))) ∧ Good K T W σ ρ (upd H D (.lst (acc ++ [v]))) R (k (M.set n (.lst (ds ++ [y])))) := by
  unfold pushAt at q
  split at q
  · next ds hM =>
    split at q
    · next hl =>
      obtain ⟨a, e, acc, h1, h2⟩ := rl.ob n _ hM
      rw [ha] at e; cases e
      obtain ⟨r, x⟩ := rl.write (o' := .lst (ds ++ [y])) (u := .lst (acc ++ [v])) hM ha (fun w ys z => by rw [h1] at z; cases z)
        (fun Y => ⟨acc ++ [v], upd_same, (DenL.mono Y _ h2).append (DenL.cons_iff.mpr ⟨v, [], rfl, Den.mono Y _ hv, DenL.nil_iff.mpr rfl⟩)⟩)
        (Mp.D.lowL_iff.mpr fun d hd => by
          rcases List.mem_append.mp hd with hd | hd
          · exact Mp.D.lowL_iff.mp (rl.cl _ (List.mem_of_getElem? hM)) d hd
          · simp only [List.mem_singleton] at hd
            subst hd
            rw [← rl.len]; exact Den.low _ hv)
      exact ⟨acc, ds, hM, h1, by rw [← h2.length]; unfold sizeLine; exact hl, r, x, Good.mono x q⟩
    · exact q.elim
  · exact q.elim
section
variable {X : Cx} {T : Tb} {W : WX}
theorem PTs.weak' {X : Cx} {ifs : List Expr} {t t' : TT} (h : PTs X ifs t) (i : ∀ σ H Q, t' σ H Q → t σ H Q) : PTs X ifs t' := ⟨fun p s σ H Q I q => h.run p s σ H Q I (i σ H Q q)⟩
theorem mts_nil {X : Cx} : PTs X [] (tT X.K T W yes) := PTs.weak' pts_nil fun σ H Q ⟨ρ, M, τ, s, q⟩ => q ρ H .me s.rel
theorem mts_one {X : Cx} {c : Expr} {tt : Ev Bool} (h : PT X c (tT X.K T W tt)) : PTs X [c] (tT X.K T W tt) := pts_one h
theorem tLc_of {K : PySem.W.Frag} {wi : Ev Wk} {t : Tg} {tt : Ev Bool} {te : FE} {vs : List Nat} {σ : L2.St} {H : Hp} {Q : VK} (h : tE K T W (eLc wi t tt te vs) σ H Q) : tLc (tI K T W wi) (tG K t) (tT K T W0 tt) (tE K T W0 te) vs σ H Q := by
  obtain ⟨ρ, M, τ, s, q⟩ := h
  refine (At.bind (g := fun w τ M1 => if t.inn vs = true then lcLoop M1.length w t (wipeE τ vs) tt te w.n 0 (M1 ++ [.lst []]) else .bad) ⟨ρ, M, τ, s, q⟩).elim fun ρ0 ⟨M0, τ0, s0, g0⟩ => ⟨ρ0, M0, τ0, s0, ?_⟩
  cases e0 : wi τ0 M0 with
  | bad => rw [e0] at g0; exact g0
  | exn C fs M1 => rw [e0] at g0; exact g0
  | ok w M1 =>
  rw [e0] at g0
  intro ρ1 H1 x1 rl J hJ D hD
  obtain ⟨s1, q1⟩ := g0 ρ1 H1 x1 rl M1 rl rfl
  by_cases ht : t.inn vs = true
  · rw [if_pos ht] at q1
    obtain ⟨r2, x2⟩ := rel_new (ds := []) (vs := []) rl hD (DenL.nil_iff.mpr rfl) rfl
    have hat : (ρ1 ++ [D])[M1.length]? = some D := by rw [← rl.len]; simp
    have he : DenE K (upd H1 D (.lst [])) (ρ1 ++ [D]) (wipeE τ0 vs) (wipe σ vs) := (s1.env.mono x2).wipe vs
    have P1 : ∀ ρ' H', Ext (ρ1 ++ [D]) (upd H1 D (.lst [])) ρ' H' → ρ'[M1.length]? = some D := fun ρ' H' x => pre_get x.pre hat
    refine ⟨fun i m H2 => i + m = w.n ∧ ∃ ρ2 M2, Ext (ρ1 ++ [D]) (upd H1 D (.lst [])) ρ2 H2 ∧ Rel K T ρ2 M2 H2 ∧ Good K T W σ ρ2 H2 (RE K Q) (lcLoop M1.length w t (wipeE τ0 vs) tt te m i M2), ⟨w.n, by omega, _, _, .me, r2, Good.mono x2 q1⟩, ?_⟩
    rintro i m H2 ⟨hn, ρ2, M2, y2, rl2, q2⟩
    obtain ⟨g1, g2⟩ := hJ ρ2 H2 M2 i (x2.trans y2) rl2
    cases m with
    | zero =>
      unfold lcLoop at q2
      by_cases hf : w.fin M2 = true
      · rw [if_pos hf] at q2
        have hi : i = w.n := by omega
        subst hi
        exact .inl ⟨g2 hf, q2 ρ2 H2 .me rl2 _ (den_adr.mpr ⟨D, P1 ρ2 H2 y2, rfl⟩)⟩
      · rw [if_neg hf] at q2; exact q2.elim
    | succ k =>
      unfold lcLoop at q2
      cases hd : w.it i M2 with
      | none => rw [hd] at q2; exact q2.elim
      | some d =>
        rw [hd] at q2
        dsimp only at q2
        obtain ⟨go, yl⟩ := g1 d hd (by omega)
        refine .inr ⟨go, fun H' => (i + 1) + k = w.n ∧ ∃ ρ2 M2, Ext (ρ1 ++ [D]) (upd H1 D (.lst [])) ρ2 H' ∧ Rel K T ρ2 M2 H' ∧ Good K T W σ ρ2 H' (RE K Q) (lcLoop M1.length w t (wipeE τ0 vs) tt te k (i + 1) M2), fun H' h => ⟨k, Nat.lt_succ_self k, h⟩, fun v H' hy => ?_⟩
        obtain ⟨ρ3, x3, r3, hv⟩ := yl v H' hy
        cases hp : t.put d (wipeE τ0 vs) with
        | none => rw [hp] at q2; exact q2.elim
        | some τ3 =>
          rw [hp] at q2
          dsimp only at q2
          refine ⟨ρ3, d, wipeE τ0 vs, τ3, he.mono (y2.trans x3), hv, hp, fun σ3 e3 k3 => ⟨(k3 vs ht).trans wipe_wipe, ρ3, M2, τ3, sg0 r3 e3, ?_⟩⟩
          refine good_inB (Good.mono x3 q2) fun b M4 ρ4 H4 x4 r4 q4 => ?_
          cases b with
          | false =>
            simp only [RB, Bool.false_eq_true, if_false] at q4 ⊢
            exact ⟨by omega, ρ4, M4, (y2.trans x3).trans x4, r4, q4⟩
          | true =>
            simp only [RB, if_true] at q4 ⊢
            refine ⟨ρ4, M4, τ3, sg0 r4 (e3.mono x4), good_inB q4 fun y M5 ρ5 H5 x5 r5 q5 u hu => ?_⟩
            obtain ⟨acc, ds, h1, h2, h3, h4, h5, h6⟩ := pushAt_ok r5 (P1 ρ5 H5 (((y2.trans x3).trans x4).trans x5)) hu q5
            exact ⟨acc, h2, h3, by omega, ρ5, _, (((y2.trans x3).trans x4).trans x5).trans h5, h4, h6⟩
  · rw [if_neg ht] at q1; exact q1.elim
variable {elt tg iter : Expr} {ifs : List Expr} {scope : Scope} {own : List (Str × Nat)} {pos spos py : Pos} {y : Str} {wi : Ev Wk} {t : Tg} {tt : Ev Bool} {te : FE}
theorem mp_lc (hc : X.calm = true) (hN : X.N.Nodup) (hi : PI X tg iter (tI X.K T W wi)) (ok : BlkOk X.N X.env.scope scope own)
    (hg : ∀ (s : Shared) (H : Hp) (C : Addr) (cl : List (Str × Addr)) (fp : List Addr), PG (X.blk s H scope (compEnvC scope cl C X.env) fp) tg (tG X.K t)) (ht : ∀ (s : Shared) (H : Hp) (C : Addr) (cl : List (Str × Addr)) (fp : List Addr), PTs (X.blk s H scope (compEnvC scope cl C X.env) fp) ifs (tT X.K T W0 tt))
    (he : ∀ (s : Shared) (H : Hp) (C : Addr) (cl : List (Str × Addr)) (fp : List Addr), PE (X.blk s H scope (compEnvC scope cl C X.env) fp) elt (tE X.K T W0 te)) (hs : ∀ x, foldedSetIterable iter X.env x = pure x := by intro _; rfl) :
    PE X (.ListComp elt [⟨tg, iter, ifs, 0⟩] scope pos) (tE X.K T W (eLc wi t tt te (own.map (·.2)))) :=
  (pe_lc hc hN hi ok hg ht he hs).weak fun _ _ _ h => tLc_of h
theorem ms_setLc (j : Nat) (hc : X.calm = true) (hN : X.N.Nodup) (hi : PI X tg iter (tI X.K T W wi)) (ok : BlkOk X.N X.env.scope scope own)
    (hg : ∀ (s : Shared) (H : Hp) (C : Addr) (cl : List (Str × Addr)) (fp : List Addr), PG (X.blk s H scope (compEnvC scope cl C X.env) fp) tg (tG X.K t)) (ht : ∀ (s : Shared) (H : Hp) (C : Addr) (cl : List (Str × Addr)) (fp : List Addr), PTs (X.blk s H scope (compEnvC scope cl C X.env) fp) ifs (tT X.K T W0 tt))
    (he : ∀ (s : Shared) (H : Hp) (C : Addr) (cl : List (Str × Addr)) (fp : List Addr), PE (X.blk s H scope (compEnvC scope cl C X.env) fp) elt (tE X.K T W0 te))
    (hsw : swapsWith (.ListComp elt [⟨tg, iter, ifs, 0⟩] scope pos) (some (.Name y py)) spos.line X.env = pure true) (hy : X.N[j]? = some y := by rfl) (hyl : X.env.scope.names.lookup y = some .local := by rfl) (hs : ∀ x, foldedSetIterable iter X.env x = pure x := by intro _; rfl) :
    PS X (.Assign [.Name y py] (.ListComp elt [⟨tg, iter, ifs, 0⟩] scope pos) spos) (tS X.K T W (sSet (.nm j) (eLc wi t tt te (own.map (·.2))))) :=
  (ps_setLc hc hN hy hyl hsw hi ok hg ht he hs).weak fun E σ H ⟨ρ, M, τ, s, q⟩ => tLc_of (liftE_E s q fun d v M1 ρ1 H1 x s1 q1 => by
    have q2 : GoodS X.K T W ρ1 H1 E (.go .nx (τ.set j (some d)) M1) := q1
    exact q2 ρ1 H1 _ .me s1.rel (s1.env.set (s1.car (d, v) (by simp))))
end
end Mp

set_option Elab.async false
set_option linter.all false
set_option maxRecDepth 100000
set_option maxHeartbeats 2000000
/-! Mp9: list comprehensions of two clauses -/
namespace Mp
open PySem PySem.Spec PyProof.Rows L2
def lcIn (n : Nat) (w : Wk) (t : Tg) (τ0 : Env) (tt : Ev Bool) (te : FE) : Nat → Nat → Sto → (Sto → Res D) → Res D
  | 0, _, M, kk => if w.fin M = true then kk M else .bad
  | k + 1, i, M, kk => match w.it i M with
    | some d => match t.put d τ0 with
      | some τ1 => inB (tt τ1 M) fun b M1 => if b = true then inB (te τ1 M1) fun y M2 => pushAt n y M2 fun M3 => lcIn n w t τ0 tt te k (i + 1) M3 kk else lcIn n w t τ0 tt te k (i + 1) M1 kk
      | none => .bad
    | none => .bad
def lcOut (n : Nat) (w : Wk) (t : Tg) (τ0 : Env) (tt : Ev Bool) (wi1 : Ev Wk) (t1 : Tg) (vs1 : List Nat) (tt1 : Ev Bool) (te : FE) : Nat → Nat → Sto → Res D
  | 0, _, M => if w.fin M = true then .ok (.adr n) M else .bad
  | k + 1, i, M => match w.it i M with
    | some d => match t.put d τ0 with
      | some τ1 => inB (tt τ1 M) fun b M1 => if b = true then inB (wi1 τ1 M1) fun w1 M2 => lcIn n w1 t1 (wipeE τ1 vs1) tt1 te w1.n 0 M2 fun M3 => lcOut n w t τ0 tt wi1 t1 vs1 tt1 te k (i + 1) M3
        else lcOut n w t τ0 tt wi1 t1 vs1 tt1 te k (i + 1) M1
      | none => .bad
    | none => .bad
def eLc2 (wi : Ev Wk) (t : Tg) (tt : Ev Bool) (wi1 : Ev Wk) (t1 : Tg) (tt1 : Ev Bool) (te : FE) (vs vs1 : List Nat) : FE := fun τ M => (wi τ M).bind fun w M1 =>
  if t.inn vs = true ∧ t1.inn vs1 = true then lcOut M1.length w t (wipeE τ vs) tt wi1 t1 vs1 tt1 te w.n 0 (M1 ++ [.lst []]) else .bad
section
variable {X : Cx} {T : Tb} {W : WX}
theorem tLc2_of {K : PySem.W.Frag} {wi wi1 : Ev Wk} {t t1 : Tg} {tt tt1 : Ev Bool} {te : FE} {vs vs1 : List Nat} {σ : L2.St} {H : Hp} {Q : VK} (h : tE K T W (eLc2 wi t tt wi1 t1 tt1 te vs vs1) σ H Q) :
    tLc2 (tI K T W wi) (tG K t) (tT K T W0 tt) (tI K T W0 wi1) (tG K t1) (tT K T W0 tt1) (tE K T W0 te) vs vs1 σ H Q := by
  obtain ⟨ρ, M, τ, s, q⟩ := h
  refine (At.bind (g := fun w τ M1 => if t.inn vs = true ∧ t1.inn vs1 = true then lcOut M1.length w t (wipeE τ vs) tt wi1 t1 vs1 tt1 te w.n 0 (M1 ++ [.lst []]) else .bad) ⟨ρ, M, τ, s, q⟩).elim fun ρ0 ⟨M0, τ0, s0, g0⟩ => ⟨ρ0, M0, τ0, s0, ?_⟩
  cases e0 : wi τ0 M0 with
  | bad => rw [e0] at g0; exact g0
  | exn C fs M1 => rw [e0] at g0; exact g0
  | ok w M1 =>
  rw [e0] at g0
  intro ρ1 H1 x1 rl J hJ D hD
  obtain ⟨s1, q1⟩ := g0 ρ1 H1 x1 rl M1 rl rfl
  by_cases ht : t.inn vs = true ∧ t1.inn vs1 = true
  · rw [if_pos ht] at q1
    obtain ⟨r2, x2⟩ := rel_new (ds := []) (vs := []) rl hD (DenL.nil_iff.mpr rfl) rfl
    have hat : (ρ1 ++ [D])[M1.length]? = some D := by rw [← rl.len]; simp
    have he : DenE K (upd H1 D (.lst [])) (ρ1 ++ [D]) (wipeE τ0 vs) (wipe σ vs) := (s1.env.mono x2).wipe vs
    have P1 : ∀ ρ' H', Ext (ρ1 ++ [D]) (upd H1 D (.lst [])) ρ' H' → ρ'[M1.length]? = some D := fun ρ' H' x => pre_get x.pre hat
    refine ⟨fun i m H2 => i + m = w.n ∧ ∃ ρ2 M2, Ext (ρ1 ++ [D]) (upd H1 D (.lst [])) ρ2 H2 ∧ Rel K T ρ2 M2 H2 ∧ Good K T W σ ρ2 H2 (RE K Q) (lcOut M1.length w t (wipeE τ0 vs) tt wi1 t1 vs1 tt1 te m i M2), ⟨w.n, by omega, _, _, .me, r2, Good.mono x2 q1⟩, ?_⟩
    rintro i m H2 ⟨hn, ρ2, M2, y2, rl2, q2⟩
    obtain ⟨g1, g2⟩ := hJ ρ2 H2 M2 i (x2.trans y2) rl2
    cases m with
    | zero =>
      unfold lcOut at q2
      by_cases hf : w.fin M2 = true
      · rw [if_pos hf] at q2
        have hi : i = w.n := by omega
        subst hi
        exact .inl ⟨g2 hf, q2 ρ2 H2 .me rl2 _ (den_adr.mpr ⟨D, P1 ρ2 H2 y2, rfl⟩)⟩
      · rw [if_neg hf] at q2; exact q2.elim
    | succ k =>
      unfold lcOut at q2
      cases hd : w.it i M2 with
      | none => rw [hd] at q2; exact q2.elim
      | some d =>
        rw [hd] at q2
        dsimp only at q2
        obtain ⟨go, yl⟩ := g1 d hd (by omega)
        refine .inr ⟨go, fun H' => (i + 1) + k = w.n ∧ ∃ ρ2 M2, Ext (ρ1 ++ [D]) (upd H1 D (.lst [])) ρ2 H' ∧ Rel K T ρ2 M2 H' ∧ Good K T W σ ρ2 H' (RE K Q) (lcOut M1.length w t (wipeE τ0 vs) tt wi1 t1 vs1 tt1 te k (i + 1) M2), fun H' h => ⟨k, Nat.lt_succ_self k, h⟩, fun v H' hy => ?_⟩
        obtain ⟨ρ3, x3, r3, hv⟩ := yl v H' hy
        cases hp : t.put d (wipeE τ0 vs) with
        | none => rw [hp] at q2; exact q2.elim
        | some τ3 =>
          rw [hp] at q2
          dsimp only at q2
          refine ⟨ρ3, d, wipeE τ0 vs, τ3, he.mono (y2.trans x3), hv, hp, fun σ3 e3 k3 => ⟨(k3 vs ht.1).trans wipe_wipe, ρ3, M2, τ3, sg0 r3 e3, ?_⟩⟩
          refine good_inB (Good.mono x3 q2) fun b M4 ρ4 H4 x4 r4 q4 => ?_
          cases b with
          | false =>
            simp only [RB, Bool.false_eq_true, if_false] at q4 ⊢
            exact ⟨by omega, ρ4, M4, (y2.trans x3).trans x4, r4, q4⟩
          | true =>
            simp only [RB, if_true] at q4 ⊢
            refine ⟨ρ4, M4, τ3, sg0 r4 (e3.mono x4), good_inB q4 fun w1 M5 ρ5 H5 x5 r5 q5 J1 hJ1 => ?_⟩
            have y5 := ((y2.trans x3).trans x4).trans x5
            refine ⟨fun j m H6 => j + m = w1.n ∧ ∃ ρ6 M6, Ext ρ5 H5 ρ6 H6 ∧ Rel K T ρ6 M6 H6 ∧ Good K T W σ ρ6 H6 (RE K Q) (lcIn M1.length w1 t1 (wipeE τ3 vs1) tt1 te m j M6 fun M3 => lcOut M1.length w t (wipeE τ0 vs) tt wi1 t1 vs1 tt1 te k (i + 1) M3), ⟨w1.n, by omega, _, _, .me, r5, q5⟩, ?_⟩
            rintro j m H6 ⟨hn6, ρ6, M6, y6, rl6, q6⟩
            obtain ⟨f1, f2⟩ := hJ1 ρ6 H6 M6 j y6 rl6
            cases m with
            | zero =>
              unfold lcIn at q6
              by_cases hf : w1.fin M6 = true
              · rw [if_pos hf] at q6
                have hi : j = w1.n := by omega
                subst hi
                exact .inl ⟨f2 hf, by omega, ρ6, M6, y5.trans y6, rl6, q6⟩
              · rw [if_neg hf] at q6; exact q6.elim
            | succ k1 =>
              unfold lcIn at q6
              cases hd6 : w1.it j M6 with
              | none => rw [hd6] at q6; exact q6.elim
              | some d1 =>
                rw [hd6] at q6
                dsimp only at q6
                obtain ⟨go6, yl6⟩ := f1 d1 hd6 (by omega)
                refine .inr ⟨go6, fun H' => (j + 1) + k1 = w1.n ∧ ∃ ρ6 M6, Ext ρ5 H5 ρ6 H' ∧ Rel K T ρ6 M6 H' ∧ Good K T W σ ρ6 H' (RE K Q) (lcIn M1.length w1 t1 (wipeE τ3 vs1) tt1 te k1 (j + 1) M6 fun M3 => lcOut M1.length w t (wipeE τ0 vs) tt wi1 t1 vs1 tt1 te k (i + 1) M3), fun H' h => ⟨k1, Nat.lt_succ_self k1, h⟩, fun v1 H7 hy7 => ?_⟩
                obtain ⟨ρ7, x7, r7, hv7⟩ := yl6 v1 H7 hy7
                cases hp7 : t1.put d1 (wipeE τ3 vs1) with
                | none => rw [hp7] at q6; exact q6.elim
                | some τ7 =>
                  rw [hp7] at q6
                  dsimp only at q6
                  refine ⟨ρ7, d1, wipeE τ3 vs1, τ7, (e3.mono ((x4.trans x5).trans (y6.trans x7))).wipe vs1, hv7, hp7, fun σ7 e7 k7 => ⟨(k7 vs1 ht.2).trans wipe_wipe, ρ7, M6, τ7, sg0 r7 e7, ?_⟩⟩
                  refine good_inB (Good.mono x7 q6) fun b M8 ρ8 H8 x8 r8 q8 => ?_
                  cases b with
                  | false =>
                    simp only [RB, Bool.false_eq_true, if_false] at q8 ⊢
                    exact ⟨by omega, ρ8, M8, (y6.trans x7).trans x8, r8, q8⟩
                  | true =>
                    simp only [RB, if_true] at q8 ⊢
                    refine ⟨ρ8, M8, τ7, sg0 r8 (e7.mono x8), good_inB q8 fun y M9 ρ9 H9 x9 r9 q9 u hu => ?_⟩
                    have y9 := ((y6.trans x7).trans x8).trans x9
                    obtain ⟨acc, ds, h1, h2, h3, h4, h5, h6⟩ := pushAt_ok r9 (P1 ρ9 H9 (y5.trans y9)) hu q9
                    exact ⟨acc, h2, h3, by omega, ρ9, _, y9.trans h5, h4, h6⟩
  · rw [if_neg ht] at q1; exact q1.elim
variable {elt tg iter tg1 iter1 : Expr} {ifs ifs1 : List Expr} {scope : Scope} {own : List (Str × Nat)} {vs1 : List Nat} {pos spos py : Pos} {y : Str} {wi wi1 : Ev Wk} {t t1 : Tg} {tt tt1 : Ev Bool} {te : FE}
theorem mp_lc2 (hc : X.calm = true) (hN : X.N.Nodup) (hi : PI X tg iter (tI X.K T W wi)) (ok : BlkOk X.N X.env.scope scope own) (hv : ∀ i ∈ vs1, i ∈ own.map (·.2))
    (hg : ∀ (s : Shared) (H : Hp) (C : Addr) (cl : List (Str × Addr)) (fp : List Addr), PG (X.blk s H scope (compEnvC scope cl C X.env) fp) tg (tG X.K t)) (ht : ∀ (s : Shared) (H : Hp) (C : Addr) (cl : List (Str × Addr)) (fp : List Addr), PTs (X.blk s H scope (compEnvC scope cl C X.env) fp) ifs (tT X.K T W0 tt))
    (hi1 : ∀ (s : Shared) (H : Hp) (C : Addr) (cl : List (Str × Addr)) (fp : List Addr), PI (X.blk s H scope (compEnvC scope cl C X.env) fp) tg1 iter1 (tI X.K T W0 wi1))
    (hg1 : ∀ (s : Shared) (H : Hp) (C : Addr) (cl : List (Str × Addr)) (fp : List Addr), PG (X.blk s H scope (compEnvC scope cl C X.env) fp) tg1 (tG X.K t1)) (ht1 : ∀ (s : Shared) (H : Hp) (C : Addr) (cl : List (Str × Addr)) (fp : List Addr), PTs (X.blk s H scope (compEnvC scope cl C X.env) fp) ifs1 (tT X.K T W0 tt1))
    (he : ∀ (s : Shared) (H : Hp) (C : Addr) (cl : List (Str × Addr)) (fp : List Addr), PE (X.blk s H scope (compEnvC scope cl C X.env) fp) elt (tE X.K T W0 te)) (hs : ∀ x, foldedSetIterable iter X.env x = pure x := by intro _; rfl) (hs1 : ∀ env x, foldedSetIterable iter1 env x = pure x := by intro _ _; rfl) :
    PE X (.ListComp elt [⟨tg, iter, ifs, 0⟩, ⟨tg1, iter1, ifs1, 0⟩] scope pos) (tE X.K T W (eLc2 wi t tt wi1 t1 tt1 te (own.map (·.2)) vs1)) :=
  (pe_lc2 hc hN hi ok hv hg ht hi1 hg1 ht1 he hs hs1).weak fun _ _ _ h => tLc2_of h
theorem ms_setLc2 (j : Nat) (hc : X.calm = true) (hN : X.N.Nodup) (hi : PI X tg iter (tI X.K T W wi)) (ok : BlkOk X.N X.env.scope scope own) (hv : ∀ i ∈ vs1, i ∈ own.map (·.2))
    (hg : ∀ (s : Shared) (H : Hp) (C : Addr) (cl : List (Str × Addr)) (fp : List Addr), PG (X.blk s H scope (compEnvC scope cl C X.env) fp) tg (tG X.K t)) (ht : ∀ (s : Shared) (H : Hp) (C : Addr) (cl : List (Str × Addr)) (fp : List Addr), PTs (X.blk s H scope (compEnvC scope cl C X.env) fp) ifs (tT X.K T W0 tt))
    (hi1 : ∀ (s : Shared) (H : Hp) (C : Addr) (cl : List (Str × Addr)) (fp : List Addr), PI (X.blk s H scope (compEnvC scope cl C X.env) fp) tg1 iter1 (tI X.K T W0 wi1))
    (hg1 : ∀ (s : Shared) (H : Hp) (C : Addr) (cl : List (Str × Addr)) (fp : List Addr), PG (X.blk s H scope (compEnvC scope cl C X.env) fp) tg1 (tG X.K t1)) (ht1 : ∀ (s : Shared) (H : Hp) (C : Addr) (cl : List (Str × Addr)) (fp : List Addr), PTs (X.blk s H scope (compEnvC scope cl C X.env) fp) ifs1 (tT X.K T W0 tt1))
    (he : ∀ (s : Shared) (H : Hp) (C : Addr) (cl : List (Str × Addr)) (fp : List Addr), PE (X.blk s H scope (compEnvC scope cl C X.env) fp) elt (tE X.K T W0 te))
    (hsw : swapsWith (.ListComp elt [⟨tg, iter, ifs, 0⟩, ⟨tg1, iter1, ifs1, 0⟩] scope pos) (some (.Name y py)) spos.line X.env = pure true) (hy : X.N[j]? = some y := by rfl) (hyl : X.env.scope.names.lookup y = some .local := by rfl)
    (hs : ∀ x, foldedSetIterable iter X.env x = pure x := by intro _; rfl) (hs1 : ∀ env x, foldedSetIterable iter1 env x = pure x := by intro _ _; rfl) :
    PS X (.Assign [.Name y py] (.ListComp elt [⟨tg, iter, ifs, 0⟩, ⟨tg1, iter1, ifs1, 0⟩] scope pos) spos) (tS X.K T W (sSet (.nm j) (eLc2 wi t tt wi1 t1 tt1 te (own.map (·.2)) vs1))) :=
  (ps_setLc2 hc hN hy hyl hsw hi ok hv hg ht hi1 hg1 ht1 he hs hs1).weak fun E σ H ⟨ρ, M, τ, s, q⟩ => tLc2_of (liftE_E s q fun d v M1 ρ1 H1 x s1 q1 => by
    have q2 : GoodS X.K T W ρ1 H1 E (.go .nx (τ.set j (some d)) M1) := q1
    exact q2 ρ1 H1 _ .me s1.rel (s1.env.set (s1.car (d, v) (by simp))))
end
end Mp

set_option Elab.async false
set_option linter.all false
set_option maxRecDepth 100000
set_option maxHeartbeats 2000000
/-! Mp10: defs, calls of defs -/
namespace Mp
open PySem PySem.Spec PyProof.Rows L2
abbrev FD := List D → Sto → Res D
/-- a def's promise: what its reading makes -/
def spI (K : PySem.W.Frag) (T : Tb) (n : Nat) (F : FD) : Sp := fun vs H Q E => ∃ ρ M ds, ds.length = n ∧ Rel K T ρ M H ∧ DenL K H ρ ds vs ∧ Good K T (fun c d _ H' => E c d H') [] ρ H (RE K Q) (F ds M)
/-- what a def's end leaves of the store -/
def fin (b : Nat) : Res D → Res D
  | .ok d M => if D.low b d && (M.take b).all (fun o => o.low b) then .ok d (M.take b) else .ok d M
  | .exn C fs M => if fs.all (fun p => D.low b p.2) && (M.take b).all (fun o => o.low b) then .exn C fs (M.take b) else .exn C fs M
  | .bad => .bad
def endD : SR → Res D
  | .go .nx _ M => .ok .non M
  | .go (.rt d) _ M => .ok d M
  | .ex C fs _ M => .exn C fs M
  | _ => .bad
def startD (n : Nat) (ds : List D) : Env := ds.map some ++ List.replicate (n - ds.length) none
def mdef (n : Nat) (f : FS) : FD := fun ds M => fin M.length (endD (f (startD n ds) M))
section
variable {K : PySem.W.Frag} {T : Tb} {ρ : List Addr} {M : Sto} {H : Hp} {W : WX} {σ : L2.St}
theorem ext_take {ρ ρ' : List Addr} {H H' : Hp} (x : Ext ρ H ρ' H') : Ext ρ H (ρ'.take ρ.length) H' :=
  ⟨by obtain ⟨t, rfl⟩ := x.pre; simp, x.tup, x.frz, x.xd⟩
theorem fin_ok {Q : VK} (rl : Rel K T ρ M H) {r : Res D} (q : Good K T W σ ρ H (RE K Q) (fin M.length r)) : Good K T W σ ρ H (RE K Q) r := by
  cases r with
  | bad => exact q
  | ok d M' =>
    simp only [fin] at q
    split at q
    · next c =>
      rw [Bool.and_eq_true] at c
      intro ρ' H' x r' v hv
      have hb : M.length ≤ M'.length := by rw [← rl.len, ← r'.len]; exact x.pre.length_le
      have x2 := ext_take x
      rw [rl.len] at x2
      exact q _ H' x2 (r'.cut hb c.2) v (Den.lower d c.1 hv)
    · exact q
  | exn C fs M' =>
    simp only [fin] at q
    split at q
    · next c =>
      rw [Bool.and_eq_true] at c
      intro ρ' H' dd vs x r' e hv
      have hb : M.length ≤ M'.length := by rw [← rl.len, ← r'.len]; exact x.pre.length_le
      have x2 := ext_take x
      rw [rl.len] at x2
      refine q _ H' dd vs x2 (r'.cut hb c.2) e ⟨hv.1, DenL.lower _ (D.lowL_iff.mpr fun d hd => ?_) hv.2⟩
      obtain ⟨p, hp, rfl⟩ := List.mem_map.mp hd
      exact List.all_eq_true.mp c.1 p hp
    · exact q
theorem endD_ok {E : XK} {Q : VK} {r : SR} (q : Good K T (fun c d _ H' => E c d H') σ ρ H (RE K Q) (endD r)) : GoodS K T (fun c d _ H' => E c d H') ρ H { nx := fun _ H' => Q .non H', rt := Q } r := by
  cases r with
  | bad => exact q
  | ex C fs τ M' => exact fun ρ' H' σ' dd vs x r e h d => q ρ' H' dd vs x r h d
  | go fl τ M' =>
    cases fl with
    | nx => exact fun ρ' H' σ' x r e => q ρ' H' x r _ (den_non.mpr rfl)
    | rt d => exact fun ρ' H' v x r e => q ρ' H' x r v e
    | bk => exact q.elim
    | ct => exact q.elim
theorem denL_getS : ∀ {ds : List D} {vs : List V}, DenL K H ρ ds vs → ∀ (i : Nat) (d : D), (ds.map some)[i]? = some (some d) → ∃ v, (vs.map some)[i]? = some (some v) ∧ Den K H ρ d v := by
  intro ds vs l i d e
  rw [List.getElem?_map, Option.map_eq_some_iff] at e
  obtain ⟨d', e1, e2⟩ := e
  cases e2
  obtain ⟨v, h1, h2⟩ := l.get e1
  exact ⟨v, by rw [List.getElem?_map, h1]; rfl, h2⟩
theorem start_den {N : List Str} {ds : List D} {vs : List V} (l : DenL K H ρ ds vs) : DenE K H ρ (startD N.length ds) (L2.start N vs) := by
  have hl := l.length
  refine ⟨by simp [startD, L2.start, hl], fun i d e => ?_⟩
  unfold startD at e
  unfold L2.start
  by_cases h : i < ds.length
  · rw [List.getElem?_append_left (by simpa using h)] at e
    rw [List.getElem?_append_left (by rw [List.length_map, ← hl]; exact h)]
    exact denL_getS l i d e
  · rw [List.getElem?_append_right (by simpa using Nat.le_of_not_lt h)] at e
    rw [List.getElem?_replicate] at e
    split at e
    · cases e
    · cases e
end
section
variable {P : Program} {w : World} {K : PySem.W.Frag} {mg : Str → Option Value} {base : Heap} {T : Tb}
theorem fn_bad {k : Nat} {f : Addr} {fd : FuncData} {ps : List Str} : FnOk P w K mg base (L2N.CX P w) k f fd ps (spI K T ps.length fun _ _ => .bad) :=
  ⟨fun vs H Q E ⟨ρ, M, ds, hl, _, l, _⟩ => by rw [← l.length]; exact hl, fun _ _ _ _ _ _ _ _ _ _ _ _ _ ⟨_, _, _, _, _, _, q⟩ => q.elim⟩
end
/-- the reading of a call -/
def lenF (n : Nat) (F : FD) : FD := fun ds M => if ds.length = n then F ds M else .bad
/-- arguments by name: the values of the parameters among those of the keywords -/
def permL {α : Type} (π : List Nat) (l : List α) : List α := π.filterMap (l[·]?)
section
variable {X : Cx} {T : Tb} {W : WX} {k : Nat} {f : Addr} {fd : FuncData} {ps ks : List Str} {F : FD} {x : Str} {p pos : Pos} {e : Expr} {es : List Expr} {g : Ev (List D)} {kws : List Keyword} {tk : TA}
theorem mp_call (Fn : FnOk X.prog X.w X.K X.mg X.base (L2N.CX X.prog X.w) k f fd ps (spI X.K T ps.length F)) (hr : Room k X.A) (hg : Gl X x) (hm : X.mg x = some (.ref f)) (hk : PySem.W.keepIn X.K (.ref f) = true) (hb : Binds X.K fd ps []) (tk : L2N.Takes X W)
    (ha : PA X (e :: es) (tA X.K T W g)) (hdb : (x == ("__debug__" : Str)) = false := by decide) (he : starEach (e :: es) X.env = (false, eval e X.env) :: starEach es X.env := by rfl) (hpl : (backTo pos (starEach es X.env)).any (·.1) = false := by rfl) :
    PE X (.Call (.Name x p) (e :: es) [] pos) (tE X.K T W (eCall (lenF ps.length F) g)) :=
  (pe_callSD (E := WE W) Fn hr hg hm hk hb .nil (L2N.passAt tk) ha hdb he hpl).weak fun σ H Q h =>
    (At.bindA (g := fun ds _ M1 => lenF ps.length F ds M1) h).imp fun vs H1 ⟨ds, ρ, M, τ, s, l, q⟩ => by
      dsimp only [lenF] at q
      by_cases hl : ds.length = ps.length
      · rw [if_pos hl] at q
        refine ⟨ρ, M, ds, hl, s.rel, by rw [List.append_nil]; exact l (ds, vs) (by simp), ?_⟩
        cases h : F ds M with
        | ok d M' => rw [h] at q; exact q
        | exn C fs M' => rw [h] at q; exact q
        | bad => rw [h] at q; exact q
      · rw [if_neg hl] at q; exact q.elim
/-- how a call by names alone binds -/
def KB0 (K : PySem.W.Frag) (fd : FuncData) (ps ks : List Str) (π : List Nat) : Prop := ∀ (s : Shared) (ws : List Value), K.In s.heap → ws.length = ps.length → (permL π ws).length = ps.length ∧ BindsTo s fd ⟨[], ks.zip ws⟩ (ps.zip (permL π ws))
theorem vals_get : ∀ {vs : List V} {us : List Value}, Vals vs us → ∀ (i : Nat), (∃ v u, vs[i]? = some v ∧ us[i]? = some u ∧ RelV v u) ∨ (vs[i]? = none ∧ us[i]? = none)
  | _, _, .nil, i => .inr ⟨by simp, by simp⟩
  | _, _, .cons r t, 0 => .inl ⟨_, _, rfl, rfl, r⟩
  | _, _, .cons r t, i + 1 => by simpa using vals_get t i
theorem vals_perm {vs : List V} {us : List Value} (r : Vals vs us) : ∀ π : List Nat, Vals (permL π vs) (permL π us)
  | [] => .nil
  | i :: π => by
    unfold permL
    rcases vals_get r i with ⟨v, u, e1, e2, r1⟩ | ⟨e1, e2⟩
    · rw [List.filterMap_cons_some e1, List.filterMap_cons_some e2]
      exact .cons r1 (vals_perm r π)
    · rw [List.filterMap_cons_none e1, List.filterMap_cons_none e2]
      exact vals_perm r π
theorem denL_get2 {K : PySem.W.Frag} {H : Hp} {ρ : List Addr} {ds : List D} {vs : List V} (l : DenL K H ρ ds vs) (i : Nat) : (∃ d v, ds[i]? = some d ∧ vs[i]? = some v ∧ Den K H ρ d v) ∨ (ds[i]? = none ∧ vs[i]? = none) := by
  cases e : ds[i]? with
  | some d => obtain ⟨v, h1, h2⟩ := l.get e; exact .inl ⟨d, v, rfl, h1, h2⟩
  | none => exact .inr ⟨rfl, by rw [List.getElem?_eq_none_iff] at e ⊢; rw [← l.length]; exact e⟩
theorem denL_perm {K : PySem.W.Frag} {H : Hp} {ρ : List Addr} {ds : List D} {vs : List V} (l : DenL K H ρ ds vs) : ∀ π : List Nat, DenL K H ρ (permL π ds) (permL π vs)
  | [] => DenL.nil_iff.mpr rfl
  | i :: π => by
    unfold permL
    rcases denL_get2 l i with ⟨d, v, e1, e2, r1⟩ | ⟨e1, e2⟩
    · rw [List.filterMap_cons_some e1, List.filterMap_cons_some e2]
      exact DenL.cons_iff.mpr ⟨v, _, rfl, r1, denL_perm l π⟩
    · rw [List.filterMap_cons_none e1, List.filterMap_cons_none e2]
      exact denL_perm l π
theorem PK.weak {t t' : TA} (h : PK X kws t) (i : ∀ σ H Q, t' σ H Q → t σ H Q) : PK X kws t' := ⟨fun po p s σ H Q I q => h.run po p s σ H Q I (i σ H Q q)⟩
theorem mk_nil : PK X [] (tA X.K T W aNil) := PK.weak pk_nil fun σ H Q ⟨ρ, M, τ, s, q⟩ => q ρ H .me s.rel [] (by unfold DenL; rfl)
theorem mk_cons {nm : Option Str} {kpos : Pos} {fe : FE} (ha : PE X e (tE X.K T W fe)) (hr : PK X kws (tA X.K T W g)) : PK X (⟨nm, e, kpos⟩ :: kws) (tA X.K T W (aCons fe g)) :=
  PK.weak (pk_cons ha hr) fun σ H Q h => (At.bindE (g := fun d τ M1 => (g τ M1).bind fun ds M2 => .ok (d :: ds) M2) h).imp fun v H1 ⟨d, h1⟩ =>
    (At.bindA (g := fun ds _ M2 => .ok (d :: ds) M2) h1).imp fun vs H2 ⟨ds, ρ, M, τ, s, l, q⟩ =>
      q ρ H2 .me s.rel (v :: vs) (DenL.cons_iff.mpr ⟨v, vs, rfl, s.car (d, v) (by simp), l (ds, vs) (by simp)⟩)
/-- a call by names alone -/
theorem mp_callK0 (π : List Nat) (Fn : FnOk X.prog X.w X.K X.mg X.base (L2N.CX X.prog X.w) k f fd ps (spI X.K T ps.length F)) (hr : Room k X.A) (hg : Gl X x) (hm : X.mg x = some (.ref f)) (hk : PySem.W.keepIn X.K (.ref f) = true) (hb : KB0 X.K fd ps ks π) (tk : L2N.Takes X W)
    (hkw : PK X kws (tA X.K T W g)) (hall : (backToKw pos (keywordEach kws X.env)).all (·.1.isSome) = true := by rfl) (hks : (backToKw pos (keywordEach kws X.env)).filterMap (·.1) = ks := by rfl)
    (hdb : (x == ("__debug__" : Str)) = false := by decide) (hpl : ((backTo pos (starEach [] X.env)).any (·.1) || (backToKw pos (keywordEach kws X.env)).any (·.1.isNone)) = false := by rfl) :
    PE X (.Call (.Name x p) [] kws pos) (tE X.K T W (eCall (fun ds M => lenF ps.length (fun ds M => lenF ps.length F (permL π ds) M) ds M) g)) := by
  refine ⟨fun pins s σ H Q I h => ?_⟩
  refine wpAny_Call_Name_kw (ld_glob I hg hm ?_ hdb)
  refine PySem.W.callWith_KW0 (h₀ := X.base) I.ok.mod.kin hk hall ?_ hpl
  refine thn (hkw.run pos pins s σ H _ I (At.bindA (g := fun ds _ M => lenF ps.length (fun ds M => lenF ps.length F (permL π ds) M) ds M) h)) fun ws s2 ⟨zs, H2, I2, rz, ds, ρ, M, τ, sg, l, q⟩ => ⟨I2.kIn, ?_⟩
  rw [hks]
  have hl2 := l (ds, zs) (by simp)
  dsimp only [lenF] at q
  by_cases hl : ds.length = ps.length
  · rw [if_pos hl] at q
    by_cases hl3 : (permL π ds).length = ps.length
    · rw [if_pos hl3] at q
      obtain ⟨hz, hB⟩ := hb s2 ws I2.kIn (by rw [← rz.length, ← hl2.length]; exact hl)
      refine wpAny_call (codeAny_mono (Fn.run X.A X.stack s2 H2 ⟨[], ks.zip ws⟩ (permL π ws) (permL π zs) Q (WE W σ) hr I2.env0 hB (vals_perm rz π) ⟨ρ, M, permL π ds, hl3, sg.rel, denL_perm hl2 π, ?_⟩) fun r s' hq => ?_)
      · cases h : F (permL π ds) M with
        | ok d M' => rw [h] at q; exact q
        | exn C fs M' => rw [h] at q; exact q
        | bad => rw [h] at q; exact q
      · cases r with
        | error e => exact L2N.passAt tk σ pins H2 s2 e s' I2 hq
        | ok fl =>
          cases fl with
          | ret u => exact I2.after hq
          | next => exact False.elim hq
          | brk => exact False.elim hq
          | cont => exact False.elim hq
    · rw [if_neg hl3] at q; exact q.elim
  · rw [if_neg hl] at q; exact q.elim
end
end Mp

set_option Elab.async false
set_option linter.all false
set_option maxRecDepth 100000
set_option maxHeartbeats 2000000
/-! Zx2: zip of two sequences, walked -/
namespace Zx
open PySem PySem.Spec PyProof.Rows L2
def Sq (t : Bool) (K : PySem.W.Frag) (H : Hp) (a : Addr) (xs : List V) : Prop := if t = true then SqT K H a xs else SqL K H a xs
def ItzX (t1 t2 : Bool) (K : PySem.W.Frag) (a b : Addr) : It :=
  ⟨fun i H => ∃ (xs ys : List V) (x y : V), Sq t1 K H a xs ∧ Sq t2 K H b ys ∧ xs[i]? = some x ∧ ys[i]? = some y,
    fun i H v H' => ∃ T x y, v = .ref T ∧ H T = none ∧ H' = upd H T (.tup [x, y]) ∧ (∀ xs, Sq t1 K H a xs → xs[i]? = some x) ∧ ∀ ys, Sq t2 K H b ys → ys[i]? = some y,
    fun i H => ∃ xs ys : List V, Sq t1 K H a xs ∧ Sq t2 K H b ys ∧ (xs.length ≤ i ∨ ys.length ≤ i)⟩
section
variable {X : Cx} {pins : List (Addr × Obj)} {σ : L2.St} {H : Hp} {s : Shared} {a : Addr} {xs ys : List V} {t : Bool}
theorem inv_src (I : Inv X pins σ H s) (h : Sq t X.K H a xs) : ∃ its : List Value, Vals xs its ∧ Src t s.heap a its.toArray := by
  cases t with
  | true => obtain ⟨its, rv, p, _⟩ := I.tuple (show SqT X.K H a xs from h); exact ⟨its, rv, p⟩
  | false => obtain ⟨its, rv, p, _⟩ := I.list (show SqL X.K H a xs from h); exact ⟨its, rv, p.isList⟩
theorem inv_inj (I : Inv X pins σ H s) (h : Sq t X.K H a xs) (h' : Sq t X.K H a ys) : xs = ys := by
  cases t with
  | true => exact I.tuple_inj h h'
  | false => exact I.list_inj h h'
end
theorem turn {P : Program} {w : World} {K : PySem.W.Frag} {elts : List Expr} {kk : Nat} {tpos : Pos} {t1 t2 : Bool} {a b z TI TO i1 i2 : Addr} (D : ZipApart z TI TO i1 i2 a b) :
    Turn P w K (.Tuple elts kk tpos) (ItzX t1 t2 K a b) [z, TI, TO, i1, i2] z (fun i h => IsZip h z TI TO .none ∧ IsPair h TI (.ref i1) (.ref i2) ∧ (∃ x y, IsPair h TO x y) ∧ SIt t1 h i1 a i ∧ SIt t2 h i2 b i) where
  mem := by simp
  obj := fun i h st c hc => by
    obtain ⟨hz, hTI, ⟨x, y, hTO⟩, h1, h2⟩ := st
    have e' : c = z ∨ c = TI ∨ c = TO ∨ c = i1 ∨ c = i2 := by simpa using hc
    rcases e' with q | q | q | q | q
    · rw [q]; exact ⟨_, hz, fun v q => nomatch q⟩
    · rw [q]; exact ⟨_, hTI, fun v q => nomatch q⟩
    · rw [q]; exact ⟨_, hTO, fun v q => nomatch q⟩
    · rw [q]; exact h1.get
    · rw [q]; exact h2.get
  keep := fun i h h' st k => by
    obtain ⟨hz, hTI, ⟨x, y, hTO⟩, h1, h2⟩ := st
    exact ⟨k z (by simp) _ hz, k TI (by simp) _ hTI, ⟨x, y, k TO (by simp) _ hTO⟩, h1.at fun o q => k i1 (by simp) o q, h2.at fun o q => k i2 (by simp) o q⟩
  item := by
    intro X hP hw hK hc i pins s σ H E I hf st hg
    subst hP hw hK
    obtain ⟨hz, hTI, ⟨x0, y0, hTO⟩, h1, h2⟩ := st
    obtain ⟨xs, ys, x, y, hqx, hqy, hx, hy⟩ := hg
    obtain ⟨its, rv, p⟩ := inv_src I hqx
    obtain ⟨its2, rv2, p2⟩ := inv_src I hqy
    obtain ⟨u, hu, ru⟩ := rv.get hx
    obtain ⟨u2, hu2, ru2⟩ := rv2.get hy
    have hzl : z < s.heap.objs.size := Heap.lt_size hz
    refine pyNext_item D hz hTI hTO h1 h2 p p2 (x := u) (y := u2) (by simpa using hu) (by simpa using hu2) fun h' z' TO' h1' h2' hT hsz hk => ?_
    refine ⟨_, rfl, wpAny_letOwnedTupleGo_zip (s := { s with heap := h' }) z' fun h'' z'' sb => ?_⟩
    have hT2 : h''.get? s.heap.objs.size = some { cls := .type "tuple", data := .seq #[u, u2] } := (sb.2 _ (Nat.ne_of_gt hzl)).trans hT
    have new : ObjOk X.prog X.w (upd H s.heap.objs.size (.tup [x, y])) h'' s.heap.objs.size (.tup [x, y]) :=
      ⟨by show 2 ≤ sizeLine; decide, [u, u2], .cons ru (.cons ru2 .nil), ⟨_, hT2, rfl, _, rfl⟩⟩
    have I1 : Inv X pins σ (upd H s.heap.objs.size (.tup [x, y])) { s with heap := h'' } :=
      I.turnedNew (t' := s.toks) (ch := [z, TI, TO, i1, i2]) (fun c o hb q => (sb.2 c (fun q' => hb (by simp [q']))).trans (hk c o (fun q' => hb (by simp [q'])) (fun q' => hb (by simp [q'])) (fun q' => hb (by simp [q'])) (fun q' => hb (by simp [q'])) q)) hf (Nat.le_refl _) new
    refine ⟨.ref s.heap.objs.size, _, I1, rfl, ⟨_, x, y, rfl, I.hok.fresh (Nat.le_refl _), rfl, fun l hl => by rw [inv_inj I hl hqx]; exact hx, fun l hl => by rw [inv_inj I hl hqy]; exact hy⟩, ⟨z'', ?_, ⟨u, u2, ?_⟩, ?_, ?_⟩, fun c hcm => ?_⟩
    · exact (sb.2 _ D.TIz).trans (hk _ _ D.TIz D.TITO D.TIi1 D.TIi2 hTI)
    · exact (sb.2 _ D.TOz).trans TO'
    · exact h1'.at fun o q => (sb.2 _ D.i1z).trans q
    · exact h2'.at fun o q => (sb.2 _ D.i2z).trans q
    · have hlt : c < s.heap.objs.size := by
        have e' : c = z ∨ c = TI ∨ c = TO ∨ c = i1 ∨ c = i2 := by simpa using hcm
        rcases e' with q | q | q | q | q
        · rw [q]; exact hzl
        · rw [q]; exact Heap.lt_size hTI
        · rw [q]; exact Heap.lt_size hTO
        · rw [q]; obtain ⟨_, e1, _⟩ := h1.get; exact Heap.lt_size e1
        · rw [q]; obtain ⟨_, e2, _⟩ := h2.get; exact Heap.lt_size e2
      rw [upd_ne (Nat.ne_of_lt hlt)]
      exact (hf c hcm).1
  done := by
    intro X hP hw hK hc i pins s σ H E I hf st hg
    subst hP hw hK
    obtain ⟨hz, hTI, ⟨x0, y0, hTO⟩, h1, h2⟩ := st
    obtain ⟨xs, ys, hqx, hqy, hend⟩ := hg
    obtain ⟨its, rv, p⟩ := inv_src I hqx
    obtain ⟨its2, rv2, p2⟩ := inv_src I hqy
    have l1 := rv.length
    have l2 := rv2.length
    have he : its.toArray[i]? = none ∨ its2.toArray[i]? = none := by
      rcases hend with q | q
      · exact .inl (by simp; omega)
      · exact .inr (by simp; omega)
    exact pyNext_end (I.ok.hd hc) D hz hTI hTO h1 h2 p p2 he fun h' hk => ⟨rfl, I.turnedL (t' := s.toks) (ch := [z, TI, TO, i1, i2]) (fun c o hb q =>
      hk c o (fun q' => hb (by simp [q'])) (fun q' => hb (by simp [q'])) (fun q' => hb (by simp [q'])) (fun q' => hb (by simp [q'])) q) hf⟩
  self := fun A i s Q E st h => wpAny_pyIter_zip st.1 h
def iZipX (K : PySem.W.Frag) (ta : TA) : TI := fun σ H R => ta σ H fun vs H1 => ∃ a b xs ys t1 t2, vs = [.ref a, .ref b] ∧ Sq t1 K H1 a xs ∧ Sq t2 K H1 b ys ∧ R (ItzX t1 t2 K a b) H1
theorem pi_zipX {X : Cx} {e e2 : Expr} {ta : TA} {p pos tpos : Pos} {elts : List Expr} {kk : Nat} (hg : Gl X "zip") (hm : X.mg "zip" = none) (ha : PA X [e, e2] ta)
    (hs : starEach [e, e2] X.env = (false, eval e X.env) :: starEach [e2] X.env := by rfl) (hpl : (backTo pos (starEach [e2] X.env)).any (·.1) = false := by rfl) :
    PI X (.Tuple elts kk tpos) (.Call (.Name "zip" p) [e, e2] [] pos) (iZipX X.K ta) := by
  refine ⟨fun pins s σ H R I h => ?_⟩
  refine Call_ (ld_blt I hg hm PyProof.Rows.boot_zip (PyProof.Rows.callWith_type1 (thn (ha.run pos pins s σ H _ I h) fun us s1 ⟨vs, H1, I1, r1, q1⟩ => ?_) hs hpl))
  obtain ⟨a, b, xs, ys, t1, t2, ex, hqx, hqy, q⟩ := q1
  subst ex
  cases r1 with
  | cons r rr =>
    cases rr with
    | cons r' rr =>
      cases rr
      cases r
      cases r'
      have fresh5 : ∀ c, c ∈ [s1.heap.objs.size + 4, s1.heap.objs.size + 2, s1.heap.objs.size + 3, s1.heap.objs.size, s1.heap.objs.size + 1] → FpOk X pins H1 c := fun c hcm => by
        have e' : c = s1.heap.objs.size + 4 ∨ c = s1.heap.objs.size + 2 ∨ c = s1.heap.objs.size + 3 ∨ c = s1.heap.objs.size ∨ c = s1.heap.objs.size + 1 := by simpa using hcm
        have hle : s1.heap.objs.size ≤ c := by
          rcases e' with z | z | z | z | z
          · rw [z]; exact Nat.le_add_right _ _
          · rw [z]; exact Nat.le_add_right _ _
          · rw [z]; exact Nat.le_add_right _ _
          · rw [z]; exact Nat.le_refl _
          · rw [z]; exact Nat.le_add_right _ _
        exact I1.fpOk hle (I1.hok.fresh hle)
      obtain ⟨its, rv, p1⟩ := inv_src I1 hqx
      obtain ⟨its2, rv2, p2⟩ := inv_src I1 hqy
      refine call_new p1 p2 fun h' hz hTI hTO h1 h2 hsz hk => wpAny_pyIter_zip hz ?_
      have I2 : Inv X pins σ H1 { s1 with heap := h' } := I1.kept (t' := s1.toks) hk
      exact ⟨s1.heap.objs.size + 4, [s1.heap.objs.size + 4, s1.heap.objs.size + 2, s1.heap.objs.size + 3, s1.heap.objs.size, s1.heap.objs.size + 1], _, _, H1, rfl, I2, turn (PySem.W.ktu_apart s1.heap.objs.size a b p1.lt p2.lt), ⟨hz, hTI, ⟨_, _, hTO⟩, h1, h2⟩, fresh5, q⟩
end Zx
namespace Mp
open PySem PySem.Spec PyProof.Rows L2
/-- one side of a zip: a tuple's items, a list -/
inductive Sd where
  | tup (ds : List D)
  | lst (a : Nat)
def Sd.cur : Sd → Sto → Option (List D)
  | .tup ds, _ => some ds
  | .lst a, M => lstOf (.adr a) M
def sdOf (d : D) (M : Sto) : Option (Sd × Nat) := match d with
  | .tup ds => some (.tup ds, ds.length)
  | .adr a => (lstOf (.adr a) M).map fun xs => (.lst a, xs.length)
  | _ => none
def wZip (a b : Sd) (n : Nat) : Wk := ⟨n, fun i M => match (a.cur M).bind (·[i]?), (b.cur M).bind (·[i]?) with
    | some x, some y => some (.tup [x, y])
    | _, _ => none,
  fun M => match a.cur M, b.cur M with
    | some xs, some ys => decide (xs.length ≤ n) || decide (ys.length ≤ n)
    | _, _ => false⟩
def zip2 (d e : D) (M : Sto) : Res Wk := match sdOf d M, sdOf e M with
  | some (a, n), some (b, m) => .ok (wZip a b (min n m)) M
  | _, _ => .bad
def iZip (f g : FE) : Ev Wk := fun τ M => (f τ M).bind fun d M1 => (g τ M1).bind fun e M2 => zip2 d e M2
/-- a side stands in the heap -/
def Sd.Ok (K : PySem.W.Frag) (ρ : List Addr) (H : Hp) (t : Bool) (a : Addr) : Sd → Prop
  | .tup ds => t = true ∧ ∃ vs, SqT K H a vs ∧ DenL K H ρ ds vs
  | .lst n => t = false ∧ ρ[n]? = some a
section
variable {K : PySem.W.Frag} {T : Tb} {ρ : List Addr} {M : Sto} {H : Hp} {W : WX}
theorem Sd.now {sd : Sd} {t : Bool} {a : Addr} {ρ1 : List Addr} {H1 : Hp} {M1 : Sto} {ds : List D} (h : sd.Ok K ρ H t a) (x : Ext ρ H ρ1 H1) (R : Rel K T ρ1 M1 H1) (e : sd.cur M1 = some ds) : ∃ vs, Zx.Sq t K H1 a vs ∧ DenL K H1 ρ1 ds vs := by
  cases sd with
  | tup es =>
    obtain ⟨rfl, vs, h1, h2⟩ := h
    simp only [Sd.cur, Option.some.injEq] at e
    subst e
    exact ⟨vs, x.sqT h1, DenL.mono x _ h2⟩
  | lst n =>
    obtain ⟨rfl, h1⟩ := h
    obtain ⟨vs, h2, h3⟩ := R.lstOf' e (pre_get x.pre h1)
    exact ⟨vs, h2, h3⟩
theorem wk_zip {a b : Addr} {s1 s2 : Sd} {t1 t2 : Bool} {n : Nat} (h1 : s1.Ok K ρ H t1 a) (h2 : s2.Ok K ρ H t2 b) : WkS K T ρ H (Zx.ItzX t1 t2 K a b) (wZip s1 s2 n) := by
  intro ρ1 H1 M1 i x R
  refine ⟨fun d e hi => ?_, fun e => ?_⟩
  · simp only [wZip] at e
    split at e
    · next u v e1 e2 =>
      cases e
      obtain ⟨ds, c1, c2⟩ := Option.bind_eq_some_iff.mp e1
      obtain ⟨es, c3, c4⟩ := Option.bind_eq_some_iff.mp e2
      obtain ⟨vs, q1, l1⟩ := Sd.now h1 x R c1
      obtain ⟨us, q2, l2⟩ := Sd.now h2 x R c3
      obtain ⟨x1, g1, k1⟩ := l1.get c2
      obtain ⟨x2, g2, k2⟩ := l2.get c4
      refine ⟨⟨vs, us, x1, x2, q1, q2, g1, g2⟩, fun y H' ⟨Tt, y1, y2, e3, hn, e4, f1, f2⟩ => ?_⟩
      subst e3 e4
      have z1 := f1 vs q1
      have z2 := f2 us q2
      rw [g1] at z1; cases z1
      rw [g2] at z2; cases z2
      obtain ⟨r2, x2'⟩ := R.other (u := .tup [x1, x2]) hn
      exact ⟨ρ1, x2', r2, den_new_tup hn (DenL.cons_iff.mpr ⟨x1, [x2], rfl, k1, DenL.cons_iff.mpr ⟨x2, [], rfl, k2, DenL.nil_iff.mpr rfl⟩⟩)⟩
    · cases e
  · simp only [wZip] at e
    split at e
    · next ds es c1 c3 =>
      obtain ⟨vs, q1, l1⟩ := Sd.now h1 x R c1
      obtain ⟨us, q2, l2⟩ := Sd.now h2 x R c3
      refine ⟨vs, us, q1, q2, ?_⟩
      rw [← l1.length, ← l2.length]
      show ds.length ≤ n ∨ es.length ≤ n
      simpa using e
    · cases e
theorem sdOf_ok {d : D} {v : V} {sd : Sd} {n : Nat} (R : Rel K T ρ M H) (h : Den K H ρ d v) (e : sdOf d M = some (sd, n)) : ∃ a t vs, v = .ref a ∧ sd.Ok K ρ H t a ∧ Zx.Sq t K H a vs := by
  cases d with
  | tup ds =>
    simp only [sdOf, Option.some.injEq, Prod.mk.injEq] at e
    obtain ⟨rfl, rfl⟩ := e
    obtain ⟨a, vs, rfl, h1, h2⟩ := den_tup.mp h
    exact ⟨a, true, vs, rfl, ⟨rfl, vs, h1, h2⟩, h1⟩
  | adr m =>
    simp only [sdOf, Option.map_eq_some_iff, Prod.mk.injEq] at e
    obtain ⟨xs, e1, rfl, rfl⟩ := e
    obtain ⟨a, h1, rfl⟩ := den_adr.mp h
    obtain ⟨vs, h2, _⟩ := R.lstOf' e1 h1
    exact ⟨a, false, vs, rfl, ⟨rfl, h1⟩, h2⟩
  | _ => simp [sdOf] at e
end
section
variable {X : Cx} {T : Tb} {W : WX} {e e2 : Expr} {f f2 : FE} {p pos tpos : Pos} {elts : List Expr} {kk : Nat}
theorem mi_zip (hg : Gl X "zip") (hm : X.mg "zip" = none) (he : PE X e (tE X.K T W f)) (he2 : PE X e2 (tE X.K T W f2))
    (hs : starEach [e, e2] X.env = (false, eval e X.env) :: starEach [e2] X.env := by rfl) (hs2 : starEach [e2] X.env = (false, eval e2 X.env) :: starEach [] X.env := by rfl) (hpl : (backTo pos (starEach [e2] X.env)).any (·.1) = false := by rfl) :
    PI X (.Tuple elts kk tpos) (.Call (.Name "zip" p) [e, e2] [] pos) (tI X.K T W (iZip f f2)) :=
  (Zx.pi_zipX hg hm (pa_cons he (pa_cons he2 pa_nil hs2) hs) hs hpl).weak fun σ H R h =>
    (At.bindE (g := fun d τ M1 => (f2 τ M1).bind fun e M2 => zip2 d e M2) h).imp fun v H1 ⟨d, h1⟩ =>
    (At.bindE (g := fun e τ M2 => zip2 d e M2) h1).imp fun v2 H2 ⟨d2, ρ, M, τ, s, q⟩ => by
      have hd := s.car (d, v) (by simp)
      have hd2 := s.car (d2, v2) (by simp)
      dsimp only [zip2] at q
      cases e1 : sdOf d M with
      | none => rw [e1] at q; exact q.elim
      | some p1 =>
        cases e3 : sdOf d2 M with
        | none => rw [e1, e3] at q; exact q.elim
        | some p2 =>
          obtain ⟨a1, n1⟩ := p1
          obtain ⟨a2, n2⟩ := p2
          rw [e1, e3] at q
          obtain ⟨a, t1, vs, rfl, o1, q1⟩ := sdOf_ok s.rel hd e1
          obtain ⟨b, t2, us, rfl, o2, q2⟩ := sdOf_ok s.rel hd2 e3
          exact ⟨a, b, vs, us, t1, t2, rfl, q1, q2, q ρ H2 .me s.rel _ (wk_zip o1 o2)⟩
end
end Mp

set_option Elab.async false
set_option linter.all false
set_option maxRecDepth 100000
set_option maxHeartbeats 2000000
/-! Mp11: all, any, tuple of a generator expression -/
namespace Mp
open PySem PySem.Spec PyProof.Rows L2
section
variable {K : PySem.W.Frag} {T : Tb} {ρ : List Addr} {M : Sto} {H H' : Hp} {W : WX}
theorem Rel.tab {P : Addr} (R : Rel K T ρ M H) (hP0 : P ∈ T.gen) (h : GxR.Tabbed P H H') : Rel K T ρ M H' ∧ Ext ρ H ρ H' := by
  obtain ⟨ps, e0, _⟩ := R.gen P hP0
  have ne : ∀ b u, H b = some u → (∀ qs, u ≠ .tbl qs) → b ≠ P := fun b u e n z => by subst z; rw [e0] at e; cases e; exact n _ rfl
  have X : Ext ρ H ρ H' := ⟨List.prefix_refl _, fun b xs e => by rw [h.2 b (ne b _ e fun _ => HO.noConfusion)]; exact e, fun b o w e => by rw [h.2 b (ne b _ e fun _ => HO.noConfusion)]; exact e, fun b fs e => by rw [h.2 b (ne b _ e fun _ => HO.noConfusion)]; exact e⟩
  refine ⟨⟨R.len, R.nd, fun n o e => ?_, R.cl, fun Q hQ => ?_, fun p hp => ?_, R.dj⟩, X⟩
  · obtain ⟨c, e1, q⟩ := R.ob n o e
    obtain ⟨w, e2, _, nb, _⟩ := q.some
    exact ⟨c, e1, q.stay X (h.2 c (ne c _ e2 nb))⟩
  · by_cases z : Q = P
    · subst z; exact h.1
    · obtain ⟨qs, e, q⟩ := R.gen Q hQ
      exact ⟨qs, by rw [h.2 Q z]; exact e, q⟩
  · obtain ⟨qs, e, t, q⟩ := R.lam p hp
    exact ⟨qs, by rw [h.2 _ (R.dj P hP0 p hp)]; exact e, t, fun pos cv hc => by
      obtain ⟨c, e1, e2⟩ := q pos cv hc
      exact ⟨c, e1, by rw [h.2 c (ne c _ e2 fun _ => LamX.codeO_ne _)]; exact e2⟩⟩
end
def genLoop (all : Bool) (w : Wk) (t : Tg) (τ0 : Env) (tt : Ev Bool) (te : FE) : Nat → Nat → Sto → Res D
  | 0, _, M => if w.fin M = true then .ok (.bl all) M else .bad
  | k + 1, i, M => match w.it i M with
    | some d => match t.put d τ0 with
      | some τ1 => inB (tt τ1 M) fun b M1 => if b = true then inB (te τ1 M1) fun y M2 => match y with
          | .bl c => if c = all then genLoop all w t τ0 tt te k (i + 1) M2 else .ok (.bl !all) M2
          | _ => .bad
        else genLoop all w t τ0 tt te k (i + 1) M1
      | none => .bad
    | none => .bad
def eGen (all : Bool) (wi : Ev Wk) (t : Tg) (tt : Ev Bool) (te : FE) (vs : List Nat) : FE := fun τ M => (wi τ M).bind fun w M1 => if t.inn vs = true then genLoop all w t (wipeE τ vs) tt te w.n 0 M1 else .bad
def genTup (w : Wk) (t : Tg) (τ0 : Env) (tt : Ev Bool) (te : FE) : Nat → Nat → List D → Sto → Res D
  | 0, _, acc, M => if w.fin M = true then .ok (.tup acc) M else .bad
  | k + 1, i, acc, M => match w.it i M with
    | some d => match t.put d τ0 with
      | some τ1 => inB (tt τ1 M) fun b M1 => if b = true then inB (te τ1 M1) fun y M2 => genTup w t τ0 tt te k (i + 1) (acc ++ [y]) M2
        else genTup w t τ0 tt te k (i + 1) acc M1
      | none => .bad
    | none => .bad
def eGenT (wi : Ev Wk) (t : Tg) (tt : Ev Bool) (te : FE) (vs : List Nat) : FE := fun τ M => (wi τ M).bind fun w M1 => if t.inn vs = true ∧ w.n < 16777216 then genTup w t (wipeE τ vs) tt te w.n 0 [] M1 else .bad
section
variable {X : Cx} {T : Tb} {W : WX}
theorem tGenB_of {K : PySem.W.Frag} {P : Addr} (hP : P ∈ T.gen) (all : Bool) {wi : Ev Wk} {t : Tg} {tt : Ev Bool} {te : FE} {vs : List Nat} {σ : L2.St} {H : Hp} {Q : VK} (h : tE K T W (eGen all wi t tt te vs) σ H Q) :
    Gx.tGenB K P all (!all) (tI K T W wi) (tG K t) (tT K T W0 tt) (tE K T W0 te) vs σ H Q := by
  refine (At.bind (g := fun w τ M1 => if t.inn vs = true then genLoop all w t (wipeE τ vs) tt te w.n 0 M1 else .bad) h).elim fun ρ0 ⟨M0, τ0, s0, g0⟩ => ⟨ρ0, M0, τ0, s0, ?_⟩
  cases e0 : wi τ0 M0 with
  | bad => rw [e0] at g0; exact g0
  | exn C fs M1 => rw [e0] at g0; exact g0
  | ok w M1 =>
  rw [e0] at g0
  intro ρ1 H1 x1 rl J hJ
  obtain ⟨s1, q1⟩ := g0 ρ1 H1 x1 rl M1 rl rfl
  by_cases ht : t.inn vs = true
  · rw [if_pos ht] at q1
    refine ⟨rl.gen P hP, fun H2 hT => ?_⟩
    obtain ⟨r2, x2⟩ := rl.tab hP hT
    have he : DenE K H2 ρ1 (wipeE τ0 vs) (wipe σ vs) := (s1.env.mono x2).wipe vs
    refine ⟨fun i m H3 => i + m = w.n ∧ ∃ ρ2 M2, Ext ρ1 H2 ρ2 H3 ∧ Rel K T ρ2 M2 H3 ∧ Good K T W σ ρ2 H3 (RE K Q) (genLoop all w t (wipeE τ0 vs) tt te m i M2), ⟨w.n, by omega, _, _, .me, r2, Good.mono x2 q1⟩, ?_⟩
    rintro i m H3 ⟨hn, ρ2, M2, y2, rl2, q2⟩
    obtain ⟨g1, g2⟩ := hJ ρ2 H3 M2 i (x2.trans y2) rl2
    cases m with
    | zero =>
      unfold genLoop at q2
      by_cases hf : w.fin M2 = true
      · rw [if_pos hf] at q2
        have hi : i = w.n := by omega
        subst hi
        exact .inl ⟨g2 hf, q2 ρ2 H3 .me rl2 _ (den_bl.mpr rfl)⟩
      · rw [if_neg hf] at q2; exact q2.elim
    | succ k =>
      unfold genLoop at q2
      cases hd : w.it i M2 with
      | none => rw [hd] at q2; exact q2.elim
      | some d =>
        rw [hd] at q2
        dsimp only at q2
        obtain ⟨go, yl⟩ := g1 d hd (by omega)
        refine .inr ⟨go, fun H' => (i + 1) + k = w.n ∧ ∃ ρ2 M2, Ext ρ1 H2 ρ2 H' ∧ Rel K T ρ2 M2 H' ∧ Good K T W σ ρ2 H' (RE K Q) (genLoop all w t (wipeE τ0 vs) tt te k (i + 1) M2), fun H' h => ⟨k, Nat.lt_succ_self k, h⟩, fun v H' hy => ?_⟩
        obtain ⟨ρ3, x3, r3, hv⟩ := yl v H' hy
        cases hp : t.put d (wipeE τ0 vs) with
        | none => rw [hp] at q2; exact q2.elim
        | some τ3 =>
          rw [hp] at q2
          dsimp only at q2
          refine ⟨ρ3, d, wipeE τ0 vs, τ3, he.mono (y2.trans x3), hv, hp, fun σ3 e3 k3 => ⟨(k3 vs ht).trans wipe_wipe, ρ3, M2, τ3, sg0 r3 e3, ?_⟩⟩
          refine good_inB (Good.mono x3 q2) fun b M4 ρ4 H4 x4 r4 q4 => ?_
          cases b with
          | false =>
            simp only [RB, Bool.false_eq_true, if_false] at q4 ⊢
            exact ⟨by omega, ρ4, M4, (y2.trans x3).trans x4, r4, q4⟩
          | true =>
            simp only [RB, if_true] at q4 ⊢
            refine ⟨ρ4, M4, τ3, sg0 r4 (e3.mono x4), good_inB q4 fun y M5 ρ5 H5 x5 r5 q5 u hu => ?_⟩
            cases y with
            | bl c =>
              rw [den_bl] at hu
              refine ⟨c, hu, ?_⟩
              dsimp only at q5
              by_cases hc : c = all
              · rw [if_pos hc] at q5 ⊢
                exact ⟨by omega, ρ5, M5, ((y2.trans x3).trans x4).trans x5, r5, q5⟩
              · rw [if_neg hc] at q5 ⊢
                exact q5 ρ5 H5 .me r5 _ (den_bl.mpr rfl)
            | _ => exact q5.elim
  · rw [if_neg ht] at q1; exact q1.elim
theorem tGenT_of {K : PySem.W.Frag} {P : Addr} (hP : P ∈ T.gen) {wi : Ev Wk} {t : Tg} {tt : Ev Bool} {te : FE} {vs : List Nat} {σ : L2.St} {H : Hp} {Q : VK} (h : tE K T W (eGenT wi t tt te vs) σ H Q) :
    Gx.tGenTup K P (tI K T W wi) (tG K t) (tT K T W0 tt) (tE K T W0 te) vs σ H Q := by
  refine (At.bind (g := fun (w : Wk) (τ : Env) (M1 : Sto) => if t.inn vs = true ∧ w.n < 16777216 then genTup w t (wipeE τ vs) tt te w.n 0 [] M1 else .bad) h).elim fun ρ0 ⟨M0, τ0, s0, g0⟩ => ⟨ρ0, M0, τ0, s0, ?_⟩
  cases e0 : wi τ0 M0 with
  | bad => rw [e0] at g0; exact g0
  | exn C fs M1 => rw [e0] at g0; exact g0
  | ok w M1 =>
  rw [e0] at g0
  intro ρ1 H1 x1 rl J hJ
  obtain ⟨s1, q1⟩ := g0 ρ1 H1 x1 rl M1 rl rfl
  by_cases ht : t.inn vs = true ∧ w.n < 16777216
  · rw [if_pos ht] at q1
    refine ⟨rl.gen P hP, fun H2 hT => ?_⟩
    obtain ⟨r2, x2⟩ := rl.tab hP hT
    have he : DenE K H2 ρ1 (wipeE τ0 vs) (wipe σ vs) := (s1.env.mono x2).wipe vs
    refine ⟨fun i m ys H3 => i + m = w.n ∧ ∃ ρ2 M2 acc, Ext ρ1 H2 ρ2 H3 ∧ Rel K T ρ2 M2 H3 ∧ DenL K H3 ρ2 acc ys ∧ Good K T W σ ρ2 H3 (RE K Q) (genTup w t (wipeE τ0 vs) tt te m i acc M2),
      ⟨w.n, by unfold sizeLine; exact ht.2, by omega, _, _, [], .me, r2, DenL.nil_iff.mpr rfl, Good.mono x2 q1⟩, ?_⟩
    rintro i m ys H3 ⟨hn, ρ2, M2, acc, y2, rl2, la, q2⟩
    obtain ⟨g1, g2⟩ := hJ ρ2 H3 M2 i (x2.trans y2) rl2
    cases m with
    | zero =>
      unfold genTup at q2
      by_cases hf : w.fin M2 = true
      · rw [if_pos hf] at q2
        have hi : i = w.n := by omega
        subst hi
        exact .inl ⟨g2 hf, new_tup rl2 la q2⟩
      · rw [if_neg hf] at q2; exact q2.elim
    | succ k =>
      unfold genTup at q2
      cases hd : w.it i M2 with
      | none => rw [hd] at q2; exact q2.elim
      | some d =>
        rw [hd] at q2
        dsimp only at q2
        obtain ⟨go, yl⟩ := g1 d hd (by omega)
        refine .inr ⟨go, fun ys H' => (i + 1) + k = w.n ∧ ∃ ρ2 M2 acc, Ext ρ1 H2 ρ2 H' ∧ Rel K T ρ2 M2 H' ∧ DenL K H' ρ2 acc ys ∧ Good K T W σ ρ2 H' (RE K Q) (genTup w t (wipeE τ0 vs) tt te k (i + 1) acc M2), fun ys H' h => ⟨k, Nat.lt_succ_self k, h⟩, fun v H' hy => ?_⟩
        obtain ⟨ρ3, x3, r3, hv⟩ := yl v H' hy
        cases hp : t.put d (wipeE τ0 vs) with
        | none => rw [hp] at q2; exact q2.elim
        | some τ3 =>
          rw [hp] at q2
          dsimp only at q2
          refine ⟨ρ3, d, wipeE τ0 vs, τ3, he.mono (y2.trans x3), hv, hp, fun σ3 e3 k3 => ⟨(k3 vs ht.1).trans wipe_wipe, ρ3, M2, τ3, sg0 r3 e3, ?_⟩⟩
          refine good_inB (Good.mono x3 q2) fun b M4 ρ4 H4 x4 r4 q4 => ?_
          cases b with
          | false =>
            simp only [RB, Bool.false_eq_true, if_false] at q4 ⊢
            exact ⟨by omega, ρ4, M4, acc, (y2.trans x3).trans x4, r4, DenL.mono (x3.trans x4) _ la, q4⟩
          | true =>
            simp only [RB, if_true] at q4 ⊢
            refine ⟨ρ4, M4, τ3, sg0 r4 (e3.mono x4), good_inB q4 fun y M5 ρ5 H5 x5 r5 q5 u hu => ?_⟩
            exact ⟨by omega, ρ5, M5, acc ++ [y], ((y2.trans x3).trans x4).trans x5, r5, (DenL.mono ((x3.trans x4).trans x5) _ la).append (DenL.cons_iff.mpr ⟨u, [], rfl, hu, DenL.nil_iff.mpr rfl⟩), q5⟩
  · rw [if_neg ht] at q1; exact q1.elim
variable {c P : Addr} {elt tg iter : Expr} {ifs : List Expr} {scope : Scope} {own : List (Str × Nat)} {gpos p pos : Pos} {wi : Ev Wk} {t : Tg} {tt : Ev Bool} {te : FE} {k : Nat}
theorem mp_genall (hP : P ∈ T.gen) (hr : Room k X.A) (hc : X.calm = true) (hN : X.N.Nodup) (hgl : Gl X "all") (hm : X.mg "all" = none) (TB : GxR.TabB X.base X.mg c P) (hcode : X.env.code = .ref c) (ok : BlkOk X.N X.env.scope scope own) (ncell : ∀ y ∈ scope.names, y.2 ≠ .cell)
    (hco : scope.isCoroutine = false) (dot : scope.names.lookup (".0" : Str) = some NameKind.local) (hi : PI X tg iter (tI X.K T W wi))
    (hg : ∀ (s : Shared) (H : Hp) (C : Addr) (code : Value) (fp : List Addr), PG (Gx.gcx X X.A.in1.in1 s H (Gx.genv X scope C code builtinsNs) fp) tg (tG X.K t))
    (ht : ∀ (s : Shared) (H : Hp) (C : Addr) (code : Value) (fp : List Addr), PTs (Gx.gcx X X.A.in1.in1 s H (Gx.genv X scope C code builtinsNs) fp) ifs (tT X.K T W0 tt))
    (he : ∀ (s : Shared) (H : Hp) (C : Addr) (code : Value) (fp : List Addr), PE (Gx.gcx X X.A.in1.in1 s H (Gx.genv X scope C code builtinsNs) fp) elt (tE X.K T W0 te))
    (hs : ∀ v, genFold iter X.env v = pure v := by intro _; rfl)
    (hst : starEach [Gx.gex elt tg iter ifs scope gpos] X.env = (false, eval (Gx.gex elt tg iter ifs scope gpos) X.env) :: starEach [] X.env := by rfl) :
    PE X (.Call (.Name "all" p) [Gx.gex elt tg iter ifs scope gpos] [] pos) (tE X.K T W (eGen true wi t tt te (own.map (·.2)))) :=
  (Gx.pe_genall hr hc hN hgl hm TB hcode ok ncell hco dot hi hg ht he hs hst).weak fun _ _ _ h => tGenB_of hP true h
theorem mp_genany (hP : P ∈ T.gen) (hr : Room k X.A) (hc : X.calm = true) (hN : X.N.Nodup) (hgl : Gl X "any") (hm : X.mg "any" = none) (TB : GxR.TabB X.base X.mg c P) (hcode : X.env.code = .ref c) (ok : BlkOk X.N X.env.scope scope own) (ncell : ∀ y ∈ scope.names, y.2 ≠ .cell)
    (hco : scope.isCoroutine = false) (dot : scope.names.lookup (".0" : Str) = some NameKind.local) (hi : PI X tg iter (tI X.K T W wi))
    (hg : ∀ (s : Shared) (H : Hp) (C : Addr) (code : Value) (fp : List Addr), PG (Gx.gcx X X.A.in1.in1 s H (Gx.genv X scope C code builtinsNs) fp) tg (tG X.K t))
    (ht : ∀ (s : Shared) (H : Hp) (C : Addr) (code : Value) (fp : List Addr), PTs (Gx.gcx X X.A.in1.in1 s H (Gx.genv X scope C code builtinsNs) fp) ifs (tT X.K T W0 tt))
    (he : ∀ (s : Shared) (H : Hp) (C : Addr) (code : Value) (fp : List Addr), PE (Gx.gcx X X.A.in1.in1 s H (Gx.genv X scope C code builtinsNs) fp) elt (tE X.K T W0 te))
    (hs : ∀ v, genFold iter X.env v = pure v := by intro _; rfl)
    (hst : starEach [Gx.gex elt tg iter ifs scope gpos] X.env = (false, eval (Gx.gex elt tg iter ifs scope gpos) X.env) :: starEach [] X.env := by rfl) :
    PE X (.Call (.Name "any" p) [Gx.gex elt tg iter ifs scope gpos] [] pos) (tE X.K T W (eGen false wi t tt te (own.map (·.2)))) :=
  (Gx.pe_genany hr hc hN hgl hm TB hcode ok ncell hco dot hi hg ht he hs hst).weak fun _ _ _ h => tGenB_of hP false h
theorem mp_gentup (hP : P ∈ T.gen) (hr : Room k X.A) (hc : X.calm = true) (hN : X.N.Nodup) (hgl : Gl X "tuple") (hm : X.mg "tuple" = none) (TB : GxR.TabB X.base X.mg c P) (hcode : X.env.code = .ref c) (ok : BlkOk X.N X.env.scope scope own) (ncell : ∀ y ∈ scope.names, y.2 ≠ .cell)
    (hco : scope.isCoroutine = false) (dot : scope.names.lookup (".0" : Str) = some NameKind.local) (hi : PI X tg iter (tI X.K T W wi))
    (hg : ∀ (s : Shared) (H : Hp) (C : Addr) (code : Value) (fp : List Addr), PG (Gx.gcx X X.A.in1.in1.in1.in1 s H (Gx.genv X scope C code builtinsNs) fp) tg (tG X.K t))
    (ht : ∀ (s : Shared) (H : Hp) (C : Addr) (code : Value) (fp : List Addr), PTs (Gx.gcx X X.A.in1.in1.in1.in1 s H (Gx.genv X scope C code builtinsNs) fp) ifs (tT X.K T W0 tt))
    (he : ∀ (s : Shared) (H : Hp) (C : Addr) (code : Value) (fp : List Addr), PE (Gx.gcx X X.A.in1.in1.in1.in1 s H (Gx.genv X scope C code builtinsNs) fp) elt (tE X.K T W0 te))
    (hs : ∀ v, genFold iter X.env v = pure v := by intro _; rfl)
    (hst : starEach [Gx.gex elt tg iter ifs scope gpos] X.env = (false, eval (Gx.gex elt tg iter ifs scope gpos) X.env) :: starEach [] X.env := by rfl) :
    PE X (.Call (.Name "tuple" p) [Gx.gex elt tg iter ifs scope gpos] [] pos) (tE X.K T W (eGenT wi t tt te (own.map (·.2)))) :=
  (Gx.pe_genTuple hr hc hN hgl hm TB hcode ok ncell hco dot hi hg ht he hs hst).weak fun _ _ _ h => tGenT_of hP h
end
end Mp

set_option Elab.async false
set_option linter.all false
set_option maxRecDepth 100000
set_option maxHeartbeats 2000000
/-! Mp12: defs by their facts, constants, rooms -/
namespace Mp
open PySem PySem.Spec PyProof.Rows L2
abbrev st0 : Stmt := .Pass ⟨0, 0, 0, 0⟩
def fdK (K : PySem.W.Frag) (x : Str) : FuncData := match K.lookup (He.ga K x) with
  | some ⟨_, _, .func fd, _⟩ => fd
  | _ => PySem.W.fnOf x x (defArgs st0) [] (defScope st0) .none .none .none .none none .none .none
/-- a def of the module -/
structure DefC (K : PySem.W.Frag) (mg : Str → Option Value) (x : Str) (st : Stmt) : Prop where
  f : FunD K x x (defArgs st) (defBody st) (defScope st) [] [] (He.ga K x) (fdK K x)
  g : mg x = some (.ref (He.ga K x))
theorem defC_of {K : PySem.W.Frag} {mg : Str → Option Value} {x : Str} {st : Stmt} {fd : FuncData} (F : FunD K x x (defArgs st) (defBody st) (defScope st) [] [] (He.ga K x) fd) (g : mg x = some (.ref (He.ga K x))) : DefC K mg x st := by
  have e : fdK K x = fd := by
    obtain ⟨oc, od, dV, kV, doc, pm, an, cdv, ct, osl, _, l, _⟩ := F.ex
    unfold fdK
    rw [l]
  exact ⟨by rw [e]; exact F, g⟩
section
variable {P : Program} {w : World} {K : PySem.W.Frag} {mg : Str → Option Value} {base : Heap} {T : Tb}
theorem fn_mkD {x : Str} {st : Stmt} {N ps : List Str} {k : Nat} {fb : FS} (F : DefC K mg x st) (S : FnScope N ps (defScope st))
    (hb : ∀ (cdv : Value) (A : Around) (outer : List PySem.Env) (s : Shared) (H : Hp) (E : XK), (fdK K x).code = cdv → Room k (A.deeper (envOfC x (defScope st) s.heap.objs.size (He.ga K x) cdv)) →
      PSs (cxOf (L2N.CX P w) P w K mg base N x (defScope st) (He.ga K x) cdv A outer s H E) (defBody st) (tS K T (fun c d _ H' => E c d H') fb)) :
    FnOk P w K mg base (L2N.CX P w) (k + 1) (He.ga K x) (fdK K x) ps (spI K T ps.length (mdef N.length fb)) := by
  obtain ⟨oc, od, dV, kV, doc, pm, an, cdv, ct, osl, e, lk, hcd, _, _⟩ := F.f.ex
  rw [e] at lk ⊢
  exact fn_of lk hcd S (fun vs H Q E ⟨ρ, M, ds, hl, _, l, _⟩ => by rw [← l.length]; exact hl) fun A outer s H vs Q E hr ⟨ρ, M, ds, hl, rl, l, q⟩ =>
    ⟨_, hb cdv A outer s H E (by rw [e]) hr, ρ, M, startD N.length ds, sg0 rl (start_den l), endD_ok (fin_ok rl q)⟩
end
theorem DefC.kb0 {K : PySem.W.Frag} {mg : Str → Option Value} {x : Str} {st : Stmt} (F : DefC K mg x st) {ps ks : List Str} {π : List Nat}
    (h : ∀ (kV doc pm : Value) (an : Option Addr) (cdv ct : Value) (ws : List Value), ws.length = ps.length → (permL π ws).length = ps.length ∧ bindArgs (PySem.W.fnOf x x (defArgs st) (defBody st) (defScope st) .none kV doc pm an cdv ct) ⟨[], ks.zip ws⟩ = pure (ps.zip (permL π ws))) : KB0 K (fdK K x) ps ks π := by
  obtain ⟨oc, od, dV, kV, doc, pm, an, cdv, ct, osl, e, lk, hcd, hdv, _⟩ := F.f.ex
  have hd : dV = .none := by
    rcases hdv with ⟨_, z⟩ | ⟨z, _⟩
    · exact z
    · exact absurd rfl z
  subst hd
  intro s ws hK hl
  obtain ⟨h1, h2⟩ := h kV doc pm an cdv ct ws hl
  rw [e]
  exact ⟨h1, .of_eq h2⟩
section
variable {P : Program} {w : World} {K : PySem.W.Frag} {mg : Str → Option Value} {base : Heap} {T : Tb}
abbrev cA (K : PySem.W.Frag) (x : Str) : Addr := He.codeOf K (x, none)
abbrev pA (K : PySem.W.Frag) (x : Str) : Addr := He.tabOf K (cA K x)
/-- the def's code object and its table -/
structure TabC (K : PySem.W.Frag) (mg : Str → Option Value) (base : Heap) (T : Tb) (x : Str) : Prop where
  cd : (fdK K x).code = .ref (cA K x)
  mem : pA K x ∈ T.gen
  tb : GxR.TabB base mg (cA K x) (pA K x)
def dAddI : D → D → Sto → Res D := dI2 (fun _ _ => true) fun i j => i + j
theorem ipadd_s : IpS K T (ipI fun i j => i + j) dAddI := fun ρ M H x y dx dy Q W σ R d1 d2 q => i0_s (g := fun i j => i + j) ρ M H x y dx dy Q W σ R d1 d2 q
theorem ipsub_s : IpS K T (ipI fun i j => i - j) dSub := fun ρ M H x y dx dy Q W σ R d1 d2 q => i0_s (g := fun i j => i - j) ρ M H x y dx dy Q W σ R d1 d2 q
end
section
variable {X : Cx} {T : Tb} {W : WX} {pos : Pos} {x : Str}
theorem takes00 {X : Cx} : L2N.Takes X W0 := fun u s' ⟨_, _, _, _, _, _, _, _, _, _, _, _, _, _, _, _, w⟩ => w.elim
/-- a tuple of ints that the module names -/
theorem mp_constT {ns : List Int} {a : Addr} (hg : Gl X x) (hm : X.mg x = some (.ref a)) (hs : ∀ H, SqT X.K H a (ns.map V.int)) (hd : (x == ("__debug__" : Str)) = false := by decide) : PE X (.Name x pos) (tE X.K T W (eCon (.tup (ns.map D.int)))) :=
  mp_conE (v := .ref a) (pe_glob hg hm rfl hd) fun H ρ => den_tup.mpr ⟨a, ns.map V.int, rfl, hs H, by
    clear hs
    induction ns with
    | nil => exact DenL.nil_iff.mpr rfl
    | cons n r ih => exact DenL.cons_iff.mpr ⟨.int n, r.map V.int, rfl, den_int.mpr rfl, ih⟩⟩
theorem Room.gcx {k : Nat} {X : Cx} {s : Shared} {H : Hp} {env : PySem.Env} {fp : List Addr} (r : Room (k + 3) X.A) : Room k (Gx.gcx X X.A.in1.in1 s H env fp).A := ((r.in1).in1).deeper env
theorem Room.gcx4 {k : Nat} {X : Cx} {s : Shared} {H : Hp} {env : PySem.Env} {fp : List Addr} (r : Room (k + 5) X.A) : Room k (Gx.gcx X X.A.in1.in1.in1.in1 s H env fp).A := ((((r.in1).in1).in1).in1).deeper env
end
end Mp

set_option Elab.async false
set_option linter.all false
set_option maxRecDepth 100000
set_option maxHeartbeats 2000000
/-! Mp13: an own exception with two fields, raised -/
namespace Mp
open PySem PySem.Spec PyProof.Rows L2
section
variable {X : Cx} {o e : Expr} {es : List Expr} {to te : TE} {ta : TA} {f : Str} {p p' p1 p2 pos : Pos}
theorem pmk_oexN {CX : CXT} {x : Str} {C fI : Addr} {k : Nat} {fd : FuncData} {ps : List Str} {sp : Sp} {ds : List Value} {dvs : List V} (T : OexC X.K C) (iC : PySem.W.findIn X.K (.ref C) "__init__" = some (some (.ref fI))) (tI : PySem.W.typeIn X.K (.ref fI) = some (.type "function"))
    (F1 : FnOk X.prog X.w X.K X.mg X.base CX k fI fd ps sp) (hr : Room (k + 1) X.A) (hb : Binds X.K fd ps ds) (hd : Vals dvs ds) (hx : Passes CX X (fun _ _ _ => False)) (hg : Gl X x) (hm : X.mg x = some (.ref C)) (ha : PA X (e :: es) ta)
    (hdb : (x == ("__debug__" : Str)) = false := by decide) (he : starEach (e :: es) X.env = (false, eval e X.env) :: starEach es X.env := by rfl) (hpl : (backTo pos (starEach es X.env)).any (·.1) = false := by rfl) :
    L2N.PMk X (.Call (.Name x p) (e :: es) [] pos) (tMkO C sp dvs ta) := by
  intro pins s σ H Q I h
  obtain ⟨nm, q, N, bs, bm, sn, sub, ab, col, dd, k0, k1, k2, k3, k5, hC, hbm⟩ := T.cls
  refine wpAny_Call_Name_kw (ld_glob I hg hm ?_ hdb)
  refine PySem.W.callWith_K (h₀ := X.base) I.ok.mod.kin T.kC (thn (ha.run pos pins s σ H _ I h) fun us s1 ⟨vs, H1, I1, r1, hz, q1⟩ => ⟨I1.kIn, ?_⟩) he hpl
  show wpAny _ _ (call (.ref C) us) _ _ _
  obtain ⟨hp, g, dr, tk, os⟩ := s1
  have hsz : hp.objs.size ≤ hp.objs.size + 1 := Nat.le_succ _
  have hn : H1 (hp.objs.size + 1) = none := I1.hok.fresh hsz
  have hq := q1 (hp.objs.size + 1) hn
  have kk : ∀ b o, hp.get? b = some o → ((hp.push (PySem.W.kdv_tup us)).push (PySem.HandSPX.excO C hp.objs.size)).get? b = some o := fun b o e => Heap.get?_push_of_some _ (Heap.get?_push_of_some _ e)
  have hget : ((hp.push (PySem.W.kdv_tup us)).push (PySem.HandSPX.excO C hp.objs.size)).get? (hp.objs.size + 1) = some (PySem.HandSPX.excO C hp.objs.size) := by heap_get
  have I2 : Inv X pins σ (upd H1 (hp.objs.size + 1) (exo (hp.objs.size + 1) C none)) ⟨(hp.push (PySem.W.kdv_tup us)).push (PySem.HandSPX.excO C hp.objs.size), g, dr, tk, os⟩ :=
    I1.laid (t' := tk) (a := hp.objs.size + 1) (o := exo (hp.objs.size + 1) C none) (h' := (hp.push (PySem.W.kdv_tup us)).push (PySem.HandSPX.excO C hp.objs.size)) kk hsz (exo_ok hget)
  have r2 : Vals (V.ref (hp.objs.size + 1) :: (vs ++ dvs)) (Value.ref (hp.objs.size + 1) :: (us ++ ds)) := .cons rfl (r1.append hd)
  have hl : (Value.ref (hp.objs.size + 1) :: us ++ ds).length = ps.length := by
    have e := r2.length
    rw [F1.len _ _ _ _ hq] at e
    exact e.symm
  have hus : us.length ≤ sizeLine := by
    rw [← Paired.length r1, sizeLine_eq]
    omega
  refine wpAny_call (PySem.HandSPX.call_own F.excBase_ValueError (fun Y => PySem.HandSPX.refsVE_contains Y bm hbm) (I1.kIn _ _ hC) (PySem.W.looks_findIn I1.kIn iC) (fun self => PySem.W.bind_fn I1.kIn self tI) hus
    (codeAny_mono (F1.run _ X.stack _ _ ⟨Value.ref (hp.objs.size + 1) :: us, []⟩ (Value.ref (hp.objs.size + 1) :: (us ++ ds)) _ _ (fun _ _ _ => False) (hr.make C us []) (I2.env0.make C us []) (hb _ (Value.ref (hp.objs.size + 1) :: us) I2.kIn hl) r2 hq) fun r s' hq' => ?_))
  cases r with
  | error er => exact hx pins σ _ _ er s' I2 hq'
  | ok fl =>
    cases fl with
    | ret u =>
      obtain ⟨v, H2, os2, bare2, un2, hok2, rv, ev, d, fs, ea, ed, hd1, q2⟩ := hq'
      subst ev
      obtain ⟨h2, g2, d2, t2, os'⟩ := s'
      exact ⟨rv, by
        obtain ⟨t0, G, J, kG, ge, hoe, na⟩ := mk_end0 (d2 := d2) (t2 := t2) I1 hsz kk un2 hok2 os2 bare2 ea ed hd1
        exact ⟨_, _, _, ⟨G, g2, d2, t2, os'⟩, _, .ref C, some d, rfl, J, kG, ge, hoe, ⟨rfl, rfl, fun vs e => by cases e; rfl⟩, rfl, rfl, na, rfl, bare2, raises_own T.exC T.tyC, q2⟩⟩
    | next => exact False.elim hq'
    | brk => exact False.elim hq'
    | cont => exact False.elim hq'
end
/-- what __init__ does: two fields -/
def spI2 (C : Addr) (f1 f2 : Str) : Sp := fun vs H Q _ => ∃ (a : Addr) (y1 y2 : V), vs = [.ref a, y1, y2] ∧ H a = some (exo a C none) ∧
  ∀ d, H d = none → d ≠ a → Q .non (upd (upd (upd H d (exd d [(f1, y1)])) a (exo a C (some d))) d (exd d [(f2, y2), (f1, y1)]))
/-- an exception class with an own __init__ -/
structure ExC2 (K : PySem.W.Frag) (mg : Str → Option Value) (x q : Str) (st : Stmt) (f1 f2 : Str) : Prop where
  T : OexC K (He.ga K x)
  g : mg x = some (.ref (He.ga K x))
  iC : PySem.W.findIn K (.ref (He.ga K x)) "__init__" = some (some (.ref (He.ma K (He.ga K x) "__init__")))
  tI : PySem.W.typeIn K (.ref (He.ma K (He.ga K x) "__init__")) = some (.type "function")
  n1 : PySem.W.findIn K (.ref (He.ga K x)) f1 = some none
  n2 : PySem.W.findIn K (.ref (He.ga K x)) f2 = some none
  f : ∃ fd, FunD K "__init__" q (defArgs st) (defBody st) (defScope st) [] [] (He.ma K (He.ga K x) "__init__") fd
section
variable {P : Program} {w : World} {K : PySem.W.Frag} {mg : Str → Option Value} {base : Heap} {C fI : Addr} {qual f1 f2 p1 p2 : Str} {st : Stmt} {fd : FuncData}
theorem init_ok {a1 a2 b1 b2 v1 v2 q1 q2 : Pos} {k : Nat} (F : FunD K "__init__" qual (defArgs st) (defBody st) (defScope st) [] [] fI fd) (T : OexC K C) (n1 : PySem.W.findIn K (.ref C) f1 = some none) (n2 : PySem.W.findIn K (.ref C) f2 = some none)
    (S : FnScope ["self", p1, p2] ["self", p1, p2] (defScope st))
    (hb : defBody st = [.Assign [.Attribute (.Name "self" a1) f1 a2] (.Name p1 v1) q1, .Assign [.Attribute (.Name "self" b1) f2 b2] (.Name p2 v2) q2])
    (d1 : (p1 == ("__debug__" : Str)) = false := by decide) (c1 : (p1 == ("__classdict__" : Str)) = false := by decide) (d2 : (p2 == ("__debug__" : Str)) = false := by decide) (c2 : (p2 == ("__classdict__" : Str)) = false := by decide)
    (l0 : (defScope st).names.lookup ("self" : Str) = some NameKind.local := by rfl) (l1 : (defScope st).names.lookup p1 = some .local := by rfl) (l2 : (defScope st).names.lookup p2 = some .local := by rfl) :
    FnOk P w K mg base (L2N.CX P w) (k + 1) fI fd ["self", p1, p2] (spI2 C f1 f2) :=
  F.ok S (fun vs H Q E ⟨a, y1, y2, e, _⟩ => by rw [e]; rfl) fun cdv A outer s H vs Q E hr ⟨a, y1, y2, e, ha, q⟩ => by
    subst e
    rw [hb]
    refine ⟨_, pss_cons (ps_ost (pe_var (i := 0) rfl (.inl l0)) (pe_var (i := 1) rfl (.inl l1) d1 c1)) (pss_one (ps_ost (pe_var (i := 0) rfl (.inl l0)) (pe_var (i := 2) rfl (.inl l2) d2 c2))), ?_⟩
    refine ⟨y1, rfl, .ref a, rfl, a, C, rfl, T, n1, .inl ⟨ha, fun d hd ne => ?_⟩⟩
    refine ⟨y2, rfl, .ref a, rfl, a, C, rfl, T, n2, .inr ⟨d, [(f1, y1)], upd_same, ?_, by simp, q d hd ne⟩⟩
    rw [upd_ne ne, upd_same]
end
/-- raise C(x, y): the fields, the last one first -/
def sRaise (C : Addr) (nms : List Str) (g : Ev (List D)) : FS := liftE g fun ds τ M => if ds.length = nms.length then .ex C (nms.zip ds).reverse τ M else .bad
section
variable {X : Cx} {T : Tb} {W : WX} {pos p pos' : Pos} {x f1 f2 : Str} {e : Expr} {es : List Expr} {g : Ev (List D)} {C fI : Addr} {fd : FuncData} {ps : List Str} {k : Nat}
theorem liftE_A {K : PySem.W.Frag} {ρ : List Addr} {M : Sto} {H : Hp} {τ : Env} {σ : L2.St} {E : Ends} {c : List (D × V)} {k : List D → FS} {Q : List V → Hp → Prop} (s : Sg K T ρ M H τ σ c) (q : GoodS K T W ρ H E (liftE g k τ M))
    (h : ∀ ds vs M1 ρ1 H1, Ext ρ H ρ1 H1 → Sg K T ρ1 M1 H1 τ σ c → DenL K H1 ρ1 ds vs → GoodS K T W ρ1 H1 E (k ds τ M1) → Q vs H1) : tA K T W g σ H Q :=
  ⟨ρ, M, τ, s.none, good_of s q fun a M1 ρ1 H1 x s1 q1 vs hv => h a vs M1 ρ1 H1 x s1 hv q1⟩
theorem ms_raise2 (hc : X.calm = true) (tk : L2N.Takes X W) (To : OexC X.K C) (iC : PySem.W.findIn X.K (.ref C) "__init__" = some (some (.ref fI))) (tI : PySem.W.typeIn X.K (.ref fI) = some (.type "function"))
    (F1 : FnOk X.prog X.w X.K X.mg X.base (L2N.CX X.prog X.w) k fI fd ps (spI2 C f1 f2)) (hr : Room (k + 1) X.A) (hb : Binds X.K fd ps []) (hg : Gl X x) (hm : X.mg x = some (.ref C)) (ha : PA X (e :: es) (tA X.K T W g))
    (hdb : (x == ("__debug__" : Str)) = false := by decide) (he : starEach (e :: es) X.env = (false, eval e X.env) :: starEach es X.env := by rfl) (hpl : (backTo pos (starEach es X.env)).any (·.1) = false := by rfl) :
    PS X (.Raise (some (.Call (.Name x p) (e :: es) [] pos)) none pos') (tS X.K T W (sRaise C [f1, f2] g)) := by
  have hx : Passes (L2N.CX X.prog X.w) X (fun _ _ _ => False) := L2N.passes_call (W := fun _ _ _ _ => False) (fun u s' ⟨_, _, _, _, _, _, _, _, _, _, _, _, _, _, _, _, w⟩ => w.elim) (fun _ _ _ _ h => h)
  refine (L2N.ps_raise hc tk (pmk_oexN To iC tI F1 hr hb .nil hx hg hm ha hdb he hpl)).weak fun E σ H ⟨ρ, M, τ, s, q⟩ => ?_
  refine liftE_A s q fun ds vs M1 ρ1 H1 x1 s1 l q1 => ?_
  by_cases hl : ds.length = [f1, f2].length
  · rw [if_pos hl] at q1
    match ds, hl with
    | [d1, d2], _ =>
      obtain ⟨y1, y2, rfl, h1, h2⟩ := denL2 l
      refine ⟨by simp, fun a na => ⟨a, y1, y2, rfl, upd_same, fun d hd ne => ⟨rfl, d, [(f2, y2), (f1, y1)], ?_, upd_same, ?_, ?_⟩⟩⟩
      · rw [upd_ne (Ne.symm ne), upd_same]
      · rw [upd_ne ne] at hd; exact hd
      · have hd0 : H1 d = none := by rw [upd_ne ne] at hd; exact hd
        have eH : upd (del (upd (upd (upd (upd H1 a (exo a C none)) d (exd d [(f1, y1)])) a (exo a C (some d))) d (exd d [(f2, y2), (f1, y1)])) a) d (.xd [(f2, y2), (f1, y1)]) = upd H1 d (.xd [(f2, y2), (f1, y1)]) := by
          funext b
          by_cases hbd : b = d
          · subst hbd; rw [upd_same, upd_same]
          · rw [upd_ne hbd, upd_ne hbd]
            by_cases hba : b = a
            · subst hba; rw [del_same, na]
            · rw [del_ne hba, upd_ne hbd, upd_ne hba, upd_ne hbd, upd_ne hba]
        rw [eH]
        obtain ⟨r, y⟩ := s1.rel.other (u := .xd [(f2, y2), (f1, y1)]) hd0
        exact q1 ρ1 _ σ d _ y r (s1.env.mono y) upd_same ⟨rfl, DenL.cons_iff.mpr ⟨y2, [y1], rfl, Den.mono y _ h2, DenL.cons_iff.mpr ⟨y1, [], rfl, Den.mono y _ h1, DenL.nil_iff.mpr rfl⟩⟩⟩
  · rw [if_neg hl] at q1; exact q1.elim
end
end Mp

set_option Elab.async false
set_option linter.all false
set_option maxRecDepth 100000
set_option maxHeartbeats 2000000
/-! Mp14: all, any of a generator expression of two clauses -/
namespace Mp
open PySem PySem.Spec PyProof.Rows L2
def genIn (all : Bool) (w : Wk) (t : Tg) (τ0 : Env) (tt : Ev Bool) (te : FE) : Nat → Nat → Sto → (Sto → Res D) → Res D
  | 0, _, M, kk => if w.fin M = true then kk M else .bad
  | k + 1, i, M, kk => match w.it i M with
    | some d => match t.put d τ0 with
      | some τ1 => inB (tt τ1 M) fun b M1 => if b = true then inB (te τ1 M1) fun y M2 => match y with
          | .bl c => if c = all then genIn all w t τ0 tt te k (i + 1) M2 kk else .ok (.bl !all) M2
          | _ => .bad
        else genIn all w t τ0 tt te k (i + 1) M1 kk
      | none => .bad
    | none => .bad
def genOut (all : Bool) (w : Wk) (t : Tg) (τ0 : Env) (tt : Ev Bool) (wi1 : Ev Wk) (t1 : Tg) (vs1 : List Nat) (tt1 : Ev Bool) (te : FE) : Nat → Nat → Sto → Res D
  | 0, _, M => if w.fin M = true then .ok (.bl all) M else .bad
  | k + 1, i, M => match w.it i M with
    | some d => match t.put d τ0 with
      | some τ1 => inB (tt τ1 M) fun b M1 => if b = true then inB (wi1 τ1 M1) fun w1 M2 => if w1.n ≤ 16777216 then genIn all w1 t1 (wipeE τ1 vs1) tt1 te w1.n 0 M2 fun M3 => genOut all w t τ0 tt wi1 t1 vs1 tt1 te k (i + 1) M3 else .bad
        else genOut all w t τ0 tt wi1 t1 vs1 tt1 te k (i + 1) M1
      | none => .bad
    | none => .bad
def eGen2 (all : Bool) (wi : Ev Wk) (t : Tg) (tt : Ev Bool) (wi1 : Ev Wk) (t1 : Tg) (tt1 : Ev Bool) (te : FE) (vs vs1 : List Nat) : FE := fun τ M => (wi τ M).bind fun w M1 =>
  if t.inn vs = true ∧ t1.inn vs1 = true then genOut all w t (wipeE τ vs) tt wi1 t1 vs1 tt1 te w.n 0 M1 else .bad
section
variable {X : Cx} {T : Tb} {W : WX}
theorem tGenB2_of {K : PySem.W.Frag} {P : Addr} (hP : P ∈ T.gen) (all : Bool) {wi wi1 : Ev Wk} {t t1 : Tg} {tt tt1 : Ev Bool} {te : FE} {vs vs1 : List Nat} {σ : L2.St} {H : Hp} {Q : VK} (h : tE K T W (eGen2 all wi t tt wi1 t1 tt1 te vs vs1) σ H Q) :
    Gx.tGenB2 K P all (!all) (tI K T W wi) (tG K t) (tT K T W0 tt) (tI K T W0 wi1) (tG K t1) (tT K T W0 tt1) (tE K T W0 te) vs vs1 σ H Q := by
  refine (At.bind (g := fun (w : Wk) (τ : Env) (M1 : Sto) => if t.inn vs = true ∧ t1.inn vs1 = true then genOut all w t (wipeE τ vs) tt wi1 t1 vs1 tt1 te w.n 0 M1 else .bad) h).elim fun ρ0 ⟨M0, τ0, s0, g0⟩ => ⟨ρ0, M0, τ0, s0, ?_⟩
  cases e0 : wi τ0 M0 with
  | bad => rw [e0] at g0; exact g0
  | exn C fs M1 => rw [e0] at g0; exact g0
  | ok w M1 =>
  rw [e0] at g0
  intro ρ1 H1 x1 rl J hJ
  obtain ⟨s1, q1⟩ := g0 ρ1 H1 x1 rl M1 rl rfl
  by_cases ht : t.inn vs = true ∧ t1.inn vs1 = true
  · rw [if_pos ht] at q1
    refine ⟨rl.gen P hP, fun H2 hT => ?_⟩
    obtain ⟨r2, x2⟩ := rl.tab hP hT
    have he : DenE K H2 ρ1 (wipeE τ0 vs) (wipe σ vs) := (s1.env.mono x2).wipe vs
    refine ⟨fun i m H3 => ∃ r, i + r = w.n ∧ m = r * 16777217 ∧ ∃ ρ2 M2, Ext ρ1 H2 ρ2 H3 ∧ Rel K T ρ2 M2 H3 ∧ Good K T W σ ρ2 H3 (RE K Q) (genOut all w t (wipeE τ0 vs) tt wi1 t1 vs1 tt1 te r i M2), ⟨w.n * 16777217, w.n, by omega, rfl, _, _, .me, r2, Good.mono x2 q1⟩, ?_⟩
    rintro i m H3 ⟨r, hn, hm, ρ2, M2, y2, rl2, q2⟩
    obtain ⟨g1, g2⟩ := hJ ρ2 H3 M2 i (x2.trans y2) rl2
    cases r with
    | zero =>
      unfold genOut at q2
      by_cases hf : w.fin M2 = true
      · rw [if_pos hf] at q2
        have hi : i = w.n := by omega
        subst hi
        exact .inl ⟨g2 hf, q2 ρ2 H3 .me rl2 _ (den_bl.mpr rfl)⟩
      · rw [if_neg hf] at q2; exact q2.elim
    | succ k =>
      unfold genOut at q2
      cases hd : w.it i M2 with
      | none => rw [hd] at q2; exact q2.elim
      | some d =>
        rw [hd] at q2
        dsimp only at q2
        obtain ⟨go, yl⟩ := g1 d hd (by omega)
        refine .inr ⟨go, fun v H' hy => ?_⟩
        obtain ⟨ρ3, x3, r3, hv⟩ := yl v H' hy
        cases hp : t.put d (wipeE τ0 vs) with
        | none => rw [hp] at q2; exact q2.elim
        | some τ3 =>
          rw [hp] at q2
          dsimp only at q2
          refine ⟨ρ3, d, wipeE τ0 vs, τ3, he.mono (y2.trans x3), hv, hp, fun σ3 e3 k3 => ⟨(k3 vs ht.1).trans wipe_wipe, ρ3, M2, τ3, sg0 r3 e3, ?_⟩⟩
          refine good_inB (Good.mono x3 q2) fun b M4 ρ4 H4 x4 r4 q4 => ?_
          cases b with
          | false =>
            simp only [RB, Bool.false_eq_true, if_false] at q4 ⊢
            exact ⟨k * 16777217, by omega, k, by omega, rfl, ρ4, M4, (y2.trans x3).trans x4, r4, q4⟩
          | true =>
            simp only [RB, if_true] at q4 ⊢
            refine ⟨ρ4, M4, τ3, sg0 r4 (e3.mono x4), good_inB q4 fun w1 M5 ρ5 H5 x5 r5 q5 J1 hJ1 => ?_⟩
            have y5 := ((y2.trans x3).trans x4).trans x5
            by_cases hw1 : w1.n ≤ 16777216
            · rw [if_pos hw1] at q5
              refine ⟨fun j kk H6 => ∃ q, j + q = w1.n ∧ kk = q + k * 16777217 ∧ ∃ ρ6 M6, Ext ρ5 H5 ρ6 H6 ∧ Rel K T ρ6 M6 H6 ∧ Good K T W σ ρ6 H6 (RE K Q) (genIn all w1 t1 (wipeE τ3 vs1) tt1 te q j M6 fun M3 => genOut all w t (wipeE τ0 vs) tt wi1 t1 vs1 tt1 te k (i + 1) M3),
                ⟨w1.n + k * 16777217, by omega, w1.n, by omega, rfl, _, _, .me, r5, q5⟩, ?_⟩
              rintro j kk H6 ⟨q, hn6, hk6, ρ6, M6, y6, rl6, q6⟩
              obtain ⟨f1, f2⟩ := hJ1 ρ6 H6 M6 j y6 rl6
              cases q with
              | zero =>
                unfold genIn at q6
                by_cases hf : w1.fin M6 = true
                · rw [if_pos hf] at q6
                  have hi : j = w1.n := by omega
                  subst hi
                  exact .inl ⟨f2 hf, k * 16777217, by omega, k, by omega, rfl, ρ6, M6, y5.trans y6, rl6, q6⟩
                · rw [if_neg hf] at q6; exact q6.elim
              | succ q' =>
                unfold genIn at q6
                cases hd6 : w1.it j M6 with
                | none => rw [hd6] at q6; exact q6.elim
                | some d1 =>
                  rw [hd6] at q6
                  dsimp only at q6
                  obtain ⟨go6, yl6⟩ := f1 d1 hd6 (by omega)
                  refine .inr ⟨go6, fun H' => ∃ ρ6 M6, Ext ρ5 H5 ρ6 H' ∧ Rel K T ρ6 M6 H' ∧ Good K T W σ ρ6 H' (RE K Q) (genIn all w1 t1 (wipeE τ3 vs1) tt1 te q' (j + 1) M6 fun M3 => genOut all w t (wipeE τ0 vs) tt wi1 t1 vs1 tt1 te k (i + 1) M3),
                    fun H' h => ⟨q' + k * 16777217, by omega, q', by omega, rfl, h⟩, fun v1 H7 hy7 => ?_⟩
                  obtain ⟨ρ7, x7, r7, hv7⟩ := yl6 v1 H7 hy7
                  cases hp7 : t1.put d1 (wipeE τ3 vs1) with
                  | none => rw [hp7] at q6; exact q6.elim
                  | some τ7 =>
                    rw [hp7] at q6
                    dsimp only at q6
                    refine ⟨ρ7, d1, wipeE τ3 vs1, τ7, (e3.mono ((x4.trans x5).trans (y6.trans x7))).wipe vs1, hv7, hp7, fun σ7 e7 k7 => ⟨(k7 vs1 ht.2).trans wipe_wipe, ρ7, M6, τ7, sg0 r7 e7, ?_⟩⟩
                    refine good_inB (Good.mono x7 q6) fun b M8 ρ8 H8 x8 r8 q8 => ?_
                    cases b with
                    | false =>
                      simp only [RB, Bool.false_eq_true, if_false] at q8 ⊢
                      exact ⟨ρ8, M8, (y6.trans x7).trans x8, r8, q8⟩
                    | true =>
                      simp only [RB, if_true] at q8 ⊢
                      refine ⟨ρ8, M8, τ7, sg0 r8 (e7.mono x8), good_inB q8 fun y M9 ρ9 H9 x9 r9 q9 u hu => ?_⟩
                      have y9 := ((y6.trans x7).trans x8).trans x9
                      cases y with
                      | bl c =>
                        rw [den_bl] at hu
                        refine ⟨c, hu, ?_⟩
                        dsimp only at q9
                        by_cases hc : c = all
                        · rw [if_pos hc] at q9 ⊢
                          exact ⟨ρ9, M9, y9, r9, q9⟩
                        · rw [if_neg hc] at q9 ⊢
                          exact q9 ρ9 H9 .me r9 _ (den_bl.mpr rfl)
                      | _ => exact q9.elim
            · rw [if_neg hw1] at q5; exact q5.elim
  · rw [if_neg ht] at q1; exact q1.elim
variable {c P : Addr} {elt tg iter tg1 iter1 : Expr} {ifs ifs1 : List Expr} {scope : Scope} {own : List (Str × Nat)} {gpos p pos : Pos} {wi wi1 : Ev Wk} {t t1 : Tg} {tt tt1 : Ev Bool} {te : FE} {vs1 : List Nat} {k : Nat}
theorem mp_genall2 (hP : P ∈ T.gen) (hr : Room k X.A) (hc : X.calm = true) (hN : X.N.Nodup) (hgl : Gl X "all") (hm : X.mg "all" = none) (TB : GxR.TabB X.base X.mg c P) (hcode : X.env.code = .ref c) (ok : BlkOk X.N X.env.scope scope own) (ncell : ∀ y ∈ scope.names, y.2 ≠ .cell)
    (hco : scope.isCoroutine = false) (dot : scope.names.lookup (".0" : Str) = some NameKind.local) (hv : ∀ i ∈ vs1, i ∈ own.map (fun (q : Str × Nat) => q.2)) (hi : PI X tg iter (tI X.K T W wi))
    (hg : ∀ (s : Shared) (H : Hp) (C : Addr) (code : Value) (fp : List Addr), PG (Gx.gcx X X.A.in1.in1 s H (Gx.genv X scope C code builtinsNs) fp) tg (tG X.K t))
    (ht : ∀ (s : Shared) (H : Hp) (C : Addr) (code : Value) (fp : List Addr), PTs (Gx.gcx X X.A.in1.in1 s H (Gx.genv X scope C code builtinsNs) fp) ifs (tT X.K T W0 tt))
    (hi1 : ∀ (s : Shared) (H : Hp) (C : Addr) (code : Value) (fp : List Addr), PI (Gx.gcx X X.A.in1.in1 s H (Gx.genv X scope C code builtinsNs) fp) tg1 iter1 (tI X.K T W0 wi1))
    (hg1 : ∀ (s : Shared) (H : Hp) (C : Addr) (code : Value) (fp : List Addr), PG (Gx.gcx X X.A.in1.in1 s H (Gx.genv X scope C code builtinsNs) fp) tg1 (tG X.K t1))
    (ht1 : ∀ (s : Shared) (H : Hp) (C : Addr) (code : Value) (fp : List Addr), PTs (Gx.gcx X X.A.in1.in1 s H (Gx.genv X scope C code builtinsNs) fp) ifs1 (tT X.K T W0 tt1))
    (he : ∀ (s : Shared) (H : Hp) (C : Addr) (code : Value) (fp : List Addr), PE (Gx.gcx X X.A.in1.in1 s H (Gx.genv X scope C code builtinsNs) fp) elt (tE X.K T W0 te))
    (hs : ∀ v, genFold iter X.env v = pure v := by intro _; rfl) (hs1 : ∀ env x, foldedSetIterable iter1 env x = pure x := by intro _ _; rfl)
    (hst : starEach [Gx.gex2 elt tg iter ifs tg1 iter1 ifs1 scope gpos] X.env = (false, eval (Gx.gex2 elt tg iter ifs tg1 iter1 ifs1 scope gpos) X.env) :: starEach [] X.env := by rfl) :
    PE X (.Call (.Name "all" p) [Gx.gex2 elt tg iter ifs tg1 iter1 ifs1 scope gpos] [] pos) (tE X.K T W (eGen2 true wi t tt wi1 t1 tt1 te (own.map (·.2)) vs1)) :=
  (Gx.pe_genall2 hr hc hN hgl hm TB hcode ok ncell hco dot hi hv hg ht hi1 hg1 ht1 he hs hs1 hst).weak fun _ _ _ h => tGenB2_of hP true h
theorem mp_genany2 (hP : P ∈ T.gen) (hr : Room k X.A) (hc : X.calm = true) (hN : X.N.Nodup) (hgl : Gl X "any") (hm : X.mg "any" = none) (TB : GxR.TabB X.base X.mg c P) (hcode : X.env.code = .ref c) (ok : BlkOk X.N X.env.scope scope own) (ncell : ∀ y ∈ scope.names, y.2 ≠ .cell)
    (hco : scope.isCoroutine = false) (dot : scope.names.lookup (".0" : Str) = some NameKind.local) (hv : ∀ i ∈ vs1, i ∈ own.map (fun (q : Str × Nat) => q.2)) (hi : PI X tg iter (tI X.K T W wi))
    (hg : ∀ (s : Shared) (H : Hp) (C : Addr) (code : Value) (fp : List Addr), PG (Gx.gcx X X.A.in1.in1 s H (Gx.genv X scope C code builtinsNs) fp) tg (tG X.K t))
    (ht : ∀ (s : Shared) (H : Hp) (C : Addr) (code : Value) (fp : List Addr), PTs (Gx.gcx X X.A.in1.in1 s H (Gx.genv X scope C code builtinsNs) fp) ifs (tT X.K T W0 tt))
    (hi1 : ∀ (s : Shared) (H : Hp) (C : Addr) (code : Value) (fp : List Addr), PI (Gx.gcx X X.A.in1.in1 s H (Gx.genv X scope C code builtinsNs) fp) tg1 iter1 (tI X.K T W0 wi1))
    (hg1 : ∀ (s : Shared) (H : Hp) (C : Addr) (code : Value) (fp : List Addr), PG (Gx.gcx X X.A.in1.in1 s H (Gx.genv X scope C code builtinsNs) fp) tg1 (tG X.K t1))
    (ht1 : ∀ (s : Shared) (H : Hp) (C : Addr) (code : Value) (fp : List Addr), PTs (Gx.gcx X X.A.in1.in1 s H (Gx.genv X scope C code builtinsNs) fp) ifs1 (tT X.K T W0 tt1))
    (he : ∀ (s : Shared) (H : Hp) (C : Addr) (code : Value) (fp : List Addr), PE (Gx.gcx X X.A.in1.in1 s H (Gx.genv X scope C code builtinsNs) fp) elt (tE X.K T W0 te))
    (hs : ∀ v, genFold iter X.env v = pure v := by intro _; rfl) (hs1 : ∀ env x, foldedSetIterable iter1 env x = pure x := by intro _ _; rfl)
    (hst : starEach [Gx.gex2 elt tg iter ifs tg1 iter1 ifs1 scope gpos] X.env = (false, eval (Gx.gex2 elt tg iter ifs tg1 iter1 ifs1 scope gpos) X.env) :: starEach [] X.env := by rfl) :
    PE X (.Call (.Name "any" p) [Gx.gex2 elt tg iter ifs tg1 iter1 ifs1 scope gpos] [] pos) (tE X.K T W (eGen2 false wi t tt wi1 t1 tt1 te (own.map (·.2)) vs1)) :=
  (Gx.pe_genany2 hr hc hN hgl hm TB hcode ok ncell hco dot hi hv hg ht hi1 hg1 ht1 he hs hs1 hst).weak fun _ _ _ h => tGenB2_of hP false h
end
end Mp

set_option Elab.async false
set_option linter.all false
set_option maxRecDepth 100000
set_option maxHeartbeats 4000000
/-! Mp15: readings reckoned: what simp needs -/
namespace Mp
open PySem PySem.Spec PyProof.Rows L2
section
variable {τ : Env} {M M' : Sto} {d e : D} {f g : FE} {b : Bool}
theorem fin_same : fin M.length (.ok d M) = .ok d M := by simp [fin]
theorem fin_bad {n : Nat} : fin n .bad = .bad := rfl
theorem fin_cut {X : Sto} (hM : ∀ o ∈ M, o.low M.length = true) (hd : D.low M.length d = true) : fin M.length (.ok d (M ++ X)) = .ok d M := by
  have : (M.all fun o => o.low M.length) = true := List.all_eq_true.mpr hM
  simp [fin, hd, this]
theorem fin_keep {X : Sto} (hd : D.low M.length d = false) : fin M.length (.ok d (M ++ X)) = .ok d (M ++ X) := by simp [fin, hd]
theorem fin_exn {C : Addr} {fs : List (Str × D)} : fin M.length (.exn C fs M) = .exn C fs M := by simp [fin]
theorem endD_nx : endD (.go .nx τ M) = .ok .non M := rfl
theorem endD_rt : endD (.go (.rt d) τ M) = .ok d M := rfl
theorem endD_ex {C : Addr} {fs : List (Str × D)} : endD (.ex C fs τ M) = .exn C fs M := rfl
theorem endD_bad : endD .bad = .bad := rfl
theorem eAnd_ok {b : Bool} (h : f τ M = .ok (.bl b) M') : eAnd f g τ M = if b = true then g τ M' else .ok (.bl false) M' := by simp [eAnd, h, Res.bind]
theorem eOr_ok {b : Bool} (h : f τ M = .ok (.bl b) M') : eOr f g τ M = if b = true then .ok (.bl true) M' else g τ M' := by simp [eOr, h, Res.bind]
theorem eNot_ok {b : Bool} (h : f τ M = .ok (.bl b) M') : eNot f τ M = .ok (.bl !b) M' := by simp [eNot, h, Res.bind]
theorem eUn_ok {op : D → Sto → Res D} (h : f τ M = .ok d M') : eUn op f τ M = op d M' := by simp [eUn, h, Res.bind]
theorem eOp_ok {op : D → D → Sto → Res D} {M'' : Sto} (h : f τ M = .ok d M') (h2 : g τ M' = .ok e M'') : eOp op f g τ M = op d e M'' := by simp [eOp, h, h2, Res.bind]
end
/-- isinstance by kinds -/
theorem kit_int_int : kitB "int" "int" = some true := by rfl
theorem kit_bool_int : kitB "bool" "int" = some true := by decide +kernel
theorem kit_str_int : kitB "str" "int" = some false := by decide +kernel
theorem kit_tuple_int : kitB "tuple" "int" = some false := by decide +kernel
theorem kit_list_int : kitB "list" "int" = some false := by decide +kernel
theorem kit_non_int : kitB "NoneType" "int" = some false := by decide +kernel
theorem kit_int_bool : kitB "int" "bool" = some false := by decide +kernel
theorem kit_bool_bool : kitB "bool" "bool" = some true := by rfl
theorem kit_str_bool : kitB "str" "bool" = some false := by decide +kernel
theorem kit_tuple_bool : kitB "tuple" "bool" = some false := by decide +kernel
theorem kit_list_bool : kitB "list" "bool" = some false := by decide +kernel
theorem kit_non_bool : kitB "NoneType" "bool" = some false := by decide +kernel
theorem kit_int_tuple : kitB "int" "tuple" = some false := by decide +kernel
theorem kit_bool_tuple : kitB "bool" "tuple" = some false := by decide +kernel
theorem kit_str_tuple : kitB "str" "tuple" = some false := by decide +kernel
theorem kit_tuple_tuple : kitB "tuple" "tuple" = some true := by rfl
theorem kit_list_tuple : kitB "list" "tuple" = some false := by decide +kernel
theorem kit_non_tuple : kitB "NoneType" "tuple" = some false := by decide +kernel
theorem kit_int_str : kitB "int" "str" = some false := by decide +kernel
theorem kit_bool_str : kitB "bool" "str" = some false := by decide +kernel
theorem kit_str_str : kitB "str" "str" = some true := by rfl
theorem kit_tuple_str : kitB "tuple" "str" = some false := by decide +kernel
theorem kit_list_str : kitB "list" "str" = some false := by decide +kernel
theorem kit_non_str : kitB "NoneType" "str" = some false := by decide +kernel
/-- == of ints -/
theorem eqP_int (i j : Int) : eqP (.int i) (.int j) = some (decide (i = j)) := by
  have h1 : ∀ k : Int, SeqAt.shaped (.int k) = true := fun k => by rfl
  simp only [eqP, D.py, h1, and_self, if_true, PyData.eqv]
  by_cases h : i = j <;> simp [h]
end Mp

set_option Elab.async false
set_option linter.all false
set_option maxRecDepth 100000
set_option maxHeartbeats 4000000
/-! Hx1: a list comprehension while an exception is handled -/
namespace Hx
open PySem PySem.Spec PyProof.Rows L2
abbrev St := L2.St
/-- the context of a block that bears the handled exception -/
abbrev blkH (X : Cx) (s : Shared) (H : Hp) (scope : Scope) (cenv : Env) (fp : List Addr) : Cx := { X.blk s H scope cenv fp with pn := X.pn }
section
variable {X : Cx} {pins : List (Addr × Obj)} {σ σ' : St} {H H' : Hp} {s s' : Shared} {scope : Scope} {cenv : Env} {fp : List Addr}
theorem to_blkH (I : Inv (X.blk s H scope cenv fp) (X.pn ++ pins) σ' H' s') : Inv (blkH X s H scope cenv fp) pins σ' H' s' :=
  ⟨⟨I.ok.mod, I.ok.kind, I.ok.glob, I.ok.blt, I.ok.above, I.ok.inj, I.ok.has, I.ok.cab, I.ok.hd, I.ok.frames, I.ok.stk, I.ok.exf, I.ok.bs, I.ok.bsz, I.ok.noex, I.ok.exfs, I.ok.funs, I.ok.frf⟩,
    I.os, I.bare, I.base, I.loc, I.cell, I.free, I.freeC, I.pin, I.hok, I.len⟩
theorem start_pins {cl : List (Str × Addr)} (I : Inv X pins σ H s) (J : Inv (X.blk s H scope (compEnvC scope cl s.heap.objs.size X.env) fp) [] σ' H s') (k : ∀ b o, s.heap.get? b = some o → s'.heap.get? b = some o) : Inv (X.blk s H scope (compEnvC scope cl s.heap.objs.size X.env) fp) (X.pn ++ []) σ' H s' :=
  J.pins_of fun p hp => by
    obtain ⟨g, f, nl, nf, nc⟩ := I.pin p (List.mem_append_left _ (by simpa using hp))
    refine ⟨k _ _ g, f, fun z => ?_, fun hm => ?_, nc⟩
    · have z : p.1 = s.heap.objs.size := z
      have := Heap.lt_size g
      rw [z] at this
      exact absurd this (Nat.lt_irrefl _)
    · rcases List.mem_cons.mp (I.stkSub _ hm) with e | e
      · exact nl e
      · exact nf e
theorem lc_coreH {pins : List (Addr × Obj)} {s : Shared} {σ : St} {H : Hp} {Q : VK} {elt tg iter : Expr} {ifs : List Expr} {scope : Scope} {own : List (Str × Nat)} {pos pos' : Pos} {wi : TI} {g : TG} {tt : TT} {te : TE} {use : Option (Value → Sem Unit)} {Qf : Value → Shared → Prop}
    (hc : L2H.HotC X) (hN : X.N.Nodup) (I : Inv X pins σ H s) (hi : L2H.PIH X tg iter wi) (ok : BlkOk X.N X.env.scope scope own)
    (hg : ∀ (s : Shared) (H : Hp) (C : Addr) (cl : List (Str × Addr)) (fp : List Addr), PG (blkH X s H scope (compEnvC scope cl C X.env) fp) tg g) (ht : ∀ (s : Shared) (H : Hp) (C : Addr) (cl : List (Str × Addr)) (fp : List Addr), PTs (blkH X s H scope (compEnvC scope cl C X.env) fp) ifs tt)
    (he : ∀ (s : Shared) (H : Hp) (C : Addr) (cl : List (Str × Addr)) (fp : List Addr), PE (blkH X s H scope (compEnvC scope cl C X.env) fp) elt te) (hs : ∀ x, foldedSetIterable iter X.env x = pure x)
    (h : tLc wi g tt te (own.map (·.2)) σ H Q)
    (hRR : ∀ D C s' m H', Inv X pins σ H' s' → Q (.ref D) H' → s'.heap.Ns C m → FpOk X pins H' C → compPost (model X.prog X.w) X.A X.xe use Qf (.ref D) C (.ok .next) s') :
    wpAny (model X.prog X.w) X.A (comprehension (.ListComp elt [⟨tg, iter, ifs, 0⟩] scope pos) scope X.env pos' (newList []) false (eval iter X.env) use) Qf X.xe s := by
  have hfree : ∀ y ∈ scope.names, y.2 = .free → ∃ c, X.env.cells.lookup y.1 = some c := fun y hy e => by
    rcases ok.free y hy e with k | k
    · exact I.ok.has _ (.inl k)
    · exact I.ok.has _ (.inr k)
  refine wpAny_comprehension_free (use := use) rfl hs (closure_ok hfree) ok.kind (fun y hy e => by rw [ok.uniq y hy, e])
    (thn (hi.run pins s σ H _ I h) fun xv s1 hx => thn hx fun itv s2 h2 => ?_)
  obtain ⟨it, fp, tn, J, H2, e, I2, T, st2, f2, q⟩ := h2
  subst e
  refine wpAny_newObj_type (newEnv_comp ?_) (by show 0 ≤ sizeLine; decide)
  generalize hD : s2.heap.objs.size = D
  have hDn : H2 D = none := I2.hok.fresh (Nat.le_of_eq hD)
  obtain ⟨W, ⟨m0, w0⟩, turn⟩ := q D hDn
  -- the new list
  generalize hs3 : ({ s2 with heap := s2.heap.push { cls := .type "list", data := .seq ([] : List Value).toArray } } : Shared) = s3
  have I3 : Inv X pins σ (upd H2 D (.lst [])) s3 := by
    rw [← hs3]
    refine I2.laid (t' := s2.toks) (fun b o e => Heap.get?_push_of_some _ e) (Nat.le_of_eq hD) ⟨Nat.zero_le _, [], 0, .nil, ?_⟩
    rw [← hD]
    exact Heap.get?_push_size _ rfl
  have h3 : s3.heap = s2.heap.push { cls := .type "list", data := .seq ([] : List Value).toArray } := by rw [← hs3]
  have sz : ∀ b ∈ fp, b < s2.heap.objs.size := fun b hb => by
    obtain ⟨o, e, _⟩ := T.obj _ _ st2 b hb
    exact Heap.lt_size e
  have f3 : ∀ b ∈ fp, FpOk X pins (upd H2 D (.lst [])) b ∧ b < s3.heap.objs.size := fun b hb => by
    have hlt := sz b hb
    refine ⟨⟨?_, (f2 b hb).2⟩, by rw [h3, Heap.size_push]; exact Nat.lt_succ_of_lt hlt⟩
    rw [upd_ne (by rw [← hD]; exact Nat.ne_of_lt hlt)]
    exact (f2 b hb).1
  have st3 : tn 0 s3.heap := T.keep _ _ _ st2 fun b _ o e => by rw [h3]; exact Heap.get?_push_of_some _ e
  have I4 := to_blkH (pins := []) (start_pins I3 (block_start I3 ok hN f3) fun b o e => pushCells_keeps _ _ _ _ (Heap.get?_push_of_some _ e))
  have pg := hg s3 (upd H2 D (.lst [])) s3.heap.objs.size (cellsFrom (s3.heap.objs.size + 1) scope.names (cloFrom X.env.cells scope.names [])) fp
  have pt := ht s3 (upd H2 D (.lst [])) s3.heap.objs.size (cellsFrom (s3.heap.objs.size + 1) scope.names (cloFrom X.env.cells scope.names [])) fp
  have pe := he s3 (upd H2 D (.lst [])) s3.heap.objs.size (cellsFrom (s3.heap.objs.size + 1) scope.names (cloFrom X.env.cells scope.names [])) fp
  show codeAny _ _ (.compStart (.ListComp elt [⟨tg, iter, ifs, 0⟩] scope pos) 0 (.ref it) (.ref D) (compEnvC scope (cellsFrom (s3.heap.objs.size + 1) scope.names (cloFrom X.env.cells scope.names [])) s3.heap.objs.size X.env)) (compPost (model X.prog X.w) X.A X.xe use Qf (.ref D) s3.heap.objs.size) { s3 with heap := pushCells (s3.heap.push { cls := .type "dict", data := .dict #[] }) scope.names }
  have nfp : ∀ b ∈ fp, (upd H2 D (.lst [])) b = none := fun b hb => (f3 b hb).1.1
  generalize hce : compEnvC scope (cellsFrom (s3.heap.objs.size + 1) scope.names (cloFrom X.env.cells scope.names [])) s3.heap.objs.size X.env = ce at I4 pg pt pe ⊢
  have cL : ce.locals = s3.heap.objs.size := by subst hce; rfl
  generalize hH3 : upd H2 D (.lst []) = H3 at I3 I4 pg pt pe w0 nfp f3
  generalize hs4 : ({ s3 with heap := pushCells (s3.heap.push { cls := .type "dict", data := .dict #[] }) scope.names } : Shared) = s4 at I4 ⊢
  have st4 : tn 0 s4.heap := T.keep _ _ _ st3 fun b _ o e => by rw [← hs4]; exact pushCells_keeps _ _ _ _ (Heap.get?_push_of_some _ e)
  have stat : ∀ {σ' : St} {H' : Hp} {s' : Shared}, Inv (blkH X s3 H3 scope ce fp) [] σ' H' s' → (∀ b ∈ fp, H' b = none) → ∀ b ∈ fp, FpOk (blkH X s3 H3 scope ce fp) [] H' b := fun {σ' H' s'} I' hn b hb =>
    ⟨hn b hb, (I'.ok.exf b hb).1, I'.ok.exfs b hb, .inl hb, fun x c e => (I'.ok.exf b hb).2 x c e, fun p hp => (f3 b hb).1.2.2.2.2.2 p (List.mem_append_left _ (by simpa using hp))⟩
  have loop : codeAny (model X.prog X.w) X.A (.compLoop (.ListComp elt [⟨tg, iter, ifs, 0⟩] scope pos) 0 (.ref it) (.ref D) ce) (compPost (model X.prog X.w) X.A X.xe use Qf (.ref D) s3.heap.objs.size) s4 := by
    refine compLoop_any (fun n s' => ∃ i H', Inv (blkH X s3 H3 scope ce fp) [] (wipe σ (own.map (·.2))) H' s' ∧ tn i s'.heap ∧ (∀ b ∈ fp, H' b = none) ∧ W i n H') ?_ m0 ⟨0, H3, I4, st4, nfp, w0⟩
    rintro n s5 ⟨i, H5, I5, st5, n5, w5⟩
    rcases turn i n H5 w5 with ⟨stop, qq⟩ | ⟨go, Nx, hNx, step⟩
    · have td := T.done (blkH X s3 H3 scope ce fp) rfl rfl rfl (show L2H.HotC (blkH X s3 H3 scope ce fp) from hc) i [] s5 _ H5 (fun _ _ => False) I5 (stat I5 n5) st5 stop
      refine thnF td fun r s6 ⟨hr, I6⟩ => ?_
      subst hr
      -- back in the def's context
      have I7 : Inv X pins σ H5 s6 := I3.call' (ch := fp) I6.os I6.base I6.hok I6.bare fun b hb => ⟨(f3 b hb).1.2.2.2.1, (f3 b hb).1.2.1, (f3 b hb).1.2.2.2.2.1, (f3 b hb).1.2.2.2.2.2⟩
      have nC : H5 s3.heap.objs.size = none := by
        have z : H5 ce.locals = none := I6.free
        rw [cL] at z
        exact z
      obtain ⟨m, hn, _⟩ := I6.loc
      have hn : s6.heap.Ns ce.locals m := hn
      rw [cL] at hn
      exact hRR D s3.heap.objs.size s6 m H5 I7 qq hn (I3.fpOk (Nat.le_refl _) nC)
    · have ti := T.item (blkH X s3 H3 scope ce fp) rfl rfl rfl (show L2H.HotC (blkH X s3 H3 scope ce fp) from hc) i [] s5 _ H5 (fun _ _ => False) I5 (stat I5 n5) st5 go
      refine thnF ti fun r s6 ⟨u, hr, h6⟩ => ?_
      subst hr
      refine thnF h6 fun _ s7 ⟨x, H7, I7, r7, y7, st7, n7⟩ => ?_
      have I7' := I7.pinned (stat I7 n7) (T.obj _ _ st7)
      refine thnF (pg.run _ s7 _ H7 x u _ I7' r7 (step x H7 y7)) fun _ s8 ⟨σ8, H8, I8, hw8, q8⟩ => ?_
      refine thnF (pt.run _ s8 σ8 H8 _ I8 q8) fun b s9 ⟨H9, I9, q9⟩ => ?_
      -- the turn's end
      have fin : ∀ {s' : Shared} {H' : Hp}, Inv (blkH X s3 H3 scope ce fp) ([] ++ pinsAt fp s7.heap) σ8 H' s' → Nx H' → ∃ m, m < n ∧ ∃ i H', Inv (blkH X s3 H3 scope ce fp) [] (wipe σ (own.map (·.2))) H' s' ∧ tn i s'.heap ∧ (∀ b ∈ fp, H' b = none) ∧ W i m H' := fun {s' H'} I' nx => by
        obtain ⟨m', hm, w'⟩ := hNx H' nx
        have pin' : ∀ b ∈ fp, ∀ o, s7.heap.get? b = some o → s'.heap.get? b = some o ∧ H' b = none := fun b hb o e =>
          let z := I'.pin (b, o) (List.mem_append_right _ (List.mem_append_right _ (mem_pinsAt hb e)))
          ⟨z.1, z.2.1⟩
        have hl : (wipe σ (own.map (·.2))).length = σ8.length := by rw [← hw8, wipe_length]
        refine ⟨m', hm, i + 1, H', (I'.unpinned (pins := [])).weak hl (fun j v e => ?_), T.keep _ _ _ st7 fun b hb o e => (pin' b hb o e).1, fun b hb => ?_, w'⟩
        · rw [← hw8] at e
          exact (wipe_some e).1
        · obtain ⟨o, e, _⟩ := T.obj _ _ st7 b hb
          exact (pin' b hb o e).2
      cases b with
      | false =>
        simp only [Bool.false_eq_true, if_false] at q9 ⊢
        exact fin I9 q9
      | true =>
        simp only [if_true] at q9 ⊢
        refine thnF (pe.run _ s9 σ8 H9 _ I9 q9) fun z s10 ⟨yv, H10, I10, r10, acc, hD10, hz10, nx⟩ => ?_
        exact app_ok (X := blkH X s3 H3 scope ce fp) I10 hD10 hz10 r10 fun s11 I11 => fin I11 nx
  exact codeAny_compStart_list loop (T.self X.A 0 _ _ _ st4 loop)
/-- as a value -/
theorem pe_lcH {elt tg iter : Expr} {ifs : List Expr} {scope : Scope} {own : List (Str × Nat)} {pos : Pos} {wi : TI} {g : TG} {tt : TT} {te : TE} (hc : L2H.HotC X) (hN : X.N.Nodup) (hi : L2H.PIH X tg iter wi) (ok : BlkOk X.N X.env.scope scope own)
    (hg : ∀ (s : Shared) (H : Hp) (C : Addr) (cl : List (Str × Addr)) (fp : List Addr), PG (blkH X s H scope (compEnvC scope cl C X.env) fp) tg g) (ht : ∀ (s : Shared) (H : Hp) (C : Addr) (cl : List (Str × Addr)) (fp : List Addr), PTs (blkH X s H scope (compEnvC scope cl C X.env) fp) ifs tt)
    (he : ∀ (s : Shared) (H : Hp) (C : Addr) (cl : List (Str × Addr)) (fp : List Addr), PE (blkH X s H scope (compEnvC scope cl C X.env) fp) elt te) (hs : ∀ x, foldedSetIterable iter X.env x = pure x := by intro _; rfl) :
    PE X (.ListComp elt [⟨tg, iter, ifs, 0⟩] scope pos) (tLc wi g tt te (own.map (·.2))) := by
  refine ⟨fun pins s σ H Q I h => ?_⟩
  rw [eval_ListComp]
  refine lc_coreH hc hN I hi ok hg ht he hs h fun D C s' m H' I' q hn f => ⟨m, hn, fun h'' sb => ?_⟩
  obtain ⟨f0, f1, f2, f3, f4, f5⟩ := f
  exact ⟨.ref D, H', I'.turned (t' := s'.toks) (fun b o hb e => (sb.2 b hb).trans e) f0 f1 f3 f4 f5, rfl, q⟩
end
end Hx

set_option Elab.async false
set_option linter.all false
set_option maxRecDepth 100000
set_option maxHeartbeats 4000000
/-! Hx2: all(xs) of a list of bools while an exception is handled -/
namespace Hx
open PySem PySem.Spec PyProof.Rows L2 HotX
section
variable {prog : Program} {w : World} {A : Around} {E : Value → Shared → Prop} {s : Shared}
theorem pyNext_list_end_hot {it l x1 : Addr} {i : Nat} {items : Array Value} {Q : Option Value → Shared → Prop} (hot : HotAt A x1 s.heap) (hne : x1 ≠ it) (hit : s.heap.IsListIter it l i) (hl : s.heap.IsList l items) (hx : items[i]? = none)
    (hQ : ∀ h', Heap.ExtBut it s.heap h' → Q none { s with heap := h' }) : wpAny (model prog w) A (pyNext (.ref it)) Q E s := by
  obtain ⟨o, ho, hc, hd⟩ := id hit
  obtain ⟨ol, hol, _, nl, hdl⟩ := hl
  obtain ⟨hh, o1, vs1, h1, d1, c1⟩ := hot
  unfold pyNext
  refine wpAny_bind (wpAny_attempt (wpAny_callSpecial?_slot (name := Str.ofString "__next__") hit.typeIs slot_listiter_next
    (wpAny_call_entry slot_listiter_next hit.typeIs entry_listiter_next ?_ (args_listiter_next _))))
  show wpAny _ _ (field (.ref it) 0 >>= _) _ _ s
  refine wpAny_bind (wpAny_field ho hd (x := .ref l) rfl ?_)
  show wpAny _ _ (if (Value.ref l == Value.none) = true then _ else _) _ _ s
  rw [if_neg (show ¬ ((Value.ref l == Value.none) = true) from Bool.false_ne_true)]
  show wpAny _ _ (field (.ref it) 1 >>= _) _ _ s
  refine wpAny_bind (wpAny_field ho hd (x := .int i 0) rfl ?_)
  show wpAny _ _ (seqItems? (.ref l) >>= _) _ _ s
  refine wpAny_bind (wpAny_seqItems hol hdl ?_)
  simp only [Int.toNat_natCast, hx]
  refine wpAny_bind (wpAny_rule (wpAny_bind (wpAny_setField ho hd (by simp) ?_)))
  show wpAny _ _ (newExc (.type "StopIteration") [] >>= _) _ _ _
  refine wpAny_bind ?_
  simp only [newExc, newTuple]
  refine wpAny_bind (wpAny_newObj_type ?_ (by size_fits))
  refine wpAny_bind (m := firstArgMember _ _) (wpAny_of_eq (a := Value.none) (by first | rfl | (simp only [firstArgMember]; rfl)) ?_)
  refine wpAny_newObj_type ?_ (by size_fits)
  have g1 : ∀ {f : Obj → Obj}, (s.heap.update it f).get? x1 = some o1 := fun {f} => (Heap.get?_update_other _ _ (Ne.symm hne)).trans h1
  have k1 := Heap.get?_push_of_some ({ cls := .type "tuple", data := .seq #[] } : Obj) (g1 (f := Obj.mapFields (·.setIfInBounds 0 .none)))
  refine raiseNew_hot ⟨hh, o1, vs1, Heap.get?_push_of_some _ (Heap.get?_push_of_some _ g1), d1, c1⟩ (Nat.ne_of_lt (Heap.lt_size (Heap.get?_push_of_some _ g1))) (Heap.get?_push_size _ rfl) rfl (by first | (simp; done) | (simp; omega)) ?_
  refine wpAny_bind (wpAny_isInstance (T := "StopIteration") (b := true) ⟨_, Heap.get?_update_self _ (Heap.get?_push_size _ rfl) rfl, rfl⟩ isSubtype_stop ?_)
  refine wpAny_pure (hQ _ fun b o' hb e => ?_)
  have e' := Heap.get?_push_of_some ({ cls := .type "tuple", data := .seq #[] } : Obj) ((Heap.get?_update_other s.heap (Obj.mapFields (·.setIfInBounds 0 .none)) (Ne.symm hb)).trans e)
  rw [Heap.get?_update_other _ _ (Nat.ne_of_gt (Heap.lt_size e'))]
  exact Heap.get?_push_of_some _ e'
theorem walks_listH (I ax x1 : Addr) (hh : A.handled = some (.ref x1)) (hne : ax ≠ I) (hx : x1 ≠ I) (items : Array Value) :
    Walks prog w A I [I, ax, x1] [I] items.size (fun i v => items[i]? = some v) (fun i h => h.IsListIter I ax i ∧ h.IsList ax items ∧ ∃ (o : Obj) (vs : Array Value), h.get? x1 = some o ∧ o.data = .fields vs ∧ vs[2]? = some .none) where
  sub := fun b hb => by simp at hb; simp [hb]
  frame := fun _ _ _ ⟨a, b, o, vs, e1, e2, e3⟩ hk => ⟨a.at fun o e => hk I (by simp) o e, b.at fun o e => hk ax (by simp) o e, o, vs, hk x1 (by simp) _ e1, e2, e3⟩
  item := fun i s Q E hi ⟨a, b, o, vs, e1, e2, e3⟩ hQ => by
    refine wpAny_pyNext_list_item a b (x := items[i]) (by simp [hi]) fun h' hit' hs' => ?_
    exact hQ _ h' s.toks (by simp [hi]) ⟨hit', b.extBut hs'.extBut hne, o, vs, hs'.extBut _ _ hx e1, e2, e3⟩ fun b o hb e => hs'.extBut b o (fun h => hb (by simp [h])) e
  done := fun s Q E ⟨a, b, o, vs, e1, e2, e3⟩ hQ => pyNext_list_end_hot ⟨hh, o, vs, e1, e2, e3⟩ hx a b (by simp) fun h' he' => hQ h' s.toks fun b o hb e => he' b o (fun h => hb (by simp [h])) e
  self := fun _ _ _ _ ⟨a, _⟩ hQ => wpAny_pyIter_listiter a hQ
end
section
variable {X : Cx}
theorem cr_allH (hc : L2H.HotC X) : CallR X (.builtin "all") (rAll X.K) := by
  intro pins s σ H vs us Q I r h
  obtain ⟨a, bs, rfl, hs, q⟩ := h
  obtain ⟨its, rv, hl, _⟩ := I.list hs
  rw [Vals.ref1 r]
  have hb := rv.bls
  obtain ⟨x1, hh, o1, vs1, h1, d1, c1⟩ := hc.at I
  refine call_all_walk (iter_any hl.isList fun s₂ e2 st hne => ?_)
  subst e2
  have lt1 : x1 < s.heap.objs.size := Heap.lt_size h1
  refine ⟨_, _, _, _, _, _, _, rfl, walks_listH (A := X.A.in1) _ a x1 hh hne (Nat.ne_of_lt lt1) its.toArray, ⟨st.1, st.2, o1, vs1, Heap.get?_push_of_some _ h1, d1, c1⟩, truth_bools hb, fun h' tk hk => ?_⟩
  refine ⟨.bl _, H, I.kept fun b o eo => hk b o (fun hmem => ?_) (Heap.get?_push_of_some _ eo), ?_, q⟩
  · rcases List.mem_cons.mp hmem with e1 | hmem
    · exact absurd (e1 ▸ Heap.lt_size eo) (Nat.lt_irrefl _)
    · cases hmem
  · show Value.bool _ = Value.bool _
    rw [← L2.all_range, hb, List.size_toArray, List.length_map]
end
end Hx

set_option Elab.async false
set_option linter.all false
set_option maxRecDepth 100000
set_option maxHeartbeats 2000000
/-! Mp16: defs called while an exception is handled -/
namespace Mp
open PySem PySem.Spec PyProof.Rows L2 L2H
section
variable {P : Program} {w : World} {K : PySem.W.Frag} {mg : Str → Option Value} {base : Heap} {T : Tb}
theorem fn_mkH {x : Str} {st : Stmt} {N ps : List Str} {k : Nat} {fb : FS} (F : DefC K mg x st) (S : FnScope N ps (defScope st))
    (hb : ∀ (cdv : Value) (A : Around) (outer : List PySem.Env) (s : Shared) (H : Hp) (E : XK) (p : Addr × Obj), (fdK K x).code = cdv → Hot1 A p → RoomH k (A.deeper (envOfC x (defScope st) s.heap.objs.size (He.ga K x) cdv)) →
      PSs (cxH (L2N.CX P w) P w K mg base N x (defScope st) (He.ga K x) cdv A outer s H E p) (defBody st) (tS K T (fun c d _ H' => E c d H') fb)) :
    FnH P w K mg base (L2N.CX P w) (k + 1) (He.ga K x) (fdK K x) ps (spI K T ps.length (mdef N.length fb)) := by
  obtain ⟨oc, od, dV, kV, doc, pm, an, cdv, ct, osl, e, lk, hcd, _, _⟩ := F.f.ex
  rw [e] at lk ⊢
  exact fn_ofH lk hcd S (fun vs H Q E ⟨ρ, M, ds, hl, _, l, _⟩ => by rw [← l.length]; exact hl) fun A outer s H vs Q E p hot hr ⟨ρ, M, ds, hl, rl, l, q⟩ =>
    ⟨_, hb cdv A outer s H E p (by rw [e]) hot hr, ρ, M, startD N.length ds, sg0 rl (start_den l), endD_ok (fin_ok rl q)⟩
theorem fnH_bad {k : Nat} {f : Addr} {fd : FuncData} {ps : List Str} : FnH P w K mg base (L2N.CX P w) k f fd ps (spI K T ps.length fun _ _ => .bad) :=
  ⟨fun vs H Q E ⟨ρ, M, ds, hl, _, l, _⟩ => by rw [← l.length]; exact hl, fun _ _ _ _ _ _ _ _ _ _ _ _ _ _ _ _ ⟨_, _, _, _, _, _, q⟩ => q.elim⟩
theorem hot_cx {N : List Str} {qual : Str} {scope : Scope} {f : Addr} {cd : Value} {A : Around} {outer : List PySem.Env} {s : Shared} {H : Hp} {E : XK} {p : Addr × Obj} {CX : CXT} (h : Hot1 A p) : HotC (cxH CX P w K mg base N qual scope f cd A outer s H E p) :=
  ⟨p, ⟨h.1, h.2⟩, List.mem_singleton.mpr rfl⟩
theorem FnH.mono {j k : Nat} {f : Addr} {fd : FuncData} {ps : List Str} {sp : Sp} {CX : CXT} (F : FnH P w K mg base CX j f fd ps sp) (h : j ≤ k) : FnH P w K mg base CX k f fd ps sp :=
  ⟨F.len, fun A outer s H args us vs Q E p hr => F.run A outer s H args us vs Q E p (hr.mono h)⟩
end
theorem hot_blk {X : Cx} {s : Shared} {H : Hp} {scope : Scope} {cenv : PySem.Env} {fp : List Addr} (h : HotC X) : HotC (Hx.blkH X s H scope cenv fp) := h
theorem RoomH.units {k : Nat} {A : Around} (r : RoomH k A) : A.units + 64 < cLine := by have := r.un; omega
section
variable {X : Cx} {T : Tb} {W : WX} {k : Nat} {f : Addr} {fd : FuncData} {ps : List Str} {F : FD} {x : Str} {p pos : Pos} {e : Expr} {es : List Expr} {g : Ev (List D)} {fe : FE} {tg : Expr}
theorem mp_callH (Fn : FnH X.prog X.w X.K X.mg X.base (L2N.CX X.prog X.w) k f fd ps (spI X.K T ps.length F)) (hr : RoomH k X.A) (hc : HotC X) (hg : Gl X x) (hm : X.mg x = some (.ref f)) (hk : PySem.W.keepIn X.K (.ref f) = true) (hb : Binds X.K fd ps []) (tk : L2N.Takes X W)
    (ha : PA X (e :: es) (tA X.K T W g)) (hdb : (x == ("__debug__" : Str)) = false := by decide) (he : starEach (e :: es) X.env = (false, eval e X.env) :: starEach es X.env := by rfl) (hpl : (backTo pos (starEach es X.env)).any (·.1) = false := by rfl) :
    PE X (.Call (.Name x p) (e :: es) [] pos) (tE X.K T W (eCall (lenF ps.length F) g)) :=
  (pe_callH (E := WE W) Fn hr hc hg hm hk hb (L2N.passAt tk) ha hdb he hpl).weak fun σ H Q h =>
    (At.bindA (g := fun ds _ M1 => lenF ps.length F ds M1) h).imp fun vs H1 ⟨ds, ρ, M, τ, s, l, q⟩ => by
      dsimp only [lenF] at q
      by_cases hl : ds.length = ps.length
      · rw [if_pos hl] at q
        refine ⟨ρ, M, ds, hl, s.rel, l (ds, vs) (by simp), ?_⟩
        cases h : F ds M with
        | ok d M' => rw [h] at q; exact q
        | exn C fs M' => rw [h] at q; exact q
        | bad => rw [h] at q; exact q
      · rw [if_neg hl] at q; exact q.elim
theorem PIH.weak {iter : Expr} {t t' : TI} (h : PIH X tg iter t) (i : ∀ σ H Q, t' σ H Q → t σ H Q) : PIH X tg iter t' := ⟨fun p s σ H Q I q => h.run p s σ H Q I (i σ H Q q)⟩
theorem mi_rng1H (hg : Gl X "range") (hm : X.mg "range" = none) (he : PE X e (tE X.K T W fe)) (hs : starEach [e] X.env = [(false, eval e X.env)] := by rfl) : PIH X tg (.Call (.Name "range" p) [e] [] pos) (tI X.K T W (iR1 fe)) :=
  PIH.weak (pi_range1H hg hm (pa_cons he pa_nil hs) hs) fun σ H R h => (At.bindE (g := fun (d : D) (_ : Env) (M1 : Sto) => (match d with
  | .int j => if -(2 ^ 62) ≤ j ∧ j < 2 ^ 62 then Res.ok (wRng 0 j.toNat) M1 else Res.bad
  | _ => Res.bad : Res Wk)) h).imp fun v H1 ⟨d, ρ, M, τ, s, q⟩ => by
    have hd := s.car (d, v) (by simp)
    cases d with
    | int j =>
      rw [den_int] at hd
      subst hd
      dsimp only at q
      by_cases c : -(2 ^ 62) ≤ j ∧ j < 2 ^ 62
      · rw [if_pos c] at q
        exact ⟨j, rfl, c.1, c.2, q ρ H1 .me s.rel _ wk_rng⟩
      · rw [if_neg c] at q; exact q.elim
    | _ => exact q.elim
variable {elt iter : Expr} {ifs : List Expr} {scope : Scope} {own : List (Str × Nat)} {wi : Ev Wk} {t : Tg} {tt : Ev Bool} {te : FE}
theorem mp_lcH (hc : HotC X) (hN : X.N.Nodup) (hi : PIH X tg iter (tI X.K T W wi)) (ok : BlkOk X.N X.env.scope scope own)
    (hg : ∀ (s : Shared) (H : Hp) (C : Addr) (cl : List (Str × Addr)) (fp : List Addr), PG (Hx.blkH X s H scope (compEnvC scope cl C X.env) fp) tg (tG X.K t)) (ht : ∀ (s : Shared) (H : Hp) (C : Addr) (cl : List (Str × Addr)) (fp : List Addr), PTs (Hx.blkH X s H scope (compEnvC scope cl C X.env) fp) ifs (tT X.K T W0 tt))
    (he : ∀ (s : Shared) (H : Hp) (C : Addr) (cl : List (Str × Addr)) (fp : List Addr), PE (Hx.blkH X s H scope (compEnvC scope cl C X.env) fp) elt (tE X.K T W0 te)) (hs : ∀ x, foldedSetIterable iter X.env x = pure x := by intro _; rfl) :
    PE X (.ListComp elt [⟨tg, iter, ifs, 0⟩] scope pos) (tE X.K T W (eLc wi t tt te (own.map (·.2)))) :=
  (Hx.pe_lcH hc hN hi ok hg ht he hs).weak fun _ _ _ h => tLc_of h
end
end Mp

set_option Elab.async false
set_option linter.all false
set_option maxRecDepth 100000
set_option maxHeartbeats 4000000
/-! Ex1: isinstance of a caught error that has fields -/
namespace ExD
open PySem PySem.W PySem.Spec PySem.Calls PyProof.Rows
section
variable {prog : Program} {w : World} {A : Around} {E : Value → Shared → Prop} {s : Shared} {K : Frag} {x D : Addr} {ox : Obj}
theorem findObj_dataD {C : Addr} {name : Str} {a g : Value} {od : Option Obj} (hc : (clsIn K C).isSome = true) (ha : findIn K (.ref C) name = some (some a)) (hg : specialIn K a "__get__" = some (some g)) (ht : takesIn K a = some true) : findObj K C od name = some (.bind g a) := by
  obtain ⟨cd, hc⟩ := Option.isSome_iff_exists.mp hc
  unfold findObj
  rw [hc, Option.bind_some, ha, Option.bind_some]
  simp [hg, ht]
theorem kin_classD {Q : Option Value → Shared → Prop} {odd : Option Obj} (hga : findIn K (.ref D) "__getattribute__" = some (some (.builtin "BaseException.__getattribute__"))) (hgt : findIn K (.ref D) "__getattr__" = some none) (hsub : subIn K (.ref D) (.type "BaseException") = some true)
    (hdct : hasDictIn K D = true) (ha : findIn K (.ref D) "__class__" = some (some (.builtin "object.__class__")))
    (hn : specialIn K (.builtin "object.__class__") "__get__" = some (some (.builtin "getset_descriptor.__get__"))) (htk : takesIn K (.builtin "object.__class__") = some true) (hm : mroIn K D (.type "object") = some true)
    (X : K.In s.heap) (I : InstAt s.heap x ox D odd) (h : Q (some (.ref D)) { s with toks := s.toks + 1 }) : wpAny (model prog w) A (getAttr? (.ref x) "__class__") Q E s := by
  have hf : findObj K D odd "__class__" = some (.bind (.builtin "getset_descriptor.__get__") (.builtin "object.__class__")) := findObj_dataD (by obtain ⟨cd, hc, _⟩ := any_some hdct; rw [hc]; rfl) ha hn htk
  obtain ⟨hp, g, d, t, os⟩ := s
  have L0 := I.type (M := model prog w)
  have L1 := looks_findIn (M := model prog w) X hga
  have L2 := looks_findIn (M := model prog w) X hgt
  have L3 := looks_find (M := model prog w) X I hf
  have sub : Looks (model prog w) hp (isInstance (.ref x) (.type "BaseException")) true := L0.andThen (looks_subIn X hsub)
  have hx0 : (false && onTheHeap (Value.builtin "BaseException.__getattribute__")) = false := rfl
  have hx2 : (Value.builtin "BaseException.__getattribute__" == Value.builtin "object.__getattribute__") = false := by decide +kernel
  have hx1 : (onTheHeap (Value.ref D) && Value.builtin "BaseException.__getattribute__" == Value.builtin "object.__getattribute__") = false := by rw [hx2]; rfl
  unfold getAttr? getAttrBy? getAttrBy
  refine wpAny_bind (wpAny_mkText (wpAny_bind (wpAny_attempt (wpAny_holding (wpAny_bind (L0.at (wpAny_bind (L1.at ?_))))))))
  show wpAny _ _ (if (onTheHeap (Value.ref D) && Value.builtin "BaseException.__getattribute__" == Value.builtin "object.__getattribute__") = true then _ else _) _ _ _
  rw [hx1, if_neg Bool.false_ne_true]
  unfold getAttrByItsOwn hookBefore
  refine wpAny_bind ?_
  rw [if_pos (show onTheHeap (Value.ref D) = true from rfl)]
  refine L2.at ?_
  refine wpAny_bind (wpAny_attempt (wpAny_holding ?_))
  unfold callGetattribute
  rw [hx0, if_neg Bool.false_ne_true]
  unfold boundAndCalled
  rw [PySem.F.excAttr_ValueError.ga.bind (.ref x)]
  refine wpAny_bind (wpAny_pure ?_)
  show wpAny _ _ (call (.builtin "BaseException.__getattribute__") [.ref x, .str "__class__" t]) _ _ _
  refine wpAny_call (codeAny_call_builtin PySem.F.excAttr_ValueError.ga.plain PySem.F.entry_bexc_ga ?_)
  refine @check_slot (model prog w) _ _ ⟨hp, g, d, t + 1, os⟩ "BaseException.__getattribute__" "BaseException" "__getattribute__" (.ref x) [.str "__class__" t] [] _ (by decide +kernel) (by decide +kernel) sub (PySem.F.args_bexc_ga (.ref x) (.str "__class__" t)) ?_
  unfold Builtin.«object.__getattribute__»
  refine wpAny_bind (wpAny_of_eq (a := ((Value.ref x : Value), [Value.str "__class__" t])) (by first | rfl | (simp only [slotArgs]; rfl)) ?_)
  refine wpAny_bind (wpAny_pure (wpAny_bind (L0.at (wpAny_bind (L3.at ?_)))))
  show wpAny _ _ (holding [Value.builtin "object.__class__"] (call (.builtin "getset_descriptor.__get__") [.builtin "object.__class__", .ref x, .ref D]) >>= ret) _ _ _
  refine wpAny_bind (wpAny_holding (wpAny_call (class_get (s := ⟨hp, g, d, t + 1, os⟩) (ox := ox) (od := odd) X I hm ?_)))
  refine wpAny_pure ?_
  show wpAny _ _ (handedOut (.ref D)) _ _ _
  rw [handedOut_of (v := .ref D) rfl]
  first
    | exact wpAny_pure (wpAny_pure h)
    | exact wpAny_pure h
    | exact wpAny_pure (wpAny_bind (wpAny_pure (wpAny_pure h)))
theorem kitx_excD {odd : Option Obj} (hga : findIn K (.ref D) "__getattribute__" = some (some (.builtin "BaseException.__getattribute__"))) (hgt : findIn K (.ref D) "__getattr__" = some none) (hsub : subIn K (.ref D) (.type "BaseException") = some true) (hdct : hasDictIn K D = true) (ha : findIn K (.ref D) "__class__" = some (some (.builtin "object.__class__")))
    (hn : specialIn K (.builtin "object.__class__") "__get__" = some (some (.builtin "getset_descriptor.__get__"))) (htk : takesIn K (.builtin "object.__class__") = some true) (hm : mroIn K D (.type "object") = some true) :
    KitX K (.ref x) (.ref D) (fun h => InstAt h x ox D odd) where
  ty := fun _ _ _ I => I.type
  it := fun _ _ X _ => by
    obtain ⟨cdD, hcD, _⟩ := any_some hdct
    unfold clsIn at hcD
    split at hcD
    · rename_i c' d' cd' sl' ho
      intro A' Q' E' s' k q
      unfold isType loadHead
      exact wpAny_bind (wpAny_loadPart (k _ _ (X _ _ ho)) (wpAny_pure q))
    · cases hcD
  ne := fun h tp dd its n sl X htp => by
    obtain ⟨cdD, hcD, _⟩ := any_some hdct
    refine Bool.eq_false_iff.mpr fun q => ?_
    have e : D = tp := Value.ref.inj (beq_iff_eq.mp q)
    subst e
    unfold clsIn at hcD
    split at hcD
    · rename_i c' d' cd' sl' ho
      have z := (X _ _ ho).symm.trans htp
      cases z
    · cases hcD
  ca := fun X I k => kin_classD hga hgt hsub hdct ha hn htk hm X I k
end
end ExD
namespace ExD
open PySem PySem.Spec PyProof.Rows L2
def rIsED (K : PySem.W.Frag) (D a dd : Addr) : List V → Hp → VK → Prop := fun xs H Q => ∃ (c : V) (cv : Value) (b : Bool) (fs : List (Str × V)), xs = [.ref a, c] ∧ (∀ u, RelV c u → u = cv) ∧ PySem.W.kitOne K (.ref D) cv = some b ∧ H dd = some (.xd fs) ∧ Q (.bl b) H
theorem call_isED {X : Cx} {a D dd : Addr} {oe : Obj} {pn : List (Addr × Obj)} (C : ExcC X.K D) (hz : Zc (.ref D) (some dd) oe) (hf : ∃ vs, oe.data = .fields vs) : CallR (X.suite a ((a, oe) :: pn)) (.builtin "isinstance") (rIsED X.K D a dd) := by
  intro pins s σ H xs us Q I r h
  obtain ⟨c, cv, b, fs, rfl, hcv, e, hd, q⟩ := h
  cases r with
  | cons rx rr =>
    cases rr with
    | cons rt rr =>
      cases rr
      cases rx
      have ec := hcv _ rt
      subst ec
      obtain ⟨hget, _⟩ := I.pin (a, oe) (List.mem_append.mpr (.inl List.mem_cons_self))
      obtain ⟨vs, hv⟩ := hf
      have hx : ObjOk X.prog X.w H s.heap dd (.xd fs) := I.hok dd _ hd
      obtain ⟨mA, hns, hr⟩ := hx
      obtain ⟨od, ho, hl⟩ := lookIn_ns hns
      have J : PySem.W.InstAt s.heap a oe D (some od) := ⟨hget, hz.1, by unfold PySem.W.notCls; rw [hv] <;> rfl, by rw [hz.2]; exact ho⟩
      exact PySem.W.kia_one (kitx_excD C.hg C.hk C.hs C.hd C.ha C.hn C.ht C.hm) I.kIn J e (fun z => nomatch z) fun tk => ⟨.bl b, H, I.kept (t' := tk) fun _ _ z => z, rfl, q⟩
end ExD

set_option Elab.async false
set_option linter.all false
set_option maxRecDepth 100000
set_option maxHeartbeats 4000000
/-! Tx1: try with several clauses, some of them with a name -/
namespace Tx
open PySem PySem.Spec PyProof.Rows L2
/-- what the clauses wish of an exception of the body, one behind another -/
def wTryA (K : PySem.W.Frag) (Wout : WX) (D : Ends) : List (Value × Option Nat × (Addr → Value → Option Addr → TS)) → WX
  | [] => Wout
  | (c, none, ts) :: r => fun cls d σ H => ∃ b, PySem.W.exmOne K cls c = some b ∧ (b = true → ∀ a, H a = none → ts a cls d D σ H) ∧ (b = false → wTryA K Wout D r cls d σ H)
  | (c, some i, ts) :: r => fun cls d σ H => ∃ b, PySem.W.exmOne K cls c = some b ∧
      (b = true → ∀ a, H a = none → ts a cls d { nx := fun σ' H' => D.nx (σ'.set i none) H', rt := D.rt, bk := fun σ' H' => D.bk (σ'.set i none) H', ct := fun σ' H' => D.ct (σ'.set i none) H' } (σ.set i (some (.ref a))) H) ∧ (b = false → wTryA K Wout D r cls d σ H)
inductive HdA (X : Cx) : List ExceptHandler → List (Value × Option Nat × (Addr → Value → Option Addr → TS)) → Prop
  | nil : HdA X [] []
  | cons {x : Str} {c : Value} {ts : Addr → Value → Option Addr → TS} {b₀ : Stmt} {suite : List Stmt} {np pos' : Pos} {hds : List ExceptHandler} {l : List (Value × Option Nat × (Addr → Value → Option Addr → TS))} (hc : Names X x c)
      (hsu : ∀ (a : Addr) (oe : Obj) (cls : Value) (d : Option Addr) (pn : List (Addr × Obj)), L2N.Zn cls d oe → (∃ vs, oe.data = .fields vs) → PSs (X.suite a ((a, oe) :: pn)) (b₀ :: suite) (ts a cls d)) (r : HdA X hds l) :
      HdA X (.ExceptHandler (some (.Name x np)) none (b₀ :: suite) pos' :: hds) ((c, none, ts) :: l)
  | as {x n : Str} {c : Value} {i : Nat} {ts : Addr → Value → Option Addr → TS} {b₀ : Stmt} {suite : List Stmt} {np pos' : Pos} {hds : List ExceptHandler} {l : List (Value × Option Nat × (Addr → Value → Option Addr → TS))} (hc : Names X x c) (hi : X.N[i]? = some n) (hln : X.env.kindOf n = some .local)
      (hsu : ∀ (a : Addr) (oe : Obj) (cls : Value) (d : Option Addr) (pn : List (Addr × Obj)), L2N.Zn cls d oe → (∃ vs, oe.data = .fields vs) → PSs (X.suite a ((a, oe) :: pn)) (b₀ :: suite) (ts a cls d)) (r : HdA X hds l) :
      HdA X (.ExceptHandler (some (.Name x np)) (some n) (b₀ :: suite) pos' :: hds) ((c, some i, ts) :: l)
section
variable {X : Cx} {body : List Stmt} {h₀ : ExceptHandler} {hds : List ExceptHandler} {l : List (Value × Option Nat × (Addr → Value → Option Addr → TS))} {pos : Pos} {tb : WX → TS} {Wout : WX}
theorem ps_tryA (hs : X.stack = X.env :: X.outer) (hf : X.env.frame = some X.env.locals) (tk : L2N.Takes X Wout)
    (hb : ∀ (W : WX) (pn : List (Addr × Obj)) (xe : Value → Shared → Prop), L2N.Takes (X.tr pn xe) W → PassesOwn (model X.prog X.w) X.A X.env xe → PSs (X.tr pn xe) body (tb W))
    (hN : X.N.Nodup) (hh : HdA X (h₀ :: hds) l) : PS X (.Try body (h₀ :: hds) [] [] pos) (fun D σ H => tb (wTryA X.K Wout D l) D σ H) := by
  refine ⟨fun pins s σ H D I h => ?_⟩
  have ok := I.ok
  have hfr : X.A.frames = some (X.env :: X.outer) := by rw [ok.frames, hs]
  refine wpAny_Try_except ?_
  refine wpAny_mono ((hb (wTryA X.K Wout D l) (X.pn ++ pins) (fun e s₁ => wpAny (model X.prog X.w) X.A (noteFrame e X.env) (fun _ s₂ => wpAny (model X.prog X.w) X.A (setFlight e none) (fun _ s₃ =>
    wpAny (model X.prog X.w) X.A (handleBy e X.env (h₀ :: hds)) (SP X pins D) X.xe s₃) X.xe s₂) X.xe s₁) (fun u s' xx => ?_) PassesOwn.looking).run [] s σ H D (I.toTry _) h) (fun f s1 hsp => ?_) (fun e s1 he => he)
  · -- the catch
    obtain ⟨a, B, sI, pins', σ', H', cls, d, rfl, J', nb, up, sky, na, os, ag, w⟩ := xx
    have J : Inv X pins σ' H' sI := J'.ofTry ok
    have sky' : Sky B (X.env :: X.outer) a (L2N.Zn cls d) X.env.locals s'.heap := by rw [← hs]; exact sky
    show wpAny (model X.prog X.w) X.A (noteFrame (.ref a) X.env) _ _ _
    refine L2N.Sky.land L2N.Zn.steady hfr hf sky' fun h3 fl3 up3 => ?_
    have J3 : Inv X pins σ' H' { s' with heap := h3 } := J.landed nb fl3.1 (up.trans up3) os ag
    obtain ⟨oe3, vs3, he3, hz3, hd3⟩ := fl3.there
    have notFr : ∀ {h : Heap} {o : Obj} {vs : Array Value}, h.FunFrames B (X.env :: X.outer) → h.get? a = some o → o.data = .fields vs → a ∉ frs (X.env :: X.outer) := fun {h o vs} ff e dd hm => by
      obtain ⟨_, o', e', hnf⟩ := ff.mem hm
      rw [e] at e'; cases e'
      exact hnf _ dd
    have nfr := notFr fl3.2.2.1 he3 hd3
    have nL : a ≠ X.env.locals := fun z => nfr (List.mem_filterMap.mpr ⟨X.env, List.mem_cons_self, by rw [hf, z]⟩)
    have nF : a ∉ X.fs := fun hm => by
      obtain ⟨e, he, q⟩ := List.mem_filterMap.mp hm
      exact nfr (List.mem_filterMap.mpr ⟨e, List.mem_cons_of_mem _ he, q⟩)
    have S3 := J3.suite he3 hd3 na nL nF
    have go : ∀ {hds' : List ExceptHandler} {l' : List (Value × Option Nat × (Addr → Value → Option Addr → TS))}, HdA X hds' l' → wTryA X.K Wout D l' cls d σ' H' →
        wpAny (model X.prog X.w) X.A (handleBy (.ref a) X.env hds') (SP X pins D) X.xe { s' with heap := h3 } := by
      intro hds' l' hk
      induction hk with
      | nil =>
        intro w
        refine wpAny_handleBy_nil ?_
        obtain ⟨k1, k2, k3, oe, vs, T, oT, ts', he, hz, hd, h1, hr⟩ := id fl3
        unfold PySem.passOn
        refine wpAny_bind (wpAny_field he hd h1 ?_)
        rw [if_neg (show ¬ ((Value.ref T == Value.none) = true) from by simp)]
        have fin : wpAny (model X.prog X.w) X.A (setFlight (.ref a) X.env.frame) (fun _ s4 => wpAny (model X.prog X.w) X.A (throw (.ref a) : Sem Flow) (SP X pins D) X.xe s4) X.xe { s' with heap := h3 } := by
          rw [hf]
          refine HandSPX.setFlight_upZ fl3 fun h4 hh4 up4 => wpAny_throw (tk _ _ ?_)
          exact ⟨a, B, sI, pins, σ', H', cls, d, rfl, J, nb, (up.trans up3).trans up4, .inr (.inr (by rw [hs]; exact hh4)), na, os, ag, w⟩
        first
          | exact wpAny_bind (wpAny_pure (wpAny_bind fin))
          | exact wpAny_bind fin
      | @cons x c ts b₀ suite np pos' hds2 l2 hc hsu r ih =>
        intro w
        obtain ⟨b, hb1, hyes, hno⟩ := w
        refine wpAny_handleBy_cons (codeAny_handlers_test ?_) (by intro q; cases q)
        have LT : PySem.W.Looks (model X.prog X.w) h3 (typeOf (.ref a)) cls := fun A Q E s k q => wpAny_typeOf_ref (k _ _ he3) (by rw [hz3.1]; exact q)
        have LM := PySem.W.exm_one (M := model X.prog X.w) (J3.kIn) LT hb1
        have test : ∀ {Q : Value → Shared → Prop} {E : Value → Shared → Prop}, Q c { s' with heap := h3 } → wpAny (model X.prog X.w) (X.A.mark (some (.ref a))) (eval (.Name x np) X.env) Q E { s' with heap := h3 } := fun {Q E} q => by
          obtain ⟨hg, hdbg, hm | ⟨hm, hv, hnn⟩⟩ := hc
          · exact ld_glob (X := X.suite a ((a, oe3) :: (X.pn ++ pins))) S3 hg hm q hdbg
          · exact ld_blt (X := X.suite a ((a, oe3) :: (X.pn ++ pins))) S3 hg hm hv q hnn hdbg
        refine test (LM.here ?_)
        cases b with
        | true =>
          refine codeAny_handlers_suite ?_
          refine HandSPX.lands_againZ fl3 fun h4 fl4 up4 => ?_
          have J4 : Inv X pins σ' H' { s' with heap := h4 } := J.landed nb fl4.1 ((up.trans up3).trans up4) os ag
          obtain ⟨oe4, vs4, he4, hz4, hd4⟩ := fl4.there
          have S4 := J4.suite he4 hd4 na nL nF
          refine wpAny_mono ((hsu a oe4 cls d (X.pn ++ pins) hz4 ⟨_, hd4⟩).run [] _ _ H' _ S4 (hyes rfl a na)) (fun f s6 hsp => ?_) (fun _ _ z => False.elim z)
          cases f with
          | next =>
            obtain ⟨σ6, H6, S6, q6⟩ := hsp
            exact ⟨_, _, S6.unsuite ok, q6⟩
          | brk =>
            obtain ⟨σ6, H6, S6, q6⟩ := hsp
            exact ⟨_, _, S6.unsuite ok, q6⟩
          | cont =>
            obtain ⟨σ6, H6, S6, q6⟩ := hsp
            exact ⟨_, _, S6.unsuite ok, q6⟩
          | ret u =>
            obtain ⟨v6, σ6, H6, S6, r6, q6⟩ := hsp
            exact ⟨_, _, _, S6.unsuite ok, r6, q6⟩
        | false =>
          show wpAny _ X.A (handleBy (.ref a) X.env hds2) _ _ _
          exact ih (hno rfl)
      | @as x n c i ts b₀ suite np pos' hds2 l2 hc hi hln hsu r ih =>
        intro w
        obtain ⟨b, hb1, hyes, hno⟩ := w
        refine wpAny_handleBy_cons (codeAny_handlers_test ?_) (by intro q; cases q)
        have LT : PySem.W.Looks (model X.prog X.w) h3 (typeOf (.ref a)) cls := fun A Q E s k q => wpAny_typeOf_ref (k _ _ he3) (by rw [hz3.1]; exact q)
        have LM := PySem.W.exm_one (M := model X.prog X.w) (J3.kIn) LT hb1
        have test : ∀ {Q : Value → Shared → Prop} {E : Value → Shared → Prop}, Q c { s' with heap := h3 } → wpAny (model X.prog X.w) (X.A.mark (some (.ref a))) (eval (.Name x np) X.env) Q E { s' with heap := h3 } := fun {Q E} q => by
          obtain ⟨hg, hdbg, hm | ⟨hm, hv, hnn⟩⟩ := hc
          · exact ld_glob (X := X.suite a ((a, oe3) :: (X.pn ++ pins))) S3 hg hm q hdbg
          · exact ld_blt (X := X.suite a ((a, oe3) :: (X.pn ++ pins))) S3 hg hm hv q hnn hdbg
        refine test (LM.here ?_)
        cases b with
        | true =>
          refine codeAny_handlers_suite_as ?_
          refine HandSPX.lands_againZ fl3 fun h4 fl4 up4 => ?_
          have J4 : Inv X pins σ' H' { s' with heap := h4 } := J.landed nb fl4.1 ((up.trans up3).trans up4) os ag
          obtain ⟨oe4, vs4, he4, hz4, hd4⟩ := fl4.there
          have S4 := J4.suite he4 hd4 na nL nF
          refine store_ok (X := X.suite a ((a, oe4) :: (X.pn ++ pins))) (v := .ref a) S4 hN hi (.inl hln) rfl (fun s5 S5 => ?_) (.inr hln)
          refine wpAny_mono ((hsu a oe4 cls d (X.pn ++ pins) hz4 ⟨_, hd4⟩).run [] s5 _ H' _ S5 (hyes rfl a na)) (fun f s6 hsp => ?_) (fun _ _ z => False.elim z)
          have end_ : ∀ {σ6 : L2.St} {H6 : Hp} {Q : Shared → Prop}, Inv (X.suite a ((a, oe4) :: (X.pn ++ pins))) [] σ6 H6 s6 → (∀ s7, Inv X pins (σ6.set i none) H6 s7 → Q s7) →
              wpAny (model X.prog X.w) X.A (do bindName X.env n .none; unbindBehindTheSuite X.env n pos') (fun _ s7 => Q s7) X.xe s6 := fun {σ6 H6 Q} S6 hq => gone_ok (S6.unsuite ok) hN hi hln hq
          cases f with
          | next =>
            obtain ⟨σ6, H6, S6, q6⟩ := hsp
            exact end_ S6 fun s7 J7 => ⟨_, _, J7, q6⟩
          | brk =>
            obtain ⟨σ6, H6, S6, q6⟩ := hsp
            exact end_ S6 fun s7 J7 => ⟨_, _, J7, q6⟩
          | cont =>
            obtain ⟨σ6, H6, S6, q6⟩ := hsp
            exact end_ S6 fun s7 J7 => ⟨_, _, J7, q6⟩
          | ret u =>
            obtain ⟨v6, σ6, H6, S6, r6, q6⟩ := hsp
            exact end_ S6 fun s7 J7 => ⟨_, _, _, J7, r6, q6⟩
        | false =>
          show wpAny _ X.A (handleBy (.ref a) X.env hds2) _ _ _
          exact ih (hno rfl)
    exact go hh w
  · cases f with
    | next =>
      obtain ⟨σ', H', J', q⟩ := hsp
      exact wpAny_execs_nil ⟨σ', H', J'.ofTry ok, q⟩
    | brk =>
      obtain ⟨σ', H', J', q⟩ := hsp
      exact ⟨σ', H', J'.ofTry ok, q⟩
    | cont =>
      obtain ⟨σ', H', J', q⟩ := hsp
      exact ⟨σ', H', J'.ofTry ok, q⟩
    | ret u =>
      obtain ⟨v, σ', H', J', r, q⟩ := hsp
      exact ⟨v, σ', H', J'.ofTry ok, r, q⟩
end
end Tx

set_option Elab.async false
set_option linter.all false
set_option maxRecDepth 100000
set_option maxHeartbeats 2000000
/-! Lx1: a lambda without parameters is made; what that leaves of the store -/
namespace Lx
open PySem PySem.Spec PyProof.Rows L2 LamX
section
variable {K : PySem.W.Frag} {T : Mp.Tb} {ρ : List Addr} {M : Mp.Sto} {H H1 : Hp}
/-- all but the table at P is as it was -/
def But (P : Addr) (H H1 : Hp) : Prop := ∀ b o, b ≠ P → H b = some o → H1 b = some o
theorem But.of {P : Addr} (h : ∀ b o, H b = some o → H1 b = some o) : But P H H1 := fun b o _ e => h b o e
theorem rel_but {P : Addr} {q : Str} (R : Mp.Rel K T ρ M H) (hm : (P, q) ∈ T.lam) (b : But P H H1) (t : Tabs T.lam H1) : Mp.Rel K T ρ M H1 ∧ Mp.Ext ρ H ρ H1 := by
  obtain ⟨ps, hP, _, _⟩ := R.lam _ hm
  have ne : ∀ a u, H a = some u → (∀ qs, u ≠ .tbl qs) → a ≠ P := fun a u e n z => by
    rw [z, show H P = _ from hP] at e
    exact n ps (Option.some.inj e).symm
  have X : Mp.Ext ρ H ρ H1 := ⟨List.prefix_refl _, fun a xs e => b a _ (ne a _ e fun _ => HO.noConfusion) e, fun a o w e => b a _ (ne a _ e fun _ => HO.noConfusion) e, fun a fs e => b a _ (ne a _ e fun _ => HO.noConfusion) e⟩
  refine ⟨⟨R.len, R.nd, fun n o e => ?_, R.cl, fun Q hQ => ?_, t, R.dj⟩, X⟩
  · obtain ⟨c, e1, q'⟩ := R.ob n o e
    obtain ⟨w, e2, _, nb, _⟩ := q'.some
    exact ⟨c, e1, q'.stay X ((b c w (ne c w e2 nb) e2).trans e2.symm)⟩
  · obtain ⟨qs, e1, e2⟩ := R.gen Q hQ
    exact ⟨qs, b Q _ (fun z => R.dj Q hQ _ hm z.symm) e1, e2⟩
end
section
variable {X : Cx} {pins : List (Addr × Obj)} {σ : L2.St} {H : Hp} {s : Shared}
/-- the lambda is made: only the table at P is written -/
theorem made {T : List (Addr × Str)} {c P : Addr} {q : Str} {params : Arguments} {body : Expr} {scope : Scope} {pos : Pos} {E Q : Value → Shared → Prop} (I : Inv X pins σ H s) (TB : TabB X.base X.mg c P) (hcode : X.env.code = .ref c)
    (eq : X.env.qual ++ "<lambda>" = q) (hm : (P, q) ∈ T) (hu : ∀ p ∈ T, p.1 = P → p.2 = q) (hT : Tabs T H) (hdef : defaultsOf params X.env = ([], [])) (hfree : ∀ y ∈ scope.names, y.2 = .free → ∃ c, X.env.cells.lookup y.1 = some c)
    (h : ∀ (f c' : Addr) (pm ctv : Value) (H1 : Hp) (s' : Shared), Inv X pins σ H1 s' → But P H H1 → Tabs T H1 →
      s'.heap.get? f = some (PySem.W.kla_obj "<lambda>" q params body scope (cloFrom X.env.cells scope.names []) pm c' ctv) → H1 f = none → f ∉ frs X.stack → H1 c' = some (CodeO c' q) → Q (.ref f) s') :
    wpAny (model X.prog X.w) X.A (eval (.Lambda params body scope pos) X.env) Q E s := by
  subst eq
  obtain ⟨ps, hP, tri, among⟩ := hT _ hm
  have hP : H P = some (.tbl ps) := hP
  have away : ∀ g, s.heap.objs.size ≤ g → g ∉ frs X.stack := fun g hg z => (List.mem_cons.mp (I.stkSub _ z)).elim (fun e => absurd I.lt (Nat.not_lt.mpr (e ▸ hg))) fun e => I.nofs hg e
  have got : s.heap.get? P = some { cls := .none, data := .fields ps } := I.hok P _ hP
  refine PySem.W.kla_eval hdef ?_
  rcases hc : codeAmong pos ps.toList with _ | cv
  · refine PySem.W.kla_makeFunction (mg := X.mg) (c := c) (P := P) (ps := ps) (closure_ok hfree) I.ok.glob (I.mod.glob.keeps I.bk) hcode (TB.code.keeps I.bk) got tri hc TB.gP (TB.bm.keeps I.bk) fun c' ctv h' tk hx hge hlt hrec htb => ?_
    obtain ⟨_, oc, vs, t, ec, hoc, hd, hv⟩ := hrec
    cases ec
    have big : s.heap.objs.size ≤ h'.objs.size := Nat.le_of_lt (Nat.lt_of_le_of_lt hge hlt)
    have new : H c' = none := I.hok.fresh hge
    have J := inv_table (t' := tk) (more := #[rawInt pos.line, rawInt pos.col, .ref c']) (h' := h'.push (PySem.W.kla_obj "<lambda>" (X.env.qual ++ "<lambda>") params body scope (cloFrom X.env.cells scope.names []) ((X.mg "__name__").getD .none) c' ctv)) I hP
      (fun b o hb e => Heap.get?_push_of_some _ (hx b o hb e)) (Heap.get?_push_of_some _ htb) hge ⟨oc, vs, t, Heap.get?_push_of_some _ hoc, hd, hv⟩
    have hb : But P H (upd (upd H P (.tbl (ps ++ #[rawInt pos.line, rawInt pos.col, .ref c']))) c' (CodeO c' (X.env.qual ++ "<lambda>"))) := fun b o n e => by
      rw [upd_ne (ne_of_none e new), upd_ne n]
      exact e
    have cP : ∀ a r, H a = some (CodeO a r) → a ≠ P := fun a r e z => by
      rw [z, hP] at e
      exact codeO_ne ps (Option.some.inj e).symm
    refine h h'.objs.size c' ((X.mg "__name__").getD .none) ctv _ _ J hb (fun p hp => ?_) (Heap.get?_push_size _ rfl) ?_ (away _ big) upd_same
    · obtain ⟨ps', a1, a2, a3⟩ := hT p hp
      by_cases z : p.1 = P
      · refine ⟨ps ++ #[rawInt pos.line, rawInt pos.col, .ref c'], ?_, ?_, fun p' cv hcv => ?_⟩
        · rw [z, upd_ne (ne_of_none hP new), upd_same]
        · rw [show (ps ++ #[rawInt pos.line, rawInt pos.col, Value.ref c']).toList = ps.toList ++ [rawInt pos.line, rawInt pos.col, .ref c'] by simp]
          exact PySem.TriplesOk_snoc _ _ _ _ tri
        · rw [show (ps ++ #[rawInt pos.line, rawInt pos.col, Value.ref c']).toList = ps.toList ++ [rawInt pos.line, rawInt pos.col, .ref c'] by simp] at hcv
          rw [hu p hp z]
          rcases among_app _ tri hcv with y | y
          · obtain ⟨c0, e1, e2⟩ := among p' cv y
            exact ⟨c0, e1, hb _ _ (cP _ _ e2) e2⟩
          · exact ⟨c', y, upd_same⟩
      · refine ⟨ps', hb _ _ z a1, a2, fun p' cv hcv => ?_⟩
        obtain ⟨c0, e1, e2⟩ := a3 p' cv hcv
        exact ⟨c0, e1, hb _ _ (cP _ _ e2) e2⟩
    · rw [upd_ne (Nat.ne_of_gt hlt), upd_ne (Nat.ne_of_gt (Nat.lt_of_lt_of_le (Heap.lt_size got) big))]
      exact I.hok.fresh big
  · obtain ⟨c', rfl, hco⟩ := among pos cv hc
    refine PySem.W.kla_makeFunctionHit (mg := X.mg) (c := c) (P := P) (ps := ps) (closure_ok hfree) I.ok.glob (I.mod.glob.keeps I.bk) hcode (TB.code.keeps I.bk) got tri hc (TB.bm.keeps I.bk) fun ctv h' tk hx hsz => ?_
    exact h h'.objs.size c' ((X.mg "__name__").getD .none) ctv H _ (I.kept fun b o e => Heap.get?_push_of_some _ (hx b o e)) (fun _ _ _ e => e) hT (Heap.get?_push_size _ rfl) (I.hok.fresh hsz) (away _ hsz) hco
end
end Lx

set_option Elab.async false
set_option linter.all false
set_option maxRecDepth 100000
set_option maxHeartbeats 2000000
/-! Lx2: the lambda's body runs in the def that got it -/
namespace Lx
open PySem PySem.Spec PyProof.Rows L2 LamX
/-- its context, with what it lets out told with the context None -/
abbrev lamN (X : Cx) (A : Around) (outer : List PySem.Env) (s : Shared) (H : Hp) (E : XK) (scope : Scope) (f c' : Addr) : Cx :=
  (lamCx X A outer s H E scope f c').tr ((lamCx X A outer s H E scope f c').pn ++ []) (fun e s' => wpAny (model X.prog X.w) (A.deeper (lamEnv X scope s.heap.objs.size f c')) (leaving (lamEnv X scope s.heap.objs.size f c') e) (fun _ s'' => L2N.CX X.prog X.w outer H s E e s'') (fun e' s'' => L2N.CX X.prog X.w outer H s E e' s'') s')
theorem lamN_takes {X : Cx} {A : Around} {outer : List PySem.Env} {s : Shared} {H : Hp} {E : XK} {scope : Scope} {f c' : Addr} : L2N.Takes (lamN X A outer s H E scope f c') (fun cls d _ H' => E cls d H') :=
  L2N.takes_of rfl rfl rfl rfl
section
variable {X : Cx} {pins : List (Addr × Obj)} {σ : L2.St} {H HZ : Hp} {s s1 : Shared}
/-- x() in the def that got it; Z is that def's context, entered at s from X -/
theorem acts {Z : Cx} {Ng : List Str} {qg : Str} {sg : Scope} {g f c' : Addr} {cdg pm ctv : Value} {params : Arguments} {body : Expr} {scope : Scope} {k i : Nat} {a : Str} {pn : List (Addr × Obj)} {xe : Value → Shared → Prop} {W : WX} {E' : XK} {tb : XK → TE} {p1 p2 : Pos}
    (I : Inv X pins σ H s) (L : LamS X.env.scope scope) (hf : s.heap.get? f = some (PySem.W.kla_obj "<lambda>" (X.env.qual ++ "<lambda>") params body scope (cloFrom X.env.cells scope.names []) pm c' ctv)) (hfn : H f = none) (hfr : f ∉ frs X.stack)
    (hbind : bindArgs (PySem.W.kla_fn "<lambda>" (X.env.qual ++ "<lambda>") params body scope (cloFrom X.env.cells scope.names []) pm (.ref c') ctv) ⟨[], []⟩ = pure [])
    (eZ : Z = (cxOf (L2N.CX X.prog X.w) X.prog X.w X.K X.mg X.base Ng qg sg g cdg X.A X.stack s H E').tr pn xe)
    (tk : L2N.Takes Z W) (hr : Room (k + 1) (X.A.deeper (envOfC qg sg s.heap.objs.size g cdg)))
    (hbody : ∀ (A : Around) (outer : List PySem.Env) (s : Shared) (H : Hp) (E : XK), Room k (A.deeper (lamEnv X scope s.heap.objs.size f c')) → PE (lamN X A outer s H E scope f c') body (tb E))
    (hN : Ng[i]? = some a) (hv : Vis sg a) (hd : (a == ("__debug__" : Str)) = false := by decide) (hcd : (a == ("__classdict__" : Str)) = false := by decide) :
    PE Z (.Call (.Name a p1) [] [] p2) (fun σZ HZ Q => σZ[i]? = some (some (.ref f)) ∧ HZ c' = some (CodeO c' (X.env.qual ++ "<lambda>")) ∧ tb (WE W σZ) σ HZ Q) := by
  subst eZ
  refine ⟨fun pinsZ sZ σZ HZ Q IZ ⟨hs, hc, ht⟩ => ?_⟩
  refine wpAny_Call_Name_kw (thn ((pe_var (pos := p1) (i := i) hN hv hd hcd).run pinsZ sZ σZ HZ (fun v H1 => v = .ref f ∧ H1 = HZ) IZ ⟨.ref f, hs, rfl, rfl⟩) fun u s1 ⟨v, H1, I1, r1, ev, eH⟩ => ?_)
  subst ev
  rw [eH] at I1
  obtain rfl : u = Value.ref f := r1
  have un : Un (frs X.stack) [] H HZ s.heap s1.heap := I1.base
  have of1 : s1.heap.get? f = some (PySem.W.kla_obj "<lambda>" (X.env.qual ++ "<lambda>") params body scope (cloFrom X.env.cells scope.names []) pm c' ctv) := un.keep f _ hf hfn hfr (fun z => nomatch z)
  obtain ⟨⟨oc, vs, t, hoc, hdc, hvc⟩, _, _⟩ := I1.hok c' _ hc
  refine PySem.W.callWith_F0 ⟨_, _, _, _, of1⟩ (wpAny_call (codeAny_mono (R := CR (L2N.CX X.prog X.w) (envOfC qg sg s.heap.objs.size g cdg :: X.stack) X.prog X.w HZ s1 Q (WE W σZ)) ?_ fun r s' hq => ?_))
  · show codeAny (model X.prog X.w) (X.A.deeper (envOfC qg sg s.heap.objs.size g cdg)) (.call (.ref f) ⟨[], []⟩) (CR (L2N.CX X.prog X.w) (envOfC qg sg s.heap.objs.size g cdg :: X.stack) X.prog X.w HZ s1 Q (WE W σZ)) s1
    refine PySem.W.kla_callFunE hr.depth of1 rfl L.co L.gen rfl ⟨c', oc, vs, t, rfl, hoc, hdc, hvc⟩ ?_
    rw [hbind]
    refine wpAny_pure (wpAny_newFunctionEnv (fun y hy => (L.own y hy).2) (fun y hy => nomatch hy) (fun h₁ hns hsb => ⟨I1.nolimit.fresh _ hsb, ?_⟩) L.kind)
    show codeAny _ _ (.expr body (lamEnv X scope s1.heap.objs.size f c')) _ _
    have kp : ∀ b o, s1.heap.get? b = some o → h₁.get? b = some o := fun b o e => hsb.extBut b o (Nat.ne_of_lt (Heap.lt_size e)) (Heap.get?_push_of_some _ e)
    have J0 : Inv (lamCx X (X.A.deeper (envOfC qg sg s.heap.objs.size g cdg)) (envOfC qg sg s.heap.objs.size g cdg :: X.stack) s1 HZ (WE W σZ) scope f c') [] σ HZ { s1 with heap := h₁, toks := s1.toks + ([] : List (Str × Value)).length } :=
      lam_start2 I L I1.env0 hr.hd un hns kp
    have J := J0.toTry (fun e s' => wpAny (model X.prog X.w) ((X.A.deeper (envOfC qg sg s.heap.objs.size g cdg)).deeper (lamEnv X scope s1.heap.objs.size f c')) (leaving (lamEnv X scope s1.heap.objs.size f c') e)
      (fun _ s'' => L2N.CX X.prog X.w (envOfC qg sg s.heap.objs.size g cdg :: X.stack) HZ s1 (WE W σZ) e s'') (fun e' s'' => L2N.CX X.prog X.w (envOfC qg sg s.heap.objs.size g cdg :: X.stack) HZ s1 (WE W σZ) e' s'') s')
    refine PySem.W.kla_codeExpr (wpAny_mono ((hbody _ _ s1 HZ _ (hr.deeper _)).run [] _ _ HZ Q J ht) (fun v s' hq => ?_) fun e s' hq => hq)
    obtain ⟨w', H', J', rv, q⟩ := hq
    exact ⟨w', H', J'.os, J'.bare, J'.base, J'.hok, rv, q⟩
  · cases r with
    | error e => exact L2N.passAt tk σZ pinsZ HZ s1 e s' I1 hq
    | ok fl =>
      cases fl with
      | ret u => exact I1.after hq
      | next => exact hq.elim
      | brk => exact hq.elim
      | cont => exact hq.elim
end
end Lx

set_option Elab.async false
set_option linter.all false
set_option maxRecDepth 100000
set_option maxHeartbeats 2000000
/-! Lx3: the fields of a caught error handed to a def -/
namespace Lx
open PySem PySem.Spec PyProof.Rows L2 LamX Mp
/-- slot i holds the caught error, of class C, with the fields fs -/
def XF (K : PySem.W.Frag) (i : Nat) (a : Addr) (cls : Value) (d : Option Addr) (C : Addr) (fs : List (Str × D)) (σ : L2.St) (H : Hp) (ρ : List Addr) : Prop :=
  σ[i]? = some (some (.ref a)) ∧ cls = .ref C ∧ ∃ (dd : Addr) (vs : List (Str × V)), d = some dd ∧ H dd = some (.xd vs) ∧ DenF K H ρ fs vs
section
variable {K : PySem.W.Frag} {T : Tb} {W : WX} {ρ : List Addr} {M : Sto} {τ : Mp.Env} {σ : L2.St} {H : Hp} {i : Nat} {a C : Addr} {cls : Value} {d : Option Addr}
theorem XF.two {w1 w2 : Str} {d1 d2 : D} (x : XF K i a cls d C [(w1, d1), (w2, d2)] σ H ρ) : ∃ (dd : Addr) (v1 v2 : V), d = some dd ∧ H dd = some (.xd [(w1, v1), (w2, v2)]) ∧ Den K H ρ d1 v1 ∧ Den K H ρ d2 v2 := by
  obtain ⟨_, _, dd, vs, e1, e2, n, l⟩ := x
  match vs, n, l with
  | [(y1, v1), (y2, v2)], n, l =>
    simp only [List.map_cons, List.map_nil, List.cons.injEq, and_true] at n
    obtain ⟨rfl, rfl⟩ := n
    refine ⟨dd, v1, v2, e1, e2, ?_⟩
    simp only [List.map_cons, List.map_nil, DenL] at l
    obtain ⟨_, _, e, h1, _, _, e', h2, rfl⟩ := l
    cases e
    cases e'
    exact ⟨h1, h2⟩
  | [], n, _ => simp at n
  | [_], n, _ => simp at n
  | _ :: _ :: _ :: _, n, _ => simp at n
theorem args_of {w1 w2 : Str} {d1 d2 : D} {f2 : FE} {Q : List V → Hp → Prop} (sg : Sg K T ρ M H τ σ []) (x : XF K i a cls d C [(w2, d2), (w1, d1)] σ H ρ) (ne : (w2 == w1) = false)
    (q : Good K T W σ ρ H (RA K Q) ((f2 τ M).bind fun u M1 => .ok [.tup [d1, d2], u] M1)) :
    tCons (tTup (tCons (tXf a cls d C w1 (tVar i)) (tCons (tXf a cls d C w2 (tVar i)) tNil))) (tCons (tE K T W f2) tNil) σ H Q := by
  have ne' : (w1 == w2) = false := by
    rw [beq_eq_false_iff_ne] at ne ⊢
    exact Ne.symm ne
  obtain ⟨dd, v2, v1, e1, e2, h2, h1⟩ := x.two
  obtain ⟨s1, s2, _⟩ := x
  have l1 : ([(w2, v2), (w1, v1)] : List (Str × V)).lookup w1 = some v1 := by simp [List.lookup, ne']
  have l2 : ([(w2, v2), (w1, v1)] : List (Str × V)).lookup w2 = some v2 := by simp [List.lookup]
  refine ⟨.ref a, s1, rfl, s2, dd, _, v1, e1, e2, l1, .ref a, s1, rfl, s2, dd, _, v2, e1, e2, l2, ?_, fun p hp => ?_⟩
  · rw [sizeLine_eq]; simp
  · obtain ⟨r, y⟩ := sg.rel.other (u := .tup [v1, v2]) hp
    refine ⟨ρ, M, τ, ⟨r, sg.env.mono y, fun _ z => nomatch z⟩, ?_⟩
    have hl : DenL K H ρ [d1, d2] [v1, v2] := by
      unfold DenL
      refine ⟨v1, _, rfl, h1, ?_⟩
      unfold DenL
      refine ⟨v2, _, rfl, h2, ?_⟩
      unfold DenL
      rfl
    have hd : Den K (upd H p (.tup [v1, v2])) ρ (.tup [d1, d2]) (.ref p) := den_new_tup hp hl
    cases h : f2 τ M with
    | ok u M1 =>
      rw [h] at q
      intro ρ' H' z r' v hv
      exact q ρ' H' (y.trans z) r' [.ref p, v] (by
        have := Den.mono z _ hd
        unfold DenL
        exact ⟨_, _, rfl, this, by simpa [DenL] using hv⟩)
    | exn C' fs M1 =>
      rw [h] at q
      intro ρ' H' dd' vs z r' e' l'
      exact q ρ' H' dd' vs (y.trans z) r' e' l'
    | bad => rw [h] at q; exact q.elim
end
end Lx

set_option Elab.async false
set_option linter.all false
set_option maxRecDepth 100000
set_option maxHeartbeats 2000000
/-! Lx4: isinstance(e, A) and isinstance(e, B) and f((e.v, e.w), x) in the suite of except .. as e -/
namespace Lx
open PySem PySem.Spec PyProof.Rows L2 LamX Mp
/-- the reading's state with the caught error -/
def tXE (K : PySem.W.Frag) (T : Tb) (W : WX) (i : Nat) (a : Addr) (cls : Value) (d : Option Addr) (C : Addr) (w1 w2 : Str) (f : D → D → FE) : TE := fun σ H Q =>
  ∃ ρ M τ d1 d2, Sg K T ρ M H τ σ [] ∧ XF K i a cls d C [(w2, d2), (w1, d1)] σ H ρ ∧ Good K T W σ ρ H (RE K Q) (f d1 d2 τ M)
section
variable {X : Cx} {T : Tb} {W : WX} {i : Nat} {a C : Addr} {cls : Value} {d : Option Addr} {oe : Obj} {pn : List (Addr × Obj)} {n : Str}
theorem px_isi {cn : Str} {c : V} {p1 p2 p3 p4 : Pos} (hN : X.N[i]? = some n) (hv : Vis X.env.scope n) (hd : (n == ("__debug__" : Str)) = false) (hcd : (n == ("__classdict__" : Str)) = false) (E : L2.ExcC X.K C) (hz : Zc (.ref C) d oe) (hf : ∃ vs, oe.data = .fields vs)
    {dd : Addr} (ed : d = some dd) (hg : Gl X "isinstance") (hm : X.mg "isinstance" = none) (hc : PE (X.suite a ((a, oe) :: pn)) (.Name cn p4) (tC c)) :
    PE (X.suite a ((a, oe) :: pn)) (.Call (.Name "isinstance" p2) [.Name n p1, .Name cn p4] [] p3) (tCB (ExD.rIsED X.K C a dd) (tCons (tVar i) (tCons (tC c) tNil))) := by
  subst ed
  exact pe_callB (ExD.call_isED E hz hf) hg hm PyProof.Rows.boot_isinstance (pa_cons (pe_var hN hv hd hcd) (pa_cons hc pa_nil)) (by decide) (by decide)
theorem isi_of {dd : Addr} {c : V} {cv : Value} {K : PySem.W.Frag} {σ : L2.St} {H : Hp} {Q : VK} {fs : List (Str × V)} (h1 : σ[i]? = some (some (.ref a))) (h2 : ∀ u, RelV c u → u = cv) (h3 : PySem.W.kitOne K (.ref C) cv = some true) (h4 : H dd = some (.xd fs)) {tb : TE} (q : tb σ H Q) :
    tAndV (tCB (ExD.rIsED K C a dd) (tCons (tVar i) (tCons (tC c) tNil))) tb σ H Q :=
  ⟨.ref a, h1, c, cv, true, fs, rfl, h2, h3, h4, true, rfl, by rw [if_pos rfl]; exact q⟩
/-- isinstance(e, A) and isinstance(e, B) and f((e.v, e.w), x) -/
theorem px_and {k : Nat} {f : Addr} {fd : FuncData} {ps : List Str} {F : FD} {f2 : FE} {es2 : List Expr} {x2} {p16 : Pos} {cn1 cn2 w1 w2 x : Str} {c1 c2 : V} {cv1 cv2 : Value} {p1 p2 p3 p4 p5 p6 p7 p8 p9 p10 p11 p12 p13 p14 p15 p17 : Pos} {x1}
    (hN : X.N[i]? = some n) (hv : Vis X.env.scope n) (hnd : (n == ("__debug__" : Str)) = false) (hcd : (n == ("__classdict__" : Str)) = false) (E : L2.ExcC X.K C) (XC : XfC X.K C) (no1 : PySem.W.findIn X.K (.ref C) w1 = some none) (no2 : PySem.W.findIn X.K (.ref C) w2 = some none) (ne : (w2 == w1) = false)
    (hz : Zc cls d oe) (hf : ∃ vs, oe.data = .fields vs) (hg : Gl X "isinstance") (hm : X.mg "isinstance" = none)
    (hc1 : PE (X.suite a ((a, oe) :: pn)) (.Name cn1 p3) (tC c1)) (hc2 : PE (X.suite a ((a, oe) :: pn)) (.Name cn2 p6) (tC c2)) (v1 : ∀ u, RelV c1 u → u = cv1) (v2 : ∀ u, RelV c2 u → u = cv2) (k1 : PySem.W.kitOne X.K (.ref C) cv1 = some true) (k2 : PySem.W.kitOne X.K (.ref C) cv2 = some true)
    (Fn : L2H.FnH X.prog X.w X.K X.mg X.base (L2N.CX X.prog X.w) k f fd ps (spI X.K T ps.length F)) (hl : ps.length = 2) (hr : L2H.RoomH k (X.suite a ((a, oe) :: pn)).A) (hc : L2H.HotC (X.suite a ((a, oe) :: pn))) (hgx : Gl X x) (hmx : X.mg x = some (.ref f)) (hk : PySem.W.keepIn X.K (.ref f) = true) (hb : Binds X.K fd ps [])
    (tk : L2N.Takes (X.suite a ((a, oe) :: pn)) W) (hdb : (x == ("__debug__" : Str)) = false) (h2 : PE (X.suite a ((a, oe) :: pn)) (.Tuple es2 x2 p16) (tE X.K T W f2)) :
    PE (X.suite a ((a, oe) :: pn)) (.BoolOp .And [.Call (.Name "isinstance" p1) [.Name n p2, .Name cn1 p3] [] p4, .Call (.Name "isinstance" p5) [.Name n p7, .Name cn2 p6] [] p8, .Call (.Name x p9) [.Tuple [.Attribute (.Name n p10) w1 p11, .Attribute (.Name n p12) w2 p13] x1 p14, .Tuple es2 x2 p16] [] p15] p17)
      (tXE X.K T W i a cls d C w1 w2 fun d1 d2 τ M => (f2 τ M).bind fun u M1 => F [.tup [d1, d2], u] M1) := by
  refine ⟨fun pins s σ H Q I h => ?_⟩
  obtain ⟨ρ, M, τ, d1, d2, sg, xf, q⟩ := h
  obtain ⟨e1, ec, dd, vs, ed, eH, _⟩ := id xf
  subst ec
  have hv' : PE (X.suite a ((a, oe) :: pn)) (.Name n p10) (tVar i) := pe_var hN hv hnd hcd
  have hv'' : PE (X.suite a ((a, oe) :: pn)) (.Name n p12) (tVar i) := pe_var hN hv hnd hcd
  refine (pe_and (px_isi hN hv hnd hcd E hz hf ed hg hm hc1) (pe_and (px_isi hN hv hnd hcd E hz hf ed hg hm hc2) (pe_one (L2H.pe_callH (E := WE W) Fn hr hc hgx hmx hk hb (L2N.passAt tk)
    (pa_cons (pe_tup (pa_cons (pe_xf XC no1 hz hf hv') (pa_cons (pe_xf XC no2 hz hf hv'') pa_nil))) (pa_cons h2 pa_nil)) hdb)))).run pins s σ H Q I (isi_of e1 v1 k1 eH (isi_of e1 v2 k2 eH ?_))
  refine args_of sg xf ne ?_
  dsimp only at q
  cases h : f2 τ M with
  | ok u M1 =>
    rw [h] at q
    intro ρ' H' y r vs hv
    refine ⟨ρ', M1, _, by rw [hl]; rfl, r, hv, ?_⟩
    have q := Good.mono y q
    cases h' : F [.tup [d1, d2], u] M1 with
    | ok d M' => simp only [Res.bind, h'] at q ⊢; exact q
    | exn C' fs M' => simp only [Res.bind, h'] at q ⊢; exact q
    | bad => simp only [Res.bind, h'] at q; exact q
  | exn C' fs M1 =>
    rw [h] at q
    exact q
  | bad => rw [h] at q; exact q
end
end Lx

set_option Elab.async false
set_option linter.all false
set_option maxRecDepth 100000
set_option maxHeartbeats 4000000
/-! Lx5: f(lambda: E, 'word') whose def calls the lambda in a try -/
namespace Lx
open PySem PySem.Spec PyProof.Rows L2 LamX Mp
theorem hide {K : PySem.W.Frag} {H : Hp} {ρ : List Addr} {τ : Mp.Env} {σ : L2.St} {i : Nat} {v : Option V} (h : DenE K H ρ τ σ) : DenE K H ρ (τ.set i none) (σ.set i v) := by
  refine ⟨by simpa using h.1, fun j e hj => ?_⟩
  by_cases hji : j = i
  · subst hji
    have hl : j < τ.length := by have := (List.getElem?_eq_some_iff.mp hj).1; simpa using this
    rw [List.getElem?_set_self hl] at hj
    cases hj
  · rw [List.getElem?_set_ne (Ne.symm hji)] at hj
    obtain ⟨u, e1, q1⟩ := h.2 j e hj
    exact ⟨u, by rw [List.getElem?_set_ne (Ne.symm hji)]; exact e1, q1⟩
theorem good0 {α : Type} {K : PySem.W.Frag} {T : Tb} {σ σ' : L2.St} {ρ : List Addr} {H : Hp} {R : α → List Addr → Hp → Prop} : ∀ {r : Res α}, Good K T W0 σ ρ H R r → Good K T W0 σ' ρ H R r
  | .ok _ _, h => h
  | .exn _ _ _, h => h
  | .bad, h => h
/-- the call's reading, from the reading of the lambda's body -/
def rdRef (C : Addr) (w1 w2 : Str) (g : D → D → Sto → Res D) : Res D → Res D
  | .ok _ M => .ok (.bl false) M
  | .exn C' [(y2, d2), (y1, d1)] M => if C' = C ∧ y1 = w1 ∧ y2 = w2 then g d1 d2 M else .bad
  | _ => .bad
section
variable {Z : Cx} {T : Tb} {n q : Str} {f c' C : Addr} {i : Nat} {σX : L2.St} {fb : FE} {cN : Value} {w1 w2 xN xL : Str} {g2 : D → D → FE} {ec : Expr} {call : Expr} {H : Hp} {Q : VK}
  {p1 p2 p3 p4 p5 p6 p7 p8 p9 p12 p13 : Pos} {jc jc2} {cL : Value}
/-- try: deed() except N as e: return ec except L: return False, then return False -/
theorem walks (hs : Z.stack = Z.env :: Z.outer) (hfr : Z.env.frame = some Z.env.locals) (hNd : Z.N.Nodup) (hi : Z.N[i]? = some n) (hln : Z.env.kindOf n = some .local) (hcN : Names Z xN cN) (hcL : Names Z xL cL)
    (hsw : swapsWith call none p9.line Z.env = pure false)
    (hcall : ∀ (W : WX) (pn : List (Addr × Obj)) (xe : Value → Shared → Prop), L2N.Takes (Z.tr pn xe) W → PE (Z.tr pn xe) call (fun σZ HZ Q => σZ[0]? = some (some (.ref f)) ∧ HZ c' = some (CodeO c' q) ∧ tE Z.K T (fun cls d _ H' => W cls d σZ H') fb σX HZ Q))
    (hsu : ∀ (a : Addr) (oe : Obj) (cls : Value) (d : Option Addr) (pn : List (Addr × Obj)), L2N.Zn cls d oe → (∃ vs, oe.data = .fields vs) → PE (Z.suite a ((a, oe) :: pn)) ec (tXE Z.K T W0 i a cls d C w1 w2 g2))
    (ex : PySem.W.exmOne Z.K (.ref C) cN = some true) {ρ : List Addr} {M : Sto} {τ τ0 : Mp.Env} {σ0 : L2.St} (s0 : σ0[0]? = some (some (.ref f))) (hc : H c' = some (CodeO c' q)) (hl : i < σ0.length) (sg : Sg Z.K T ρ M H τ σX []) (sg0 : Sg Z.K T ρ M H τ0 σ0 [])
    (gd : Good Z.K T W0 σX ρ H (RE Z.K Q) (rdRef C w1 w2 (fun d1 d2 M => g2 d1 d2 (τ0.set i none) M) (fb τ M))) :
    ∃ t, PSs Z [.Try [.Expr call p9] [.ExceptHandler (some (.Name xN p1)) (some n) [.Return (some ec) p2] p3, .ExceptHandler (some (.Name xL p4)) none [.Return (some (.Constant (.bool false) jc p5)) p6] p7] [] [] p8, .Return (some (.Constant (.bool false) jc2 p12)) p13] t ∧
      t { nx := fun _ H' => Q .non H', rt := Q } σ0 H := by
  have two : ∀ (a : Addr) (oe : Obj) (pn : List (Addr × Obj)), PSs (Z.suite a ((a, oe) :: pn)) [.Return (some (.Constant (.bool false) jc p5)) p6] (tRet (tC (.bl false))) := fun a oe pn => pss_one (ps_ret pe_bl)
  refine ⟨_, pss_cons (Tx.ps_tryA (Wout := W0) (tb := fun W => tDrop fun σZ HZ Q => σZ[0]? = some (some (V.ref f)) ∧ HZ c' = some (CodeO c' q) ∧ tE Z.K T (fun cls d _ H' => W cls d σZ H') fb σX HZ Q)
    (l := [(cN, some i, fun a cls d => tRet (tXE Z.K T W0 i a cls d C w1 w2 g2)), (cL, none, fun _ _ _ => tRet (tC (.bl false)))]) hs hfr takes00 (fun W pn xe tk _ => pss_one (ps_expr (hcall W pn xe tk) hsw)) hNd
    (.as hcN hi hln (fun a oe cls d pn hz hf => pss_one (ps_ret (hsu a oe cls d pn hz hf))) (.cons hcL (fun a oe cls d pn _ _ => two a oe pn) .nil))) (pss_one (ps_ret pe_bl)), s0, hc, ρ, M, τ, sg, ?_⟩
  cases h : fb τ M with
  | ok u M1 =>
    rw [h] at gd
    exact fun ρ' H' x r v hv => gd ρ' H' x r _ (by unfold Den; rfl)
  | bad => rw [h] at gd; exact gd.elim
  | exn C' fs M1 =>
    rw [h] at gd
    match fs, gd with
    | [(y2, d2), (y1, d1)], g3 =>
      simp only [rdRef] at g3
      by_cases hh : C' = C ∧ y1 = w1 ∧ y2 = w2
      · rw [if_pos hh] at g3
        obtain ⟨rfl, rfl, rfl⟩ := hh
        intro ρ' H' dd vs x r eH df
        refine ⟨true, ex, fun _ a na => ?_, fun z => nomatch z⟩
        refine ⟨ρ', M1, τ0.set i none, d1, d2, ⟨r, hide (sg0.env.mono x), fun _ z => nomatch z⟩, ⟨List.getElem?_set_self hl, rfl, dd, vs, rfl, eH, df⟩, ?_⟩
        exact good0 (Good.mono x g3)
      · rw [if_neg hh] at g3; exact g3.elim
    | [], g3 => exact g3.elim
    | [_], g3 => exact g3.elim
    | _ :: _ :: _ :: _, g3 => exact g3.elim
end
end Lx

set_option Elab.async false
set_option linter.all false
set_option maxRecDepth 100000
set_option maxHeartbeats 4000000
/-! Lx6: f(lambda: E, 'word'), an expression's rule -/
namespace Lx
open PySem PySem.Spec PyProof.Rows L2 LamX Mp
def noX : Res D → Res D
  | .ok d M => .ok d M
  | _ => .bad
theorem good_noX {K : PySem.W.Frag} {T : Tb} {W : WX} {σ : L2.St} {ρ : List Addr} {H : Hp} {R : D → List Addr → Hp → Prop} : ∀ {r : Res D}, Good K T W σ ρ H R (noX r) → Good K T W0 σ ρ H R r
  | .ok _ _, h => h
  | .exn _ _ _, h => h.elim
  | .bad, h => h
/-- the slots of the def that got the lambda and a text -/
def slots2 (n : Nat) (w : Str) : Mp.Env := (startD n [.non, .str w]).set 0 none
theorem slots2_den {K : PySem.W.Frag} {H : Hp} {ρ : List Addr} {N : List Str} {w : Str} {f : Addr} : DenE K H ρ (slots2 N.length w) (L2.start N [.ref f, .str w]) := by
  have h : DenE K H ρ (startD N.length [.non, .str w]) (L2.start N [.non, .str w]) := start_den (by
    unfold DenL
    refine ⟨.non, _, rfl, by unfold Den; rfl, ?_⟩
    unfold DenL
    refine ⟨.str w, _, rfl, by unfold Den; rfl, ?_⟩
    unfold DenL
    rfl)
  have e : L2.start N [.ref f, .str w] = (L2.start N [.non, .str w]).set 0 (some (.ref f)) := by
    simp [L2.start]
  rw [e]
  exact hide h
section
variable {X : Cx} {T : Tb} {W : WX} {k i : Nat} {x a b q n w w1 w2 xN xL : Str} {g c P C : Addr} {pg : Arguments} {sg : Scope} {dV kV doc pm cdv ct oc cN cL : Value} {an od : Option Addr} {osl : Array (Option Value)} {Ng : List Str} {params : Arguments} {body ec : Expr} {scope : Scope} {fb : FE} {g2 : D → D → FE}
  {p lp wp pos p1 p2 p3 p4 p5 p6 p7 p8 p9 p10 p11 p12 p13 : Pos} {jc jc2 jw}
theorem refused (hg : Gl X x) (hm : X.mg x = some (.ref g)) (hk : PySem.W.keepIn X.K (.ref g) = true)
    (lk : X.K.lookup g = some ⟨oc, od, .func (PySem.W.fnOf x x pg [.Try [.Expr (.Call (.Name a p10) [] [] p11) p9] [.ExceptHandler (some (.Name xN p1)) (some n) [.Return (some ec) p2] p3, .ExceptHandler (some (.Name xL p4)) none [.Return (some (.Constant (.bool false) jc p5)) p6] p7] [] [] p8, .Return (some (.Constant (.bool false) jc2 p12)) p13] sg dV kV doc pm an cdv ct), osl⟩)
    (hcg : PySem.W.codeIn X.K cdv x = true)
    (hb : L2.Binds X.K (PySem.W.fnOf x x pg [.Try [.Expr (.Call (.Name a p10) [] [] p11) p9] [.ExceptHandler (some (.Name xN p1)) (some n) [.Return (some ec) p2] p3, .ExceptHandler (some (.Name xL p4)) none [.Return (some (.Constant (.bool false) jc p5)) p6] p7] [] [] p8, .Return (some (.Constant (.bool false) jc2 p12)) p13] sg dV kV doc pm an cdv ct) [a, b] [])
    (Sg : FnScope Ng [a, b] sg) (hNg : Ng[0]? = some a) (hva : Vis sg a) (hNd : Ng.Nodup) (hi : Ng[i]? = some n)
    (TB : TabB X.base X.mg c P) (hcode : X.env.code = .ref c) (eq : X.env.qual ++ "<lambda>" = q) (hmT : (P, q) ∈ T.lam) (hu : ∀ p ∈ T.lam, p.1 = P → p.2 = q) (hr : Room (k + 2) X.A) (L : LamS X.env.scope scope) (hdef : defaultsOf params X.env = ([], []))
    (hbind : ∀ (q : Str) (cl : List (Str × Addr)) (pm cv ctv : Value), bindArgs (PySem.W.kla_fn "<lambda>" q params body scope cl pm cv ctv) ⟨[], []⟩ = pure [])
    (hln : ∀ (s : Shared) (H : Hp), (cxOf (L2N.CX X.prog X.w) X.prog X.w X.K X.mg X.base Ng x sg g cdv X.A X.stack s H fun _ _ _ => False).env.kindOf n = some .local)
    (hcN : ∀ (s : Shared) (H : Hp), Names (cxOf (L2N.CX X.prog X.w) X.prog X.w X.K X.mg X.base Ng x sg g cdv X.A X.stack s H fun _ _ _ => False) xN cN)
    (hcL : ∀ (s : Shared) (H : Hp), Names (cxOf (L2N.CX X.prog X.w) X.prog X.w X.K X.mg X.base Ng x sg g cdv X.A X.stack s H fun _ _ _ => False) xL cL)
    (hsw : ∀ (s : Shared) (H : Hp), swapsWith (.Call (.Name a p10) [] [] p11) none p9.line (cxOf (L2N.CX X.prog X.w) X.prog X.w X.K X.mg X.base Ng x sg g cdv X.A X.stack s H fun _ _ _ => False).env = pure false)
    (hbody : ∀ (A : Around) (outer : List PySem.Env) (s : Shared) (H : Hp) (E : XK) (f c' : Addr), Room k (A.deeper (lamEnv X scope s.heap.objs.size f c')) → PE (lamN X A outer s H E scope f c') body (tE X.K T (fun cls d _ H' => E cls d H') fb))
    (hsu : ∀ (s : Shared) (H : Hp) (a : Addr) (oe : Obj) (cls : Value) (d : Option Addr) (pn : List (Addr × Obj)), Room (k + 1) (X.A.deeper (envOfC x sg s.heap.objs.size g cdv)) → L2N.Zn cls d oe → (∃ vs, oe.data = .fields vs) →
      PE ((cxOf (L2N.CX X.prog X.w) X.prog X.w X.K X.mg X.base Ng x sg g cdv X.A X.stack s H fun _ _ _ => False).suite a ((a, oe) :: pn)) ec (tXE X.K T W0 i a cls d C w1 w2 g2))
    (ex : PySem.W.exmOne X.K (.ref C) cN = some true)
    (hdb : (x == ("__debug__" : Str)) = false := by decide) (hd : (a == ("__debug__" : Str)) = false := by decide) (hcd : (a == ("__classdict__" : Str)) = false := by decide) :
    PE X (.Call (.Name x p) [.Lambda params body scope lp, .Constant (.str w) jw wp] [] pos)
      (tE X.K T W fun τ M => noX (rdRef C w1 w2 (fun d1 d2 M => g2 d1 d2 ((slots2 Ng.length w).set i none) M) (fb τ M))) := by
  refine ⟨fun pins s σ H Q I h => ?_⟩
  obtain ⟨ρ, M, τ, st, gd⟩ := h
  refine wpAny_Call_Name_kw (ld_glob I hg hm ?_ hdb)
  refine PySem.W.callWith_K (h₀ := X.base) I.ok.mod.kin hk ?_ (by rfl) (by rfl)
  show wpAny _ _ (spliced ((false, eval (.Lambda params body scope lp) X.env) :: (false, eval (.Constant (.str w) jw wp) X.env) :: backTo pos (starEach [] X.env))) _ _ s
  refine Calls.spliced_cons (made I TB hcode eq hmT hu st.rel.lam hdef (L.has I.ok) fun f c' pm' ctv H1 s' I1 bt T1 hf hfn hfr hco => ?_)
  refine Calls.spliced_cons (Calls.Constant_str ?_)
  have I2 : Inv X pins σ H1 { s' with toks := s'.toks + 1 } := I1.tok _
  refine Calls.spliced_nil ⟨I2.kIn, ?_⟩
  obtain ⟨r1, y⟩ := rel_but st.rel hmT bt T1
  subst eq
  have rc : codeAny (model X.prog X.w) X.A (.call (.ref g) ⟨[.ref f, .str w s'.toks], []⟩) (CR (L2N.CX X.prog X.w) X.stack X.prog X.w H1 { s' with toks := s'.toks + 1 } Q (fun _ _ _ => False)) { s' with toks := s'.toks + 1 } := by
    refine run_ofS (N := Ng) (ps := [a, b]) (us := [.ref f, .str w s'.toks]) (vs := [.ref f, .str w]) lk hcg Sg hr I2.env0 (hb _ [.ref f, .str w s'.toks] I2.kIn rfl) (.cons rfl (.cons ⟨_, rfl⟩ .nil)) rfl fun hr' => ?_
    have hl : i < (L2.start Ng [V.ref f, V.str w]).length := by
      have := (List.getElem?_eq_some_iff.mp hi).1
      have e := (slots2_den (K := X.K) (H := H1) (ρ := ρ) (N := Ng) (w := w) (f := f)).1
      rw [← e]
      simp [slots2, startD]
      omega
    exact walks (Q := Q) (f := f) (c' := c') rfl rfl hNd hi (hln _ _) (hcN _ _) (hcL _ _) (hsw _ _)
      (fun W' pn xe tk => acts (tb := fun E => tE X.K T (fun cls d _ H' => E cls d H') fb) I2 L hf hfn hfr (hbind _ _ _ _ _) rfl tk hr' (fun A outer s H E hr2 => hbody A outer s H E f c' hr2) hNg hva hd hcd)
      (fun a oe cls d pn hz hv => hsu _ _ a oe cls d pn hr' hz hv) ex (by simp [L2.start]) hco hl ⟨r1, st.env.mono y, fun _ z => nomatch z⟩ ⟨r1, slots2_den, fun _ z => nomatch z⟩ (good_noX (Good.mono y gd))
  refine wpAny_call (codeAny_mono rc fun r s2 hq => ?_)
  cases r with
  | error e =>
    obtain ⟨_, _, _, _, _, _, _, _, _, _, _, _, z⟩ := hq
    exact z.elim
  | ok fl =>
    cases fl with
    | ret u => exact I2.after hq
    | next => exact False.elim hq
    | brk => exact False.elim hq
    | cont => exact False.elim hq
end
end Lx

set_option Elab.async false
set_option linter.all false
set_option maxRecDepth 100000
set_option maxHeartbeats 4000000
/-! Lx7: the same over the facts of a law's defs -/
namespace Lx
open PySem PySem.Spec PyProof.Rows L2 LamX Mp
abbrev Zc0 (X : Cx) (Ng : List Str) (x : Str) (st : Stmt) (s : Shared) (H : Hp) : Cx := cxOf (L2N.CX X.prog X.w) X.prog X.w X.K X.mg X.base Ng x (defScope st) (He.ga X.K x) (fdK X.K x).code X.A X.stack s H fun _ _ _ => False
section
variable {X : Cx} {T : Tb} {W : WX} {k i : Nat} {x a b q n w w1 w2 xN xL : Str} {c P C : Addr} {st : Stmt} {cN cL : Value} {Ng : List Str} {params : Arguments} {body ec : Expr} {scope : Scope} {fb : FE} {g2 : D → D → FE}
  {p lp wp pos p1 p2 p3 p4 p5 p6 p7 p8 p9 p10 p11 p12 p13 : Pos} {jc jc2 jw}
theorem refusedD (F : DefC X.K X.mg x st) (hg : Gl X x)
    (hbod : defBody st = [.Try [.Expr (.Call (.Name a p10) [] [] p11) p9] [.ExceptHandler (some (.Name xN p1)) (some n) [.Return (some ec) p2] p3, .ExceptHandler (some (.Name xL p4)) none [.Return (some (.Constant (.bool false) jc p5)) p6] p7] [] [] p8, .Return (some (.Constant (.bool false) jc2 p12)) p13])
    (hb : L2.Binds X.K (fdK X.K x) [a, b] [])
    (Sg : FnScope Ng [a, b] (defScope st)) (hNg : Ng[0]? = some a) (hva : Vis (defScope st) a) (hi : Ng[i]? = some n) (hln : (defScope st).names.lookup n = some .local)
    (TB : TabB X.base X.mg c P) (hcode : X.env.code = .ref c) (eq : X.env.qual ++ "<lambda>" = q) (hmT : (P, q) ∈ T.lam) (hu : ∀ p ∈ T.lam, p.1 = P → p.2 = q) (hr : Room (k + 2) X.A) (L : LamS X.env.scope scope) (hdef : defaultsOf params X.env = ([], []))
    (hbind : ∀ (q : Str) (cl : List (Str × Addr)) (pm cv ctv : Value), bindArgs (PySem.W.kla_fn "<lambda>" q params body scope cl pm cv ctv) ⟨[], []⟩ = pure [])
    (hcN : ∀ (s : Shared) (H : Hp), Names (Zc0 X Ng x st s H) xN cN) (hcL : ∀ (s : Shared) (H : Hp), Names (Zc0 X Ng x st s H) xL cL)
    (hsw : ∀ (s : Shared) (H : Hp), swapsWith (.Call (.Name a p10) [] [] p11) none p9.line (Zc0 X Ng x st s H).env = pure false)
    (hbody : ∀ (A : Around) (outer : List PySem.Env) (s : Shared) (H : Hp) (E : XK) (f c' : Addr), Room k (A.deeper (lamEnv X scope s.heap.objs.size f c')) → PE (lamN X A outer s H E scope f c') body (tE X.K T (fun cls d _ H' => E cls d H') fb))
    (hsu : ∀ (s : Shared) (H : Hp) (a : Addr) (oe : Obj) (cls : Value) (d : Option Addr) (pn : List (Addr × Obj)), Room (k + 1) (Zc0 X Ng x st s H).A → L2N.Zn cls d oe → (∃ vs, oe.data = .fields vs) →
      PE ((Zc0 X Ng x st s H).suite a ((a, oe) :: pn)) ec (tXE X.K T W0 i a cls d C w1 w2 g2))
    (ex : PySem.W.exmOne X.K (.ref C) cN = some true)
    (hdb : (x == ("__debug__" : Str)) = false := by decide) (hd : (a == ("__debug__" : Str)) = false := by decide) (hcd : (a == ("__classdict__" : Str)) = false := by decide) :
    PE X (.Call (.Name x p) [.Lambda params body scope lp, .Constant (.str w) jw wp] [] pos)
      (tE X.K T W fun τ M => noX (rdRef C w1 w2 (fun d1 d2 M => g2 d1 d2 ((slots2 Ng.length w).set i none) M) (fb τ M))) := by
  obtain ⟨oc, od, dV, kV, doc, pm, an, cdv, ct, osl, e, lk, hcd', _, _⟩ := F.f.ex
  have ecd : (fdK X.K x).code = cdv := by rw [e] <;> rfl
  have kp := F.f.kp
  rw [e] at lk hb
  rw [hbod] at lk hb
  subst ecd
  exact refused (dV := dV) (kV := kV) (doc := doc) (pm := pm) (an := an) (ct := ct) hg F.g kp lk hcd' hb Sg hNg hva Sg.nd hi TB hcode eq hmT hu hr L hdef hbind (fun s H => hln) hcN hcL hsw hbody hsu ex hdb hd hcd
end
end Lx

set_option Elab.async false
set_option linter.all false
/-! Lx8: the facts of a def that makes lambdas -/
namespace Lx
open PySem PySem.Spec PyProof.Rows L2 Mp
structure LamC (K : PySem.W.Frag) (mg : Str → Option Value) (base : Heap) (T : Tb) (x : Str) (st : Stmt) : Prop where
  ex : ∃ a0 P : Addr, (fdK K x).code = .ref a0 ∧ LamX.TabB base mg a0 P ∧ (P, (envOfC x (defScope st) 0 0 .none).qual ++ "<lambda>") ∈ T.lam ∧ ∀ p ∈ T.lam, p.1 = P → p.2 = (envOfC x (defScope st) 0 0 .none).qual ++ "<lambda>"
end Lx

set_option Elab.async false
set_option linter.all false
set_option maxRecDepth 100000
set_option maxHeartbeats 4000000
namespace K29
open PySem PySem.Spec PyProof.Rows L2 Mp
def m_need (CN : Str → Addr) : FD := mdef 2 (sIf (eNotT (eTst (eVar 0))) (sRaise (CN "NotUsable") ["word", "at"] (aCons (eVar 1) (aCons (eUn dNeg (eCon (.int 1))) (aNil)))) (sNil))
def m_is_integer (CN : Str → Addr) : FD := mdef 1 (sRet (eAnd (eUn (dIsi "int") (eVar 0)) (eNot (eUn (dIsi "bool") (eVar 0)))))
def m_is_number (CN : Str → Addr) : FD := mdef 1 (sRet (eAnd (eCall (lenF 1 (m_is_integer CN)) (aCons (eVar 0) (aNil))) (eOp dGe (eVar 0) (eCon (.int 0)))))
def m_is_tuple_of (CN : Str → Addr) : FD := mdef 2 (sRet (eAnd (eUn (dIsi "tuple") (eVar 1)) (eOp dEq (eCall bLen (aCons (eVar 1) (aNil))) (eVar 0))))
def m_is_exact (CN : Str → Addr) : FD := mdef 2 (sRet (eAnd (eCall (lenF 2 (m_is_tuple_of CN)) (aCons (eCon (.int 4)) (aCons (eVar 0) (aNil)))) (eGen true (iVal (eVar 0)) (.nm 1) (yes) (eCall (lenF 1 (m_is_integer CN)) (aCons (eVar 1) (aNil))) [1])))
def m_exact_sum (CN : Str → Addr) : FD := mdef 10 (sSeq (sSet (.tp [.nm 2, .nm 3, .nm 4, .nm 5]) (eVar 0)) (sSeq (sSet (.tp [.nm 6, .nm 7, .nm 8, .nm 9]) (eVar 1)) (sRet (eTup (aCons (eOp dAdd (eVar 2) (eVar 6)) (aCons (eOp dAdd (eVar 3) (eVar 7)) (aCons (eOp dAdd (eVar 4) (eVar 8)) (aCons (eOp dAdd (eVar 5) (eVar 9)) (aNil)))))))))
def m_exact_product (CN : Str → Addr) : FD := mdef 10 (sSeq (sSet (.tp [.nm 2, .nm 3, .nm 4, .nm 5]) (eVar 0)) (sSeq (sSet (.tp [.nm 6, .nm 7, .nm 8, .nm 9]) (eVar 1)) (sRet (eTup (aCons (eOp dSub (eOp dSub (eOp dSub (eOp dMul (eVar 2) (eVar 6)) (eOp dMul (eVar 3) (eVar 9))) (eOp dMul (eVar 4) (eVar 8))) (eOp dMul (eVar 5) (eVar 7))) (aCons (eOp dSub (eOp dSub (eOp dAdd (eOp dMul (eVar 2) (eVar 7)) (eOp dMul (eVar 3) (eVar 6))) (eOp dMul (eVar 4) (eVar 9))) (eOp dMul (eVar 5) (eVar 8))) (aCons (eOp dSub (eOp dAdd (eOp dAdd (eOp dMul (eVar 2) (eVar 8)) (eOp dMul (eVar 3) (eVar 7))) (eOp dMul (eVar 4) (eVar 6))) (eOp dMul (eVar 5) (eVar 9))) (aCons (eOp dAdd (eOp dAdd (eOp dAdd (eOp dMul (eVar 2) (eVar 9)) (eOp dMul (eVar 3) (eVar 8))) (eOp dMul (eVar 4) (eVar 7))) (eOp dMul (eVar 5) (eVar 6))) (aNil)))))))))
def m_mirror_of (CN : Str → Addr) : FD := mdef 5 (sSeq (sSet (.tp [.nm 1, .nm 2, .nm 3, .nm 4]) (eVar 0)) (sRet (eTup (aCons (eVar 1) (aCons (eUn dNeg (eVar 4)) (aCons (eUn dNeg (eVar 3)) (aCons (eUn dNeg (eVar 2)) (aNil))))))))
def m_by_root (CN : Str → Addr) : FD := mdef 5 (sSeq (sSet (.tp [.nm 1, .nm 2, .nm 3, .nm 4]) (eVar 0)) (sSeq (sIf (eOrT (eTst (eOp dMod (eOp dSub (eVar 2) (eVar 4)) (eCon (.int 2)))) (eTst (eOp dMod (eOp dAdd (eVar 1) (eVar 3)) (eCon (.int 2))))) (sRet (eCon .non)) (sNil)) (sRet (eTup (aCons (eOp dFdiv (eOp dSub (eVar 2) (eVar 4)) (eCon (.int 2))) (aCons (eOp dFdiv (eOp dAdd (eVar 1) (eVar 3)) (eCon (.int 2))) (aCons (eOp dFdiv (eOp dAdd (eVar 2) (eVar 4)) (eCon (.int 2))) (aCons (eOp dFdiv (eOp dSub (eVar 3) (eVar 1)) (eCon (.int 2))) (aNil)))))))))
def m_times_roots (CN : Str → Addr) : FD := mdef 8 (sSeq (sSet (.tp [.nm 2, .nm 3, .nm 4, .nm 5]) (eVar 0)) (sSeq (sSet (.nm 6) (eOp dFdiv (eVar 1) (eCon (.int 2)))) (sSeq (sSet (.nm 7) (eTup (aCons (eOp dShl (eVar 2) (eVar 6)) (aCons (eOp dShl (eVar 3) (eVar 6)) (aCons (eOp dShl (eVar 4) (eVar 6)) (aCons (eOp dShl (eVar 5) (eVar 6)) (aNil))))))) (sRet (eIf (eTst (eOp dMod (eVar 1) (eCon (.int 2)))) (eCall (lenF 2 (m_exact_product CN)) (aCons (eVar 7) (aCons (eCon (.tup ([0, 1, 0, (-1)].map D.int))) (aNil)))) (eVar 7))))))
def m_is_width_of (CN : Str → Addr) : FD := mdef 2 (sRet (eAnd (eUn (dIsi "tuple") (eVar 1)) (eAnd (eOp dLt (eVar 0) (eUn dBits (eCall bLen (aCons (eVar 1) (aNil))))) (eOp dEq (eCall bLen (aCons (eVar 1) (aNil))) (eOp dShl (eCon (.int 1)) (eVar 0))))))
def m_is_row (CN : Str → Addr) : FD := mdef 3 (sRet (eAnd (eCall (lenF 2 (m_is_width_of CN)) (aCons (eVar 0) (aCons (eVar 1) (aNil)))) (eGen true (iVal (eVar 1)) (.nm 2) (yes) (eCall (lenF 1 (m_is_exact CN)) (aCons (eVar 2) (aNil))) [2])))
def m_is_rows (CN : Str → Addr) : FD := mdef 4 (sRet (eAnd (eCall (lenF 2 (m_is_width_of CN)) (aCons (eVar 0) (aCons (eVar 2) (aNil)))) (eGen true (iVal (eVar 2)) (.nm 3) (yes) (eCall (lenF 2 (m_is_row CN)) (aCons (eVar 1) (aCons (eVar 3) (aNil)))) [3])))
def m_rows_by_root (CN : Str → Addr) : FD := mdef 6 (sSeq (sSet (.nm 1) (eLst (aNil))) (sSeq (sFor (iVal (eVar 0)) (.nm 2) (sSeq (sSet (.nm 3) (eLst (aNil))) (sSeq (sFor (iVal (eVar 2)) (.nm 4) (sSeq (sSet (.nm 5) (eCall (lenF 1 (m_by_root CN)) (aCons (eVar 4) (aNil)))) (sSeq (sIf (eTB (eOp dIsN (eVar 5) (eCon .non))) (sRet (eCon .non)) (sNil)) (sExp (eApp (eVar 3) (aCons (eVar 5) (aNil))))))) (sExp (eApp (eVar 1) (aCons (eCall bTuple (aCons (eVar 3) (aNil))) (aNil))))))) (sRet (eVar 1))))
def m_is_nought_rows (CN : Str → Addr) : FD := mdef 3 (sRet (eGen2 true (iVal (eVar 0)) (.nm 1) (yes) (iVal (eVar 1)) (.nm 2) (yes) (eOp dEq (eVar 2) (eCon (.tup ([0, 0, 0, 0].map D.int)))) [1, 2] [2]))
def m_is_table (CN : Str → Addr) : FD := mdef 5 (sSeq (sIf (eNotT (eTst (eCall (lenF 2 (m_is_tuple_of CN)) (aCons (eCon (.int 4)) (aCons (eVar 0) (aNil)))))) (sRet (eCon (.bl false))) (sNil)) (sSeq (sSet (.tp [.nm 1, .nm 2, .nm 3, .nm 4]) (eVar 0)) (sSeq (sIf (eNotT (eAndT (eTst (eCall (lenF 1 (m_is_number CN)) (aCons (eVar 1) (aNil)))) (eAndT (eTst (eCall (lenF 1 (m_is_number CN)) (aCons (eVar 2) (aNil)))) (eAndT (eTst (eCall (lenF 1 (m_is_number CN)) (aCons (eVar 3) (aNil)))) (eTst (eCall (lenF 3 (m_is_rows CN)) (aCons (eVar 1) (aCons (eVar 2) (aCons (eVar 4) (aNil)))))))))) (sRet (eCon (.bl false))) (sNil)) (sRet (eOr (eOp dEq (eVar 3) (eCon (.int 0))) (eOp dIsN (eCall (lenF 1 (m_rows_by_root CN)) (aCons (eVar 4) (aNil))) (eCon .non)))))))
def m_one_form (CN : Str → Addr) : FD := mdef 7 (sSeq (sIf (eAndT (eTB (eOp dGt (eVar 2) (eCon (.int 0)))) (eTst (eCall (lenF 1 (m_is_nought_rows CN)) (aCons (eVar 3) (aNil))))) (sSet (.nm 2) (eCon (.int 0))) (sNil)) (sSeq (sWhile 1000000 (eTB (eOp dGt (eVar 2) (eCon (.int 0)))) (sSeq (sSet (.nm 4) (eCall (lenF 1 (m_rows_by_root CN)) (aCons (eVar 3) (aNil)))) (sSeq (sIf (eTB (eOp dIsN (eVar 4) (eCon .non))) (sBrk) (sNil)) (sSeq (sSet (.nm 3) (eVar 4)) (sAug 2 dSub (eCon (.int 1))))))) (sSeq (sIf (eTB (eOp dLt (eVar 2) (eCon (.int 0)))) (sSeq (sSet (.nm 3) (eLc (iVal (eVar 3)) (.nm 5) (yes) (eLc (iVal (eVar 5)) (.nm 6) (yes) (eCall (lenF 2 (m_times_roots CN)) (aCons (eVar 6) (aCons (eUn dNeg (eVar 2)) (aNil)))) [6]) [5])) (sSet (.nm 2) (eCon (.int 0)))) (sNil)) (sRet (eTup (aCons (eVar 0) (aCons (eVar 1) (aCons (eVar 2) (aCons (eGenT (iVal (eVar 3)) (.nm 5) (yes) (eCall bTuple (aCons (eVar 5) (aNil))) [5]) (aNil))))))))))
def m_chained_row (CN : Str → Addr) : FD := mdef 7 (sSeq (sSet (.nm 2) (eOp dMul (eLst (aCons (eCon (.tup ([0, 0, 0, 0].map D.int))) (aNil))) (eCall bLen (aCons (eOp dIx (eVar 1) (eCon (.int 0))) (aNil))))) (sSeq (sFor (iZip (eVar 0) (eVar 1)) (.tp [.nm 3, .nm 4]) (sIf (eTB (eOp dNe (eVar 3) (eCon (.tup ([0, 0, 0, 0].map D.int))))) (sSet (.nm 2) (eLc (iZip (eVar 2) (eVar 4)) (.tp [.nm 5, .nm 6]) (yes) (eCall (lenF 2 (m_exact_sum CN)) (aCons (eVar 5) (aCons (eCall (lenF 2 (m_exact_product CN)) (aCons (eVar 3) (aCons (eVar 6) (aNil)))) (aNil)))) [5, 6])) (sNil))) (sRet (eVar 2))))
def m_chained (CN : Str → Addr) : FD := mdef 4 (sSeq (sExp (eCall (lenF 2 (m_need CN)) (aCons (eAnd (eCall (lenF 1 (m_is_table CN)) (aCons (eVar 1) (aNil))) (eOp dEq (eOp dIx (eVar 1) (eCon (.int 1))) (eOp dIx (eVar 0) (eCon (.int 0))))) (aCons (eCon (.str "second")) (aNil))))) (sSeq (sSet (.nm 2) (eLc (iVal (eOp dIx (eVar 1) (eCon (.int 3)))) (.nm 3) (yes) (eCall (lenF 2 (m_chained_row CN)) (aCons (eVar 3) (aCons (eOp dIx (eVar 0) (eCon (.int 3))) (aNil)))) [3])) (sRet (eCall (lenF 4 (m_one_form CN)) (aCons (eOp dIx (eVar 1) (eCon (.int 0))) (aCons (eOp dIx (eVar 0) (eCon (.int 1))) (aCons (eOp dAdd (eOp dIx (eVar 0) (eCon (.int 2))) (eOp dIx (eVar 1) (eCon (.int 2)))) (aCons (eVar 2) (aNil)))))))))
def m_side_by_side (CN : Str → Addr) : FD := mdef 7 (sSeq (sExp (eCall (lenF 2 (m_need CN)) (aCons (eCall (lenF 1 (m_is_table CN)) (aCons (eVar 1) (aNil))) (aCons (eCon (.str "high")) (aNil))))) (sSeq (sSet (.nm 2) (eLst (aNil))) (sSeq (sFor (iVal (eOp dIx (eVar 1) (eCon (.int 3)))) (.nm 3) (sFor (iVal (eOp dIx (eVar 0) (eCon (.int 3)))) (.nm 4) (sExp (eApp (eVar 2) (aCons (eLc2 (iVal (eVar 3)) (.nm 5) (yes) (iVal (eVar 4)) (.nm 6) (yes) (eCall (lenF 2 (m_exact_product CN)) (aCons (eVar 6) (aCons (eVar 5) (aNil)))) [5, 6] [6]) (aNil)))))) (sRet (eCall (lenF 4 (m_one_form CN)) (aCons (eOp dAdd (eOp dIx (eVar 0) (eCon (.int 0))) (eOp dIx (eVar 1) (eCon (.int 0)))) (aCons (eOp dAdd (eOp dIx (eVar 0) (eCon (.int 1))) (eOp dIx (eVar 1) (eCon (.int 1)))) (aCons (eOp dAdd (eOp dIx (eVar 0) (eCon (.int 2))) (eOp dIx (eVar 1) (eCon (.int 2)))) (aCons (eVar 2) (aNil))))))))))
def m_mirrored (CN : Str → Addr) : FD := mdef 8 (sSeq (sSet (.tp [.nm 1, .nm 2, .nm 3, .nm 4]) (eVar 0)) (sSeq (sSet (.nm 5) (eLc (iR1 (eOp dShl (eCon (.int 1)) (eVar 2))) (.nm 6) (yes) (eLc (iVal (eVar 4)) (.nm 7) (yes) (eCall (lenF 1 (m_mirror_of CN)) (aCons (eOp dIx (eVar 7) (eVar 6)) (aNil))) [7]) [6])) (sRet (eCall (lenF 4 (m_one_form CN)) (aCons (eVar 2) (aCons (eVar 1) (aCons (eVar 3) (aCons (eVar 5) (aNil)))))))))
def m_rows_over (CN : Str → Addr) : FD := mdef 4 (sRet (eLc (iVal (eOp dIx (eVar 0) (eCon (.int 3)))) (.nm 2) (yes) (eLc (iVal (eVar 2)) (.nm 3) (yes) (eCall (lenF 2 (m_times_roots CN)) (aCons (eVar 3) (aCons (eOp dSub (eVar 1) (eOp dIx (eVar 0) (eCon (.int 2)))) (aNil)))) [3]) [2]))
def m_added (CN : Str → Addr) : FD := mdef 8 (sSeq (sExp (eCall (lenF 2 (m_need CN)) (aCons (eAnd (eCall (lenF 1 (m_is_table CN)) (aCons (eVar 1) (aNil))) (eOp dEq (eSl (eVar 1) (oNone) (oSome (eCon (.int 2)))) (eSl (eVar 0) (oNone) (oSome (eCon (.int 2)))))) (aCons (eCon (.str "other")) (aNil))))) (sSeq (sSet (.nm 2) (eCall bMax (aCons (eOp dIx (eVar 0) (eCon (.int 2))) (aCons (eOp dIx (eVar 1) (eCon (.int 2))) (aNil))))) (sSeq (sSet (.nm 3) (eLst (aNil))) (sSeq (sFor (iZip (eCall (lenF 2 (m_rows_over CN)) (aCons (eVar 0) (aCons (eVar 2) (aNil)))) (eCall (lenF 2 (m_rows_over CN)) (aCons (eVar 1) (aCons (eVar 2) (aNil))))) (.tp [.nm 4, .nm 5]) (sExp (eApp (eVar 3) (aCons (eLc (iZip (eVar 4) (eVar 5)) (.tp [.nm 6, .nm 7]) (yes) (eCall (lenF 2 (m_exact_sum CN)) (aCons (eVar 6) (aCons (eVar 7) (aNil)))) [6, 7]) (aNil))))) (sRet (eCall (lenF 4 (m_one_form CN)) (aCons (eOp dIx (eVar 0) (eCon (.int 0))) (aCons (eOp dIx (eVar 0) (eCon (.int 1))) (aCons (eVar 2) (aCons (eVar 3) (aNil)))))))))))
def m__law_start (CN : Str → Addr) : FD := mdef 4 (sSeq (sSet (.nm 2) (eLc (iVal (eVar 0)) (.nm 1) (yes) (eCall bInt (aCons (eVar 1) (aNil))) [1])) (sSeq (sSet (.nm 3) (eCon (.int 6418093))) (sSeq (sFor (iVal (eVar 2)) (.nm 1) (sSet (.nm 3) (eOp dMod (eCall bInt (aCons (eOp dAdd (eOp dAdd (eOp dMul (eVar 3) (eCon (.int 52561))) (eOp dMul (eVar 1) (eCon (.int 91129)))) (eCon (.int 4783))) (aNil))) (eCon (.int 2305843009213693951))))) (sRet (eLst (aCons (eVar 2) (aCons (eCon (.int 0)) (aCons (eCon (.int 0)) (aCons (eVar 3) (aNil))))))))))
def m__law_draw (CN : Str → Addr) : FD := mdef 4 (sSeq (sWhile 1000000 (eAndT (eTB (eOp dEq (eOp dIx (eVar 0) (eCon (.int 2))) (eCon (.int 0)))) (eTB (eOp dLt (eOp dIx (eVar 0) (eCon (.int 1))) (eCall bLen (aCons (eOp dIx (eVar 0) (eCon (.int 0))) (aNil)))))) (sSeq (sSet (.nm 2) (eOp dIx (eOp dIx (eVar 0) (eCon (.int 0))) (eOp dIx (eVar 0) (eCon (.int 1))))) (sSeq (sSub (eVar 0) (eCon (.int 1)) (eOp dAdd (eOp dIx (eVar 0) (eCon (.int 1))) (eCon (.int 1)))) (sIf (eTB (eOp dGe (eCall bAbs (aCons (eVar 2) (aNil))) (eOp dPow (eCon (.int 10)) (eCon (.int 18))))) (sSub (eVar 0) (eCon (.int 2)) (eOp dAdd (eOp dMul (eCon (.int 2)) (eCall bAbs (aCons (eVar 2) (aNil)))) (eCall bInt (aCons (eOp dLt (eVar 2) (eCon (.int 0))) (aNil))))) (sNil))))) (sSeq (sIf (eTB (eOp dGt (eOp dIx (eVar 0) (eCon (.int 2))) (eCon (.int 0)))) (sSeq (sSet (.nm 3) (eOp dMod (eCall bInt (aCons (eOp dIx (eVar 0) (eCon (.int 2))) (aNil))) (eVar 1))) (sSeq (sSub (eVar 0) (eCon (.int 2)) (eOp dFdiv (eOp dIx (eVar 0) (eCon (.int 2))) (eVar 1))) (sRet (eVar 3)))) (sNil)) (sSeq (sSub (eVar 0) (eCon (.int 3)) (eOp dMod (eCall bInt (aCons (eOp dAdd (eOp dMul (eOp dIx (eVar 0) (eCon (.int 3))) (eCon (.int 71893564120937663))) (eCon (.int 5538172093417))) (aNil))) (eCon (.int 2305843009213693951)))) (sRet (eOp dMod (eCall bInt (aCons (eOp dFdiv (eOp dIx (eVar 0) (eCon (.int 3))) (eCon (.int 131101))) (aNil))) (eVar 1))))))
def m__law_signed (CN : Str → Addr) : FD := mdef 2 (sRet (eOp dSub (eCall (lenF 2 (m__law_draw CN)) (aCons (eVar 0) (aCons (eOp dAdd (eOp dMul (eCon (.int 2)) (eVar 1)) (eCon (.int 1))) (aNil)))) (eVar 1)))
def m__law_whole (CN : Str → Addr) : FD := mdef 1 (sRet (eAnd (eUn (dIsi "int") (eVar 0)) (eNot (eUn (dIsi "bool") (eVar 0)))))
def m__law_same (CN : Str → Addr) : Nat → FD
  | 0 => fun _ _ => .bad
  | k + 1 => mdef 3 (sSeq (sIf (eTst (eUn (dIsi "tuple") (eVar 1))) (sSeq (sIf (eOrT (eNotT (eTst (eUn (dIsi "tuple") (eVar 0)))) (eTB (eOp dNe (eCall bLen (aCons (eVar 0) (aNil))) (eCall bLen (aCons (eVar 1) (aNil)))))) (sRet (eCon (.bl false))) (sNil)) (sRet (eCall bAll (aCons (eLc (iR1 (eCall bLen (aCons (eVar 1) (aNil)))) (.nm 2) (yes) (eCall (lenF 2 (m__law_same CN k)) (aCons (eOp dIx (eVar 0) (eVar 2)) (aCons (eOp dIx (eVar 1) (eVar 2)) (aNil)))) [2]) (aNil))))) (sNil)) (sSeq (sIf (eTB (eOp dIsN (eVar 1) (eCon .non))) (sRet (eOp dIsN (eVar 0) (eCon .non))) (sNil)) (sSeq (sIf (eTst (eUn (dIsi "bool") (eVar 1))) (sRet (eAnd (eUn (dIsi "bool") (eVar 0)) (eOp dEq (eVar 0) (eVar 1)))) (sNil)) (sSeq (sIf (eTst (eUn (dIsi "int") (eVar 1))) (sRet (eAnd (eCall (lenF 1 (m__law_whole CN)) (aCons (eVar 0) (aNil))) (eOp dEq (eVar 0) (eVar 1)))) (sNil)) (sRet (eAnd (eUn (dIsi "str") (eVar 1)) (eAnd (eUn (dIsi "str") (eVar 0)) (eOp dEq (eVar 0) (eVar 1)))))))))
def m__law_value (CN : Str → Addr) : FD := mdef 1 (sRet (eOp dAdd (eOp dMul (eOp dAdd (eOp dMul (eOp dAdd (eOp dMul (eOp dIx (eVar 0) (eCon (.int 3))) (eOp dShl (eCon (.int 1)) (eCon (.int 320)))) (eOp dIx (eVar 0) (eCon (.int 2)))) (eOp dShl (eCon (.int 1)) (eCon (.int 320)))) (eOp dIx (eVar 0) (eCon (.int 1)))) (eOp dShl (eCon (.int 1)) (eCon (.int 320)))) (eOp dIx (eVar 0) (eCon (.int 0)))))
def m__law_root (CN : Str → Addr) : FD := mdef 2 (sSeq (sSet (.nm 1) (eOp dShl (eCon (.int 1)) (eOp dFdiv (eVar 0) (eCon (.int 2))))) (sSeq (sIf (eTB (eOp dEq (eOp dMod (eCall bInt (aCons (eVar 0) (aNil))) (eCon (.int 2))) (eCon (.int 1)))) (sSet (.nm 1) (eOp dMul (eVar 1) (eOp dSub (eOp dShl (eCon (.int 1)) (eCon (.int 320))) (eOp dShl (eCon (.int 1)) (eCon (.int 960)))))) (sNil)) (sRet (eVar 1))))
def m__law_has_r (CN : Str → Addr) : FD := mdef 1 (sRet (eAnd (eOp dEq (eOp dMod (eCall bInt (aCons (eOp dAdd (eOp dIx (eVar 0) (eCon (.int 0))) (eOp dIx (eVar 0) (eCon (.int 2)))) (aNil))) (eCon (.int 2))) (eCon (.int 0))) (eOp dEq (eOp dMod (eCall bInt (aCons (eOp dAdd (eOp dIx (eVar 0) (eCon (.int 1))) (eOp dIx (eVar 0) (eCon (.int 3)))) (aNil))) (eCon (.int 2))) (eCon (.int 0)))))
def m__law_formed (CN : Str → Addr) : FD := mdef 8 (sSeq (sWhile 1000000 (eAndT (eTB (eOp dGt (eVar 2) (eCon (.int 0)))) (eTst (eCall bAll (aCons (eLc (iVal (eVar 3)) (.nm 4) (yes) (eCall bAll (aCons (eLc (iVal (eVar 4)) (.nm 6) (yes) (eCall (lenF 1 (m__law_has_r CN)) (aCons (eVar 6) (aNil))) [6]) (aNil))) [4]) (aNil))))) (sSeq (sSet (.nm 5) (eLst (aNil))) (sSeq (sFor (iVal (eVar 3)) (.nm 4) (sExp (eApp (eVar 5) (aCons (eCall bTuple (aCons (eLc (iVal (eVar 4)) (.nm 7) (yes) (eTup (aCons (eOp dFdiv (eOp dSub (eOp dIx (eVar 7) (eCon (.int 1))) (eOp dIx (eVar 7) (eCon (.int 3)))) (eCon (.int 2))) (aCons (eOp dFdiv (eOp dAdd (eOp dIx (eVar 7) (eCon (.int 0))) (eOp dIx (eVar 7) (eCon (.int 2)))) (eCon (.int 2))) (aCons (eOp dFdiv (eOp dAdd (eOp dIx (eVar 7) (eCon (.int 1))) (eOp dIx (eVar 7) (eCon (.int 3)))) (eCon (.int 2))) (aCons (eOp dFdiv (eOp dSub (eOp dIx (eVar 7) (eCon (.int 2))) (eOp dIx (eVar 7) (eCon (.int 0)))) (eCon (.int 2))) (aNil)))))) [7]) (aNil))) (aNil))))) (sSeq (sSet (.nm 3) (eCall bTuple (aCons (eVar 5) (aNil)))) (sSet (.nm 2) (eOp dSub (eVar 2) (eCon (.int 1)))))))) (sRet (eTup (aCons (eVar 0) (aCons (eVar 1) (aCons (eVar 2) (aCons (eVar 3) (aNil))))))))
def m__law_table (CN : Str → Addr) : FD := mdef 7 (sSeq (sIf (eOrT (eNotT (eTst (eUn (dIsi "tuple") (eVar 0)))) (eOrT (eTB (eOp dNe (eCall bLen (aCons (eVar 0) (aNil))) (eCon (.int 4)))) (eNotT (eTst (eCall (lenF 2 (m__law_same CN 12)) (aCons (eSl (eVar 0) (oNone) (oSome (eCon (.int 2)))) (aCons (eTup (aCons (eVar 1) (aCons (eVar 2) (aNil)))) (aNil)))))))) (sRet (eCon (.bl false))) (sNil)) (sSeq (sIf (eOrT (eNotT (eTst (eCall (lenF 1 (m__law_whole CN)) (aCons (eOp dIx (eVar 0) (eCon (.int 2))) (aNil))))) (eOrT (eTB (eOp dLt (eOp dIx (eVar 0) (eCon (.int 2))) (eCon (.int 0)))) (eOrT (eTB (eOp dGt (eOp dIx (eVar 0) (eCon (.int 2))) (eCon (.int 300)))) (eOrT (eNotT (eTst (eUn (dIsi "tuple") (eOp dIx (eVar 0) (eCon (.int 3)))))) (eTB (eOp dNe (eCall bLen (aCons (eOp dIx (eVar 0) (eCon (.int 3))) (aNil))) (eOp dShl (eCon (.int 1)) (eVar 1)))))))) (sRet (eCon (.bl false))) (sNil)) (sSeq (sSet (.nm 3) (eOp dEq (eOp dIx (eVar 0) (eCon (.int 2))) (eCon (.int 0)))) (sSeq (sFor (iVal (eOp dIx (eVar 0) (eCon (.int 3)))) (.nm 4) (sSeq (sIf (eOrT (eNotT (eTst (eUn (dIsi "tuple") (eVar 4)))) (eTB (eOp dNe (eCall bLen (aCons (eVar 4) (aNil))) (eOp dShl (eCon (.int 1)) (eVar 2))))) (sRet (eCon (.bl false))) (sNil)) (sFor (iVal (eVar 4)) (.nm 5) (sSeq (sIf (eOrT (eNotT (eTst (eUn (dIsi "tuple") (eVar 5)))) (eOrT (eTB (eOp dNe (eCall bLen (aCons (eVar 5) (aNil))) (eCon (.int 4)))) (eNotT (eTst (eCall bAll (aCons (eLc (iVal (eVar 5)) (.nm 6) (yes) (eAnd (eCall (lenF 1 (m__law_whole CN)) (aCons (eVar 6) (aNil))) (eOp dLt (eCall bAbs (aCons (eVar 6) (aNil))) (eOp dShl (eCon (.int 1)) (eCon (.int 300))))) [6]) (aNil))))))) (sRet (eCon (.bl false))) (sNil)) (sSet (.nm 3) (eOr (eVar 3) (eNot (eCall (lenF 1 (m__law_has_r CN)) (aCons (eVar 5) (aNil)))))))))) (sRet (eVar 3))))))
def m__law_unit (CN : Str → Addr) : FD := mdef 2 (sRet (eCall bTuple (aCons (eLc (iR1 (eCon (.int 4))) (.nm 1) (yes) (eOp dMul (eOp dSub (eCon (.int 1)) (eOp dMul (eCon (.int 2)) (eOp dFdiv (eVar 0) (eCon (.int 4))))) (eCall bInt (aCons (eOp dEq (eOp dMod (eCall bInt (aCons (eVar 0) (aNil))) (eCon (.int 4))) (eVar 1)) (aNil)))) [1]) (aNil))))
def m__law_small (CN : Str → Addr) : FD := mdef 3 (sSeq (sIf (eTB (eOp dEq (eVar 1) (eCon (.int 0)))) (sRet (eCall bTuple (aCons (eLc (iR1 (eCon (.int 4))) (.nm 2) (yes) (eCall (lenF 2 (m__law_signed CN)) (aCons (eVar 0) (aCons (eCon (.int 3)) (aNil)))) [2]) (aNil)))) (sNil)) (sSeq (sIf (eTB (eOp dEq (eVar 1) (eCon (.int 1)))) (sRet (eCall (lenF 1 (m__law_unit CN)) (aCons (eCall (lenF 2 (m__law_draw CN)) (aCons (eVar 0) (aCons (eCon (.int 8)) (aNil)))) (aNil)))) (sNil)) (sSeq (sIf (eTB (eOp dEq (eVar 1) (eCon (.int 2)))) (sRet (eCall bTuple (aCons (eLc (iR1 (eCon (.int 4))) (.nm 2) (yes) (eCall (lenF 2 (m__law_signed CN)) (aCons (eVar 0) (aCons (eOp dSub (eOp dPow (eCon (.int 10)) (eCon (.int 12))) (eCon (.int 1))) (aNil)))) [2]) (aNil)))) (sNil)) (sSeq (sIf (eTB (eOp dEq (eVar 1) (eCon (.int 3)))) (sRet (eCall bTuple (aCons (eLc (iR1 (eCon (.int 4))) (.nm 2) (yes) (eOp dMul (eCall (lenF 2 (m__law_signed CN)) (aCons (eVar 0) (aCons (eCon (.int 2)) (aNil)))) (eOp dShl (eCon (.int 1)) (eCall (lenF 2 (m__law_draw CN)) (aCons (eVar 0) (aCons (eCon (.int 4)) (aNil)))))) [2]) (aNil)))) (sNil)) (sSeq (sIf (eTB (eOp dGt (eCall (lenF 2 (m__law_draw CN)) (aCons (eVar 0) (aCons (eCon (.int 3)) (aNil)))) (eCon (.int 0)))) (sRet (eTup (aCons (eCon (.int 0)) (aCons (eCon (.int 0)) (aCons (eCon (.int 0)) (aCons (eCon (.int 0)) (aNil))))))) (sNil)) (sRet (eCall bTuple (aCons (eLc (iR1 (eCon (.int 4))) (.nm 2) (yes) (eCall (lenF 2 (m__law_signed CN)) (aCons (eVar 0) (aCons (eCon (.int 1)) (aNil)))) [2]) (aNil)))))))))
def m__law_drawn (CN : Str → Addr) : FD := mdef 10 (sSeq (sSet (.nm 3) (eCall (lenF 2 (m__law_draw CN)) (aCons (eVar 0) (aCons (eCon (.int 7)) (aNil))))) (sSeq (sSet (.nm 4) (eOp dIx (eTup (aCons (eCon (.int 0)) (aCons (eCon (.int 0)) (aCons (eCon (.int 1)) (aCons (eCon (.int 2)) (aCons (eCon (.int 60)) (aCons (eCall (lenF 2 (m__law_draw CN)) (aCons (eVar 0) (aCons (eCon (.int 8)) (aNil)))) (aCons (eCall bMax (aCons (eVar 1) (aCons (eVar 2) (aNil)))) (aNil))))))))) (eCall (lenF 2 (m__law_draw CN)) (aCons (eVar 0) (aCons (eCon (.int 7)) (aNil)))))) (sSeq (sSet (.nm 5) (eCall (lenF 2 (m__law_draw CN)) (aCons (eVar 0) (aCons (eOp dShl (eCon (.int 1)) (eVar 2)) (aNil))))) (sSeq (sSet (.nm 6) (eLst (aNil))) (sSeq (sFor (iR1 (eOp dShl (eCon (.int 1)) (eVar 1))) (.nm 7) (sSeq (sSet (.nm 8) (eLst (aNil))) (sSeq (sFor (iR1 (eOp dShl (eCon (.int 1)) (eVar 2))) (.nm 9) (sIf (eTB (eOp dLt (eVar 3) (eCon (.int 5)))) (sExp (eApp (eVar 8) (aCons (eCall (lenF 2 (m__law_small CN)) (aCons (eVar 0) (aCons (eVar 3) (aNil)))) (aNil)))) (sIf (eAndT (eTB (eOp dEq (eVar 3) (eCon (.int 5)))) (eTB (eOp dEq (eVar 7) (eOp dXor (eVar 9) (eVar 5))))) (sExp (eApp (eVar 8) (aCons (eCall (lenF 1 (m__law_unit CN)) (aCons (eCall (lenF 2 (m__law_draw CN)) (aCons (eVar 0) (aCons (eCon (.int 8)) (aNil)))) (aNil))) (aNil)))) (sExp (eApp (eVar 8) (aCons (eTup (aCons (eCon (.int 0)) (aCons (eCon (.int 0)) (aCons (eCon (.int 0)) (aCons (eCon (.int 0)) (aNil)))))) (aNil))))))) (sExp (eApp (eVar 6) (aCons (eCall bTuple (aCons (eVar 8) (aNil))) (aNil))))))) (sRet (eCall (lenF 4 (m__law_formed CN)) (aCons (eVar 1) (aCons (eVar 2) (aCons (eVar 4) (aCons (eCall bTuple (aCons (eVar 6) (aNil))) (aNil))))))))))))
def m__law_entry (CN : Str → Addr) : FD := mdef 3 (sRet (eOp dEq (eOp dMod (eCall bInt (aCons (eOp dSub (eOp dMul (eCall (lenF 1 (m__law_value CN)) (aCons (eOp dIx (eVar 0) (eCon (.int 0))) (aNil))) (eCall (lenF 1 (m__law_root CN)) (aCons (eVar 2) (aNil)))) (eOp dMul (eVar 1) (eCall (lenF 1 (m__law_root CN)) (aCons (eOp dIx (eVar 0) (eCon (.int 1))) (aNil))))) (aNil))) (eOp dAdd (eOp dShl (eCon (.int 1)) (eCon (.int 1280))) (eCon (.int 1)))) (eCon (.int 0))))
def m__law_chain (CN : Str → Addr) : FD := mdef 7 (sSeq (sIf (eNotT (eTst (eCall (lenF 3 (m__law_table CN)) (aCons (eVar 2) (aCons (eOp dIx (eVar 1) (eCon (.int 0))) (aCons (eOp dIx (eVar 0) (eCon (.int 1))) (aNil))))))) (sRet (eCon (.bl false))) (sNil)) (sSeq (sFor (iR1 (eOp dShl (eCon (.int 1)) (eOp dIx (eVar 1) (eCon (.int 0))))) (.nm 3) (sFor (iR1 (eOp dShl (eCon (.int 1)) (eOp dIx (eVar 0) (eCon (.int 1))))) (.nm 4) (sSeq (sSet (.nm 5) (eCon (.int 0))) (sSeq (sFor (iR1 (eOp dShl (eCon (.int 1)) (eOp dIx (eVar 0) (eCon (.int 0))))) (.nm 6) (sSet (.nm 5) (eOp dAdd (eVar 5) (eOp dMul (eCall (lenF 1 (m__law_value CN)) (aCons (eOp dIx (eOp dIx (eOp dIx (eVar 1) (eCon (.int 3))) (eVar 3)) (eVar 6)) (aNil))) (eCall (lenF 1 (m__law_value CN)) (aCons (eOp dIx (eOp dIx (eOp dIx (eVar 0) (eCon (.int 3))) (eVar 6)) (eVar 4)) (aNil))))))) (sIf (eNotT (eTst (eCall (lenF 3 (m__law_entry CN)) (aCons (eTup (aCons (eOp dIx (eOp dIx (eOp dIx (eVar 2) (eCon (.int 3))) (eVar 3)) (eVar 4)) (aCons (eOp dIx (eVar 2) (eCon (.int 2))) (aNil)))) (aCons (eVar 5) (aCons (eOp dAdd (eOp dIx (eVar 0) (eCon (.int 2))) (eOp dIx (eVar 1) (eCon (.int 2)))) (aNil))))))) (sRet (eCon (.bl false))) (sNil)))))) (sRet (eCon (.bl true)))))
def m__law_beside (CN : Str → Addr) : FD := mdef 9 (sSeq (sSet (.nm 3) (eOp dAdd (eOp dIx (eVar 0) (eCon (.int 0))) (eOp dIx (eVar 1) (eCon (.int 0))))) (sSeq (sSet (.nm 4) (eOp dAdd (eOp dIx (eVar 0) (eCon (.int 1))) (eOp dIx (eVar 1) (eCon (.int 1))))) (sSeq (sIf (eNotT (eTst (eCall (lenF 3 (m__law_table CN)) (aCons (eVar 2) (aCons (eVar 3) (aCons (eVar 4) (aNil))))))) (sRet (eCon (.bl false))) (sNil)) (sSeq (sFor (iR1 (eOp dShl (eCon (.int 1)) (eVar 3))) (.nm 5) (sFor (iR1 (eOp dShl (eCon (.int 1)) (eVar 4))) (.nm 6) (sSeq (sSet (.nm 7) (eOp dIx (eOp dIx (eOp dIx (eVar 0) (eCon (.int 3))) (eOp dAnd (eVar 5) (eOp dSub (eOp dShl (eCon (.int 1)) (eOp dIx (eVar 0) (eCon (.int 0)))) (eCon (.int 1))))) (eOp dAnd (eVar 6) (eOp dSub (eOp dShl (eCon (.int 1)) (eOp dIx (eVar 0) (eCon (.int 1)))) (eCon (.int 1)))))) (sSeq (sSet (.nm 8) (eOp dIx (eOp dIx (eOp dIx (eVar 1) (eCon (.int 3))) (eOp dShr (eVar 5) (eOp dIx (eVar 0) (eCon (.int 0))))) (eOp dShr (eVar 6) (eOp dIx (eVar 0) (eCon (.int 1)))))) (sIf (eNotT (eTst (eCall (lenF 3 (m__law_entry CN)) (aCons (eTup (aCons (eOp dIx (eOp dIx (eOp dIx (eVar 2) (eCon (.int 3))) (eVar 5)) (eVar 6)) (aCons (eOp dIx (eVar 2) (eCon (.int 2))) (aNil)))) (aCons (eOp dMul (eCall (lenF 1 (m__law_value CN)) (aCons (eVar 7) (aNil))) (eCall (lenF 1 (m__law_value CN)) (aCons (eVar 8) (aNil)))) (aCons (eOp dAdd (eOp dIx (eVar 0) (eCon (.int 2))) (eOp dIx (eVar 1) (eCon (.int 2)))) (aNil))))))) (sRet (eCon (.bl false))) (sNil)))))) (sRet (eCon (.bl true)))))))
def m__law_over (CN : Str → Addr) : FD := mdef 6 (sSeq (sIf (eOrT (eNotT (eTst (eCall (lenF 3 (m__law_table CN)) (aCons (eVar 1) (aCons (eOp dIx (eVar 0) (eCon (.int 1))) (aCons (eOp dIx (eVar 0) (eCon (.int 0))) (aNil))))))) (eTB (eOp dNe (eOp dIx (eVar 1) (eCon (.int 2))) (eOp dIx (eVar 0) (eCon (.int 2)))))) (sRet (eCon (.bl false))) (sNil)) (sSeq (sFor (iR1 (eOp dShl (eCon (.int 1)) (eOp dIx (eVar 0) (eCon (.int 0))))) (.nm 2) (sFor (iR1 (eOp dShl (eCon (.int 1)) (eOp dIx (eVar 0) (eCon (.int 1))))) (.nm 3) (sSeq (sSet (.nm 4) (eOp dIx (eOp dIx (eOp dIx (eVar 0) (eCon (.int 3))) (eVar 2)) (eVar 3))) (sSeq (sSet (.nm 5) (eOp dSub (eOp dSub (eOp dSub (eOp dIx (eVar 4) (eCon (.int 0))) (eOp dMul (eOp dIx (eVar 4) (eCon (.int 1))) (eOp dShl (eCon (.int 1)) (eCon (.int 960))))) (eOp dMul (eOp dIx (eVar 4) (eCon (.int 2))) (eOp dShl (eCon (.int 1)) (eCon (.int 640))))) (eOp dMul (eOp dIx (eVar 4) (eCon (.int 3))) (eOp dShl (eCon (.int 1)) (eCon (.int 320)))))) (sIf (eTB (eOp dNe (eOp dMod (eCall bInt (aCons (eOp dSub (eCall (lenF 1 (m__law_value CN)) (aCons (eOp dIx (eOp dIx (eOp dIx (eVar 1) (eCon (.int 3))) (eVar 3)) (eVar 2)) (aNil))) (eVar 5)) (aNil))) (eOp dAdd (eOp dShl (eCon (.int 1)) (eCon (.int 1280))) (eCon (.int 1)))) (eCon (.int 0)))) (sRet (eCon (.bl false))) (sNil)))))) (sRet (eCon (.bl true)))))
def m__law_sum (CN : Str → Addr) : FD := mdef 6 (sSeq (sIf (eNotT (eTst (eCall (lenF 3 (m__law_table CN)) (aCons (eVar 2) (aCons (eOp dIx (eVar 0) (eCon (.int 0))) (aCons (eOp dIx (eVar 0) (eCon (.int 1))) (aNil))))))) (sRet (eCon (.bl false))) (sNil)) (sSeq (sFor (iR1 (eOp dShl (eCon (.int 1)) (eOp dIx (eVar 0) (eCon (.int 0))))) (.nm 3) (sFor (iR1 (eOp dShl (eCon (.int 1)) (eOp dIx (eVar 0) (eCon (.int 1))))) (.nm 4) (sSeq (sSet (.nm 5) (eOp dAdd (eOp dMul (eCall (lenF 1 (m__law_value CN)) (aCons (eOp dIx (eOp dIx (eOp dIx (eVar 0) (eCon (.int 3))) (eVar 3)) (eVar 4)) (aNil))) (eCall (lenF 1 (m__law_root CN)) (aCons (eOp dIx (eVar 1) (eCon (.int 2))) (aNil)))) (eOp dMul (eCall (lenF 1 (m__law_value CN)) (aCons (eOp dIx (eOp dIx (eOp dIx (eVar 1) (eCon (.int 3))) (eVar 3)) (eVar 4)) (aNil))) (eCall (lenF 1 (m__law_root CN)) (aCons (eOp dIx (eVar 0) (eCon (.int 2))) (aNil)))))) (sIf (eNotT (eTst (eCall (lenF 3 (m__law_entry CN)) (aCons (eTup (aCons (eOp dIx (eOp dIx (eOp dIx (eVar 2) (eCon (.int 3))) (eVar 3)) (eVar 4)) (aCons (eOp dIx (eVar 2) (eCon (.int 2))) (aNil)))) (aCons (eVar 5) (aCons (eOp dAdd (eOp dIx (eVar 0) (eCon (.int 2))) (eOp dIx (eVar 1) (eCon (.int 2)))) (aNil))))))) (sRet (eCon (.bl false))) (sNil))))) (sRet (eCon (.bl true)))))
def m__law_nought (CN : Str → Addr) : FD := mdef 2 (sRet (eTup (aCons (eVar 0) (aCons (eVar 1) (aCons (eCon (.int 0)) (aCons (eCall bTuple (aCons (eOp dMul (eLst (aCons (eCall bTuple (aCons (eOp dMul (eLst (aCons (eTup (aCons (eCon (.int 0)) (aCons (eCon (.int 0)) (aCons (eCon (.int 0)) (aCons (eCon (.int 0)) (aNil)))))) (aNil))) (eOp dShl (eCon (.int 1)) (eVar 1))) (aNil))) (aNil))) (eOp dShl (eCon (.int 1)) (eVar 0))) (aNil))) (aNil)))))))
def m__law_bent (CN : Str → Addr) : FD := mdef 13 (sSeq (sSet (.nm 2) (eCall (lenF 2 (m__law_draw CN)) (aCons (eVar 0) (aCons (eCall bLen (aCons (eOp dIx (eVar 1) (eCon (.int 3))) (aNil))) (aNil))))) (sSeq (sSet (.nm 3) (eCall (lenF 2 (m__law_draw CN)) (aCons (eVar 0) (aCons (eCall bLen (aCons (eOp dIx (eOp dIx (eVar 1) (eCon (.int 3))) (eVar 2)) (aNil))) (aNil))))) (sSeq (sSet (.nm 4) (eCall (lenF 2 (m__law_draw CN)) (aCons (eVar 0) (aCons (eCon (.int 4)) (aNil))))) (sSeq (sSet (.nm 5) (eOp dIx (eOp dIx (eVar 1) (eCon (.int 3))) (eVar 2))) (sSeq (sSet (.nm 6) (eCall bList (aCons (eOp dIx (eVar 5) (eVar 3)) (aNil)))) (sSeq (sSub (eVar 6) (eVar 4) (eOp dIx (eTup (aCons (eCon (.bl true)) (aCons (eCon .non) (aCons (eCon (.str "1")) (aNil))))) (eCall (lenF 2 (m__law_draw CN)) (aCons (eVar 0) (aCons (eCon (.int 3)) (aNil)))))) (sSeq (sSet (.nm 7) (eCall bTuple (aCons (eLc (iVal (eOp dIx (eVar 1) (eCon (.int 3)))) (.nm 10) (yes) (eCall bTuple (aCons (eLc (iVal (eVar 10)) (.nm 11) (yes) (eCall bTuple (aCons (eLc (iVal (eVar 11)) (.nm 12) (yes) (eOp dMul (eCon (.int 2)) (eVar 12)) [12]) (aNil))) [11]) (aNil))) [10]) (aNil)))) (sSeq (sSet (.nm 8) (eOp dAdd (eOp dAdd (eSl (eVar 5) (oNone) (oSome (eVar 3))) (eTup (aCons (eCall bTuple (aCons (eVar 6) (aNil))) (aNil)))) (eSl (eVar 5) (oSome (eOp dAdd (eVar 3) (eCon (.int 1)))) (oNone)))) (sSeq (sSet (.nm 9) (eLst (aCons (eCon .non) (aCons (eCon (.bl true)) (aCons (eCon (.int 0)) (aCons (eCon (.str "table")) (aCons (eTup (aNil)) (aCons (eCall bList (aCons (eVar 1) (aNil))) (aCons (eSl (eVar 1) (oNone) (oSome (eCon (.int 3)))) (aCons (eOp dAdd (eVar 1) (eTup (aCons (eCon (.int 0)) (aNil)))) (aCons (eTup (aCons (eOp dIx (eVar 1) (eCon (.int 0))) (aCons (eOp dIx (eVar 1) (eCon (.int 1))) (aCons (eOp dAdd (eOp dIx (eVar 1) (eCon (.int 2))) (eCon (.int 2))) (aCons (eVar 7) (aNil)))))) (aNil)))))))))))) (sSeq (sExp (eApp (eVar 9) (aCons (eTup (aCons (eOp dIx (eVar 1) (eCon (.int 0))) (aCons (eOp dIx (eVar 1) (eCon (.int 1))) (aCons (eUn dNeg (eCon (.int 1))) (aCons (eOp dIx (eVar 1) (eCon (.int 3))) (aNil)))))) (aNil)))) (sSeq (sExp (eApp (eVar 9) (aCons (eTup (aCons (eOp dIx (eVar 1) (eCon (.int 0))) (aCons (eOp dIx (eVar 1) (eCon (.int 1))) (aCons (eCon (.str "0")) (aCons (eOp dIx (eVar 1) (eCon (.int 3))) (aNil)))))) (aNil)))) (sSeq (sExp (eApp (eVar 9) (aCons (eTup (aCons (eOp dIx (eVar 1) (eCon (.int 0))) (aCons (eOp dIx (eVar 1) (eCon (.int 1))) (aCons (eOp dIx (eVar 1) (eCon (.int 2))) (aCons (eCall bList (aCons (eOp dIx (eVar 1) (eCon (.int 3))) (aNil))) (aNil)))))) (aNil)))) (sSeq (sExp (eApp (eVar 9) (aCons (eTup (aCons (eOp dIx (eVar 1) (eCon (.int 0))) (aCons (eOp dIx (eVar 1) (eCon (.int 1))) (aCons (eOp dIx (eVar 1) (eCon (.int 2))) (aCons (eSl (eOp dIx (eVar 1) (eCon (.int 3))) (oSome (eCon (.int 1))) (oNone)) (aNil)))))) (aNil)))) (sSeq (sExp (eApp (eVar 9) (aCons (eTup (aCons (eOp dIx (eVar 1) (eCon (.int 0))) (aCons (eOp dIx (eVar 1) (eCon (.int 1))) (aCons (eOp dIx (eVar 1) (eCon (.int 2))) (aCons (eOp dAdd (eOp dIx (eVar 1) (eCon (.int 3))) (eSl (eOp dIx (eVar 1) (eCon (.int 3))) (oNone) (oSome (eCon (.int 1))))) (aNil)))))) (aNil)))) (sSeq (sExp (eApp (eVar 9) (aCons (eTup (aCons (eOp dIx (eVar 1) (eCon (.int 0))) (aCons (eOp dIx (eVar 1) (eCon (.int 1))) (aCons (eOp dIx (eVar 1) (eCon (.int 2))) (aCons (eOp dAdd (eOp dAdd (eSl (eOp dIx (eVar 1) (eCon (.int 3))) (oNone) (oSome (eVar 2))) (eTup (aCons (eVar 8) (aNil)))) (eSl (eOp dIx (eVar 1) (eCon (.int 3))) (oSome (eOp dAdd (eVar 2) (eCon (.int 1)))) (oNone))) (aNil)))))) (aNil)))) (sSeq (sExp (eApp (eVar 9) (aCons (eTup (aCons (eOp dIx (eVar 1) (eCon (.int 0))) (aCons (eOp dIx (eVar 1) (eCon (.int 1))) (aCons (eOp dIx (eVar 1) (eCon (.int 2))) (aCons (eOp dAdd (eOp dAdd (eSl (eOp dIx (eVar 1) (eCon (.int 3))) (oNone) (oSome (eVar 2))) (eTup (aCons (eSl (eVar 5) (oSome (eCon (.int 1))) (oNone)) (aNil)))) (eSl (eOp dIx (eVar 1) (eCon (.int 3))) (oSome (eOp dAdd (eVar 2) (eCon (.int 1)))) (oNone))) (aNil)))))) (aNil)))) (sSeq (sExp (eApp (eVar 9) (aCons (eTup (aCons (eOp dIx (eVar 1) (eCon (.int 0))) (aCons (eOp dIx (eVar 1) (eCon (.int 1))) (aCons (eOp dIx (eVar 1) (eCon (.int 2))) (aCons (eOp dAdd (eOp dAdd (eSl (eOp dIx (eVar 1) (eCon (.int 3))) (oNone) (oSome (eVar 2))) (eTup (aCons (eCall bList (aCons (eVar 5) (aNil))) (aNil)))) (eSl (eOp dIx (eVar 1) (eCon (.int 3))) (oSome (eOp dAdd (eVar 2) (eCon (.int 1)))) (oNone))) (aNil)))))) (aNil)))) (sSeq (sExp (eApp (eVar 9) (aCons (eTup (aCons (eOp dPow (eCon (.int 10)) (eCon (.int 40))) (aCons (eOp dIx (eVar 1) (eCon (.int 1))) (aCons (eOp dIx (eVar 1) (eCon (.int 2))) (aCons (eOp dIx (eVar 1) (eCon (.int 3))) (aNil)))))) (aNil)))) (sRet (eVar 9))))))))))))))))))))
def g__law_refused (CN : Str → Addr) : D → D → FE := fun d1 d2 τ M => ((eTup (aCons (eVar 1) (aCons (eUn dNeg (eCon (.int 1))) aNil))) τ M).bind fun u M1 => m__law_same CN 12 [.tup [d1, d2], u] M1
def rd__law_refused (CN : Str → Addr) (w : Str) (fb : FE) : FE := fun τ M => Lx.noX (Lx.rdRef (CN "NotUsable") "word" "at" (fun d1 d2 M => g__law_refused CN d1 d2 ((Lx.slots2 3 w).set 2 none) M) (fb τ M))

def m__law_refusals (CN : Str → Addr) : FD := mdef 9 (sSeq (sFor (iVal (eCall (lenF 2 (m__law_bent CN)) (aCons (eVar 0) (aCons (eVar 2) (aNil))))) (.nm 8) (sSeq (sIf (eNotT (eTst (rd__law_refused CN "second" (eCall (lenF 2 (m_chained CN)) (aCons (eVar 1) (aCons (eVar 8) (aNil))))))) (sRet (eCon (.bl false))) (sNil)) (sIf (eNotT (eTst (rd__law_refused CN "high" (eCall (fun ds M => lenF 2 (fun ds M => lenF 2 (m_side_by_side CN) (permL [1, 0] ds) M) ds M) (aCons (eVar 8) (aCons (eVar 1) (aNil))))))) (sRet (eCon (.bl false))) (sNil)))) (sSeq (sFor (iVal (eCall (lenF 2 (m__law_bent CN)) (aCons (eVar 0) (aCons (eVar 1) (aNil))))) (.nm 8) (sIf (eNotT (eTst (rd__law_refused CN "other" (eCall (lenF 2 (m_added CN)) (aCons (eVar 1) (aCons (eVar 8) (aNil))))))) (sRet (eCon (.bl false))) (sNil))) (sSeq (sSet (.nm 3) (eOp dIx (eVar 1) (eCon (.int 0)))) (sSeq (sSet (.nm 4) (eOp dIx (eVar 1) (eCon (.int 1)))) (sSeq (sSet (.nm 5) (eIf (eTB (eOp dLt (eVar 3) (eCon (.int 6)))) (eOp dAdd (eVar 3) (eCon (.int 1))) (eCon (.int 5)))) (sSeq (sSet (.nm 6) (eIf (eTB (eOp dLt (eVar 4) (eCon (.int 6)))) (eOp dAdd (eVar 4) (eCon (.int 1))) (eCon (.int 5)))) (sSeq (sFor (iVal (eTup (aCons (eCall (lenF 2 (m__law_nought CN)) (aCons (eCon (.int 0)) (aCons (eVar 5) (aNil)))) (aCons (eCall (lenF 3 (m__law_drawn CN)) (aCons (eVar 0) (aCons (eCon (.int 1)) (aCons (eVar 5) (aNil))))) (aCons (eCall (lenF 2 (m__law_nought CN)) (aCons (eCon (.int 1)) (aCons (eIf (eTB (eOp dGt (eVar 3) (eCon (.int 0)))) (eOp dSub (eVar 3) (eCon (.int 1))) (eCon (.int 2))) (aNil)))) (aNil)))))) (.nm 8) (sIf (eNotT (eTst (rd__law_refused CN "second" (eCall (fun ds M => lenF 2 (fun ds M => lenF 2 (m_chained CN) (permL [1, 0] ds) M) ds M) (aCons (eVar 8) (aCons (eVar 1) (aNil))))))) (sRet (eCon (.bl false))) (sNil))) (sSeq (sSet (.nm 7) (eLst (aCons (eCall (lenF 2 (m__law_nought CN)) (aCons (eVar 3) (aCons (eVar 6) (aNil)))) (aCons (eCall (lenF 2 (m__law_nought CN)) (aCons (eVar 5) (aCons (eVar 4) (aNil)))) (aCons (eCall (lenF 3 (m__law_drawn CN)) (aCons (eVar 0) (aCons (eVar 5) (aCons (eCall bMin (aCons (eVar 4) (aCons (eCon (.int 2)) (aNil)))) (aNil))))) (aNil)))))) (sSeq (sIf (eTB (eOp dNe (eVar 3) (eVar 4))) (sExp (eApp (eVar 7) (aCons (eCall (lenF 2 (m__law_nought CN)) (aCons (eVar 4) (aCons (eVar 3) (aNil)))) (aNil)))) (sNil)) (sSeq (sFor (iVal (eVar 7)) (.nm 8) (sIf (eNotT (eTst (rd__law_refused CN "other" (eCall (fun ds M => lenF 2 (fun ds M => lenF 2 (m_added CN) (permL [1, 0] ds) M) ds M) (aCons (eVar 8) (aCons (eVar 1) (aNil))))))) (sRet (eCon (.bl false))) (sNil))) (sRet (eCon (.bl true)))))))))))))
def m__law_products (CN : Str → Addr) : FD := mdef 12 (sSeq (sSet (.nm 3) (eCall (lenF 2 (m_chained CN)) (aCons (eVar 1) (aCons (eVar 2) (aNil))))) (sSeq (sIf (eOrT (eNotT (eTst (eCall (lenF 3 (m__law_chain CN)) (aCons (eVar 1) (aCons (eVar 2) (aCons (eVar 3) (aNil))))))) (eNotT (eTst (eCall (lenF 2 (m__law_same CN 12)) (aCons (eCall (fun ds M => lenF 2 (fun ds M => lenF 2 (m_chained CN) (permL [1, 0] ds) M) ds M) (aCons (eVar 2) (aCons (eVar 1) (aNil)))) (aCons (eVar 3) (aNil))))))) (sRet (eCon (.bl false))) (sNil)) (sSeq (sSet (.nm 4) (eCall (lenF 1 (m_mirrored CN)) (aCons (eVar 1) (aNil)))) (sSeq (sSet (.nm 5) (eCall (fun ds M => lenF 1 (fun ds M => lenF 1 (m_mirrored CN) (permL [0] ds) M) ds M) (aCons (eVar 2) (aNil)))) (sSeq (sIf (eOrT (eNotT (eTst (eCall (lenF 2 (m__law_over CN)) (aCons (eVar 1) (aCons (eVar 4) (aNil)))))) (eNotT (eTst (eCall (lenF 2 (m__law_over CN)) (aCons (eVar 2) (aCons (eVar 5) (aNil))))))) (sRet (eCon (.bl false))) (sNil)) (sSeq (sIf (eNotT (eTst (eCall (lenF 2 (m__law_same CN 12)) (aCons (eCall (lenF 1 (m_mirrored CN)) (aCons (eVar 4) (aNil))) (aCons (eVar 1) (aNil)))))) (sRet (eCon (.bl false))) (sNil)) (sSeq (sIf (eAndT (eTB (eOp dLe (eOp dIx (eVar 3) (eCon (.int 2))) (eCon (.int 60)))) (eTst (eCall bAll (aCons (eLc (iVal (eOp dIx (eVar 3) (eCon (.int 3)))) (.nm 9) (yes) (eCall bAll (aCons (eLc (iVal (eVar 9)) (.nm 10) (yes) (eAnd (eOp dLt (eCall bMax (aCons (eVar 10) (aNil))) (eOp dPow (eCon (.int 10)) (eCon (.int 12)))) (eOp dGt (eCall bMin (aCons (eVar 10) (aNil))) (eOp dSub (eCon (.int 0)) (eOp dPow (eCon (.int 10)) (eCon (.int 12)))))) [10]) (aNil))) [9]) (aNil))))) (sIf (eNotT (eTst (eCall (lenF 2 (m__law_same CN 12)) (aCons (eCall (lenF 1 (m_mirrored CN)) (aCons (eVar 3) (aNil))) (aCons (eCall (lenF 2 (m_chained CN)) (aCons (eVar 5) (aCons (eVar 4) (aNil)))) (aNil)))))) (sRet (eCon (.bl false))) (sNil)) (sNil)) (sSeq (sIf (eAndT (eTB (eOp dEq (eOp dIx (eVar 1) (eCon (.int 0))) (eOp dIx (eVar 2) (eCon (.int 0))))) (eAndT (eTB (eOp dEq (eOp dIx (eVar 1) (eCon (.int 1))) (eOp dIx (eVar 2) (eCon (.int 1))))) (eNotT (eTst (eCall (lenF 3 (m__law_sum CN)) (aCons (eVar 1) (aCons (eVar 2) (aCons (eCall (lenF 2 (m_added CN)) (aCons (eVar 1) (aCons (eVar 2) (aNil)))) (aNil))))))))) (sRet (eCon (.bl false))) (sNil)) (sSeq (sSet (.nm 6) (eCall (lenF 3 (m__law_drawn CN)) (aCons (eVar 0) (aCons (eOp dIx (eVar 1) (eCon (.int 0))) (aCons (eOp dIx (eVar 1) (eCon (.int 1))) (aNil)))))) (sSeq (sSet (.nm 7) (eTup (aCons (eOp dIx (eVar 1) (eCon (.int 0))) (aCons (eOp dIx (eVar 1) (eCon (.int 1))) (aCons (eOp dIx (eVar 1) (eCon (.int 2))) (aCons (eCall bTuple (aCons (eLc (iVal (eOp dIx (eVar 1) (eCon (.int 3)))) (.nm 9) (yes) (eCall bTuple (aCons (eLc (iVal (eVar 9)) (.nm 10) (yes) (eCall bTuple (aCons (eLc (iVal (eVar 10)) (.nm 11) (yes) (eOp dSub (eCon (.int 0)) (eVar 11)) [11]) (aNil))) [10]) (aNil))) [9]) (aNil))) (aNil))))))) (sSeq (sFor (iVal (eTup (aCons (eVar 6) (aCons (eVar 1) (aCons (eVar 7) (aNil)))))) (.nm 8) (sSeq (sSet (.nm 3) (eCall (lenF 2 (m_added CN)) (aCons (eVar 1) (aCons (eVar 8) (aNil))))) (sIf (eOrT (eNotT (eTst (eCall (lenF 3 (m__law_sum CN)) (aCons (eVar 1) (aCons (eVar 8) (aCons (eVar 3) (aNil))))))) (eNotT (eTst (eCall (lenF 2 (m__law_same CN 12)) (aCons (eCall (fun ds M => lenF 2 (fun ds M => lenF 2 (m_added CN) (permL [1, 0] ds) M) ds M) (aCons (eVar 1) (aCons (eVar 8) (aNil)))) (aCons (eVar 3) (aNil))))))) (sRet (eCon (.bl false))) (sNil)))) (sRet (eCall (lenF 2 (m__law_same CN 12)) (aCons (eCall (lenF 2 (m_added CN)) (aCons (eVar 1) (aCons (eVar 7) (aNil)))) (aCons (eCall (lenF 2 (m__law_nought CN)) (aCons (eOp dIx (eVar 1) (eCon (.int 0))) (aCons (eOp dIx (eVar 1) (eCon (.int 1))) (aNil)))) (aNil))))))))))))))))
def m_law (CN : Str → Addr) : FD := mdef 10 (sSeq (sSet (.nm 1) (eCall (lenF 1 (m__law_start CN)) (aCons (eVar 0) (aNil)))) (sSeq (sSet (.nm 2) (eCall (lenF 2 (m__law_draw CN)) (aCons (eVar 1) (aCons (eCon (.int 4)) (aNil))))) (sSeq (sSet (.nm 3) (eCall (lenF 2 (m__law_draw CN)) (aCons (eVar 1) (aCons (eCon (.int 4)) (aNil))))) (sSeq (sSet (.nm 4) (eCall (lenF 2 (m__law_draw CN)) (aCons (eVar 1) (aCons (eCon (.int 4)) (aNil))))) (sSeq (sIf (eTB (eOp dGt (eOp dAdd (eOp dAdd (eVar 2) (eVar 3)) (eVar 4)) (eCon (.int 7)))) (sSet (.nm 4) (eCon (.int 1))) (sNil)) (sSeq (sIf (eTB (eOp dEq (eCall (lenF 2 (m__law_draw CN)) (aCons (eVar 1) (aCons (eCon (.int 16)) (aNil)))) (eCon (.int 3)))) (sSet (.tp [.nm 2, .nm 3, .nm 4]) (eOp dIx (eTup (aCons (eTup (aCons (eCon (.int 0)) (aCons (eCon (.int 6)) (aCons (eCon (.int 3)) (aNil))))) (aCons (eTup (aCons (eCon (.int 6)) (aCons (eCon (.int 0)) (aCons (eCon (.int 4)) (aNil))))) (aCons (eTup (aCons (eCon (.int 6)) (aCons (eCon (.int 3)) (aCons (eCon (.int 1)) (aNil))))) (aCons (eTup (aCons (eCon (.int 2)) (aCons (eCon (.int 5)) (aCons (eCon (.int 3)) (aNil))))) (aCons (eTup (aCons (eCon (.int 2)) (aCons (eCon (.int 2)) (aCons (eCon (.int 6)) (aNil))))) (aNil))))))) (eCall (lenF 2 (m__law_draw CN)) (aCons (eVar 1) (aCons (eCon (.int 5)) (aNil)))))) (sNil)) (sSeq (sSet (.nm 5) (eCall (lenF 3 (m__law_drawn CN)) (aCons (eVar 1) (aCons (eVar 3) (aCons (eVar 2) (aNil)))))) (sSeq (sSet (.nm 6) (eCall (lenF 3 (m__law_drawn CN)) (aCons (eVar 1) (aCons (eVar 4) (aCons (eVar 3) (aNil)))))) (sSeq (sIf (eOrT (eNotT (eTst (eCall (lenF 3 (m__law_products CN)) (aCons (eVar 1) (aCons (eVar 5) (aCons (eVar 6) (aNil))))))) (eNotT (eTst (eCall (lenF 3 (m__law_refusals CN)) (aCons (eVar 1) (aCons (eVar 5) (aCons (eVar 6) (aNil)))))))) (sRet (eCon (.bl false))) (sNil)) (sSeq (sSet (.nm 7) (eCall (lenF 3 (m__law_drawn CN)) (aCons (eVar 1) (aCons (eCall (lenF 2 (m__law_draw CN)) (aCons (eVar 1) (aCons (eCon (.int 3)) (aNil)))) (aCons (eCall (lenF 2 (m__law_draw CN)) (aCons (eVar 1) (aCons (eCon (.int 3)) (aNil)))) (aNil)))))) (sSeq (sSet (.nm 8) (eCall (lenF 3 (m__law_drawn CN)) (aCons (eVar 1) (aCons (eCall (lenF 2 (m__law_draw CN)) (aCons (eVar 1) (aCons (eCon (.int 3)) (aNil)))) (aCons (eCall (lenF 2 (m__law_draw CN)) (aCons (eVar 1) (aCons (eCon (.int 3)) (aNil)))) (aNil)))))) (sSeq (sIf (eTB (eOp dEq (eCall (lenF 2 (m__law_draw CN)) (aCons (eVar 1) (aCons (eCon (.int 16)) (aNil)))) (eCon (.int 7)))) (sSeq (sSet (.nm 7) (eCall (lenF 3 (m__law_drawn CN)) (aCons (eVar 1) (aCons (eCon (.int 3)) (aCons (eCall (lenF 2 (m__law_draw CN)) (aCons (eVar 1) (aCons (eCon (.int 2)) (aNil)))) (aNil)))))) (sSet (.nm 8) (eCall (lenF 3 (m__law_drawn CN)) (aCons (eVar 1) (aCons (eCon (.int 3)) (aCons (eCall (lenF 2 (m__law_draw CN)) (aCons (eVar 1) (aCons (eCon (.int 2)) (aNil)))) (aNil))))))) (sNil)) (sSeq (sSet (.nm 9) (eCall (lenF 2 (m_side_by_side CN)) (aCons (eVar 7) (aCons (eVar 8) (aNil))))) (sSeq (sIf (eOrT (eNotT (eTst (eCall (lenF 3 (m__law_beside CN)) (aCons (eVar 7) (aCons (eVar 8) (aCons (eVar 9) (aNil))))))) (eNotT (eTst (eCall (lenF 2 (m__law_same CN 12)) (aCons (eCall (fun ds M => lenF 2 (fun ds M => lenF 2 (m_side_by_side CN) (permL [1, 0] ds) M) ds M) (aCons (eVar 8) (aCons (eVar 7) (aNil)))) (aCons (eVar 9) (aNil))))))) (sRet (eCon (.bl false))) (sNil)) (sRet (eCall (lenF 3 (m__law_beside CN)) (aCons (eVar 8) (aCons (eVar 7) (aCons (eCall (lenF 2 (m_side_by_side CN)) (aCons (eVar 8) (aCons (eVar 7) (aNil)))) (aNil))))))))))))))))))))
end K29

set_option Elab.async false
set_option linter.all false
set_option maxRecDepth 100000
/-! Kp1: exact values, tables, the one form: the mathematics alone -/
namespace Kp
@[ext] structure Q where
  a : Int
  b : Int
  c : Int
  d : Int
deriving DecidableEq
def Q.add (x y : Q) : Q := ⟨x.a + y.a, x.b + y.b, x.c + y.c, x.d + y.d⟩
def Q.mul (x y : Q) : Q := ⟨x.a * y.a - x.b * y.d - x.c * y.c - x.d * y.b, x.a * y.b + x.b * y.a - x.c * y.d - x.d * y.c, x.a * y.c + x.b * y.b + x.c * y.a - x.d * y.d, x.a * y.d + x.b * y.c + x.c * y.b + x.d * y.a⟩
def Q.mir (x : Q) : Q := ⟨x.a, -x.d, -x.c, -x.b⟩
def Q.neg (x : Q) : Q := ⟨-x.a, -x.b, -x.c, -x.d⟩
def q0 : Q := ⟨0, 0, 0, 0⟩
def qR : Q := ⟨0, 1, 0, -1⟩
def Q.hasR (x : Q) : Bool := decide ((x.a + x.c) % 2 = 0) && decide ((x.b + x.d) % 2 = 0)
def Q.byR (x : Q) : Q := ⟨(x.b - x.d) / 2, (x.a + x.c) / 2, (x.b + x.d) / 2, (x.c - x.a) / 2⟩
def Q.mulR (x : Q) : Q := ⟨x.b - x.d, x.a + x.c, x.b + x.d, x.c - x.a⟩
def Q.Bd (B : Int) (x : Q) : Prop := (-B < x.a ∧ x.a < B) ∧ (-B < x.b ∧ x.b < B) ∧ (-B < x.c ∧ x.c < B) ∧ (-B < x.d ∧ x.d < B)
theorem hasR_iff {x : Q} : x.hasR = true ↔ (x.a + x.c) % 2 = 0 ∧ (x.b + x.d) % 2 = 0 := by simp [Q.hasR]
theorem mulR_byR {x : Q} (h : x.hasR = true) : x.byR.mulR = x := by
  rw [hasR_iff] at h
  ext <;> simp only [Q.byR, Q.mulR] <;> omega
theorem hasR_mir {x : Q} : x.mir.hasR = x.hasR := by
  rw [Bool.eq_iff_iff, hasR_iff, hasR_iff]; simp only [Q.mir]; omega
theorem byR_mir {x : Q} (h : x.hasR = true) : x.mir.byR = x.byR.mir := by
  rw [hasR_iff] at h
  ext <;> simp only [Q.byR, Q.mir] <;> omega
theorem mir_mir {x : Q} : x.mir.mir = x := by ext <;> simp [Q.mir]
theorem byR_bd {x : Q} {B : Int} (h : x.Bd B) : x.byR.Bd B := by
  simp only [Q.Bd, Q.byR] at *; omega
theorem mir_bd {x : Q} {B : Int} (h : x.Bd B) : x.mir.Bd B := by
  simp only [Q.Bd, Q.mir] at *; omega
theorem neg_bd {x : Q} {B : Int} (h : x.Bd B) : x.neg.Bd B := by
  simp only [Q.Bd, Q.neg] at *; omega
theorem mir_mul {x y : Q} : (x.mul y).mir = y.mir.mul x.mir := by
  ext <;> simp only [Q.mul, Q.mir] <;> grind
theorem mir_add {x y : Q} : (x.add y).mir = x.mir.add y.mir := by
  ext <;> simp only [Q.add, Q.mir] <;> grind
theorem bd_mono {x : Q} {B C : Int} (h : x.Bd B) (l : B ≤ C) : x.Bd C := by
  simp only [Q.Bd] at *; omega
theorem add_bd {x y : Q} {B C : Int} (h : x.Bd B) (k : y.Bd C) : (x.add y).Bd (B + C) := by
  simp only [Q.Bd, Q.add] at *; omega
theorem mulI {x y B C : Int} (h : -B < x ∧ x < B) (k : -C < y ∧ y < C) : -(B * C) < x * y ∧ x * y < B * C := by
  have hb : 0 < B := by omega
  have hc : 0 < C := by omega
  have h1 : (x * y).natAbs < (B * C).natAbs := by
    rw [Int.natAbs_mul, Int.natAbs_mul]
    have a1 : x.natAbs < B.natAbs := by omega
    have a2 : y.natAbs < C.natAbs := by omega
    exact Nat.mul_lt_mul_of_lt_of_le a1 (Nat.le_of_lt a2) (by omega)
  have h2 : 0 < B * C := Int.mul_pos hb hc
  omega
theorem mul_bd {x y : Q} {B C : Int} (h : x.Bd B) (k : y.Bd C) : (x.mul y).Bd (4 * (B * C)) := by
  obtain ⟨h1, h2, h3, h4⟩ := h
  obtain ⟨k1, k2, k3, k4⟩ := k
  have := mulI h1 k1; have := mulI h1 k2; have := mulI h1 k3; have := mulI h1 k4
  have := mulI h2 k1; have := mulI h2 k2; have := mulI h2 k3; have := mulI h2 k4
  have := mulI h3 k1; have := mulI h3 k2; have := mulI h3 k3; have := mulI h3 k4
  have := mulI h4 k1; have := mulI h4 k2; have := mulI h4 k3; have := mulI h4 k4
  simp only [Q.Bd, Q.mul]; omega
/-! ### values -/
def val (W : Int) (x : Q) : Int := ((x.d * W + x.c) * W + x.b) * W + x.a
def Cg (N x y : Int) : Prop := N ∣ x - y
theorem Cg.rfl {N x : Int} : Cg N x x := by simp [Cg]
theorem Cg.of_eq {N x y : Int} (h : x = y) : Cg N x y := h ▸ Cg.rfl
theorem Cg.symm {N x y : Int} (h : Cg N x y) : Cg N y x := by
  obtain ⟨k, e⟩ := h; exact ⟨-k, by rw [Int.mul_neg, ← e]; omega⟩
theorem Cg.trans {N x y z : Int} (h : Cg N x y) (k : Cg N y z) : Cg N x z := by
  obtain ⟨a, e⟩ := h; obtain ⟨b, f⟩ := k; exact ⟨a + b, by rw [Int.mul_add, ← e, ← f]; omega⟩
theorem Cg.add {N x y z w : Int} (h : Cg N x y) (k : Cg N z w) : Cg N (x + z) (y + w) := by
  obtain ⟨a, e⟩ := h; obtain ⟨b, f⟩ := k; exact ⟨a + b, by rw [Int.mul_add, ← e, ← f]; omega⟩
theorem Cg.mul {N x y z w : Int} (h : Cg N x y) (k : Cg N z w) : Cg N (x * z) (y * w) := by
  obtain ⟨a, e⟩ := h; obtain ⟨b, f⟩ := k; exact ⟨a * z + y * b, by grind⟩
theorem Cg.pow {N x y : Int} (h : Cg N x y) : ∀ n : Nat, Cg N (x ^ n) (y ^ n)
  | 0 => Cg.of_eq (by simp)
  | n + 1 => by rw [Int.pow_succ, Int.pow_succ]; exact (Cg.pow h n).mul h
theorem Cg.mod {N x y : Int} (h : Cg N x y) : (x - y) % N = 0 := Int.emod_eq_zero_of_dvd h
section
variable {W : Int}
abbrev NN (W : Int) : Int := W * W * W * W + 1
abbrev rho (W : Int) : Int := W - W * W * W
theorem val_add {x y : Q} : val W (x.add y) = val W x + val W y := by simp only [val, Q.add]; grind
theorem val_mul {x y : Q} : Cg (NN W) (val W (x.mul y)) (val W x * val W y) :=
  ⟨-((x.b * y.d + x.c * y.c + x.d * y.b) + (x.c * y.d + x.d * y.c) * W + x.d * y.d * W * W), by simp only [val, Q.mul, NN]; grind⟩
theorem val_mulR {x : Q} : Cg (NN W) (val W x.mulR) (val W x * rho W) := ⟨x.b - x.d + x.c * W + x.d * W * W, by simp only [val, Q.mulR, NN, rho]; grind⟩
theorem rho2 : Cg (NN W) (rho W * rho W) 2 := ⟨W * W - 2, by simp only [NN, rho]; grind⟩
/-- the law's own root -/
def rootI (W : Int) (n : Nat) : Int := if n % 2 = 1 then 2 ^ (n / 2) * rho W else 2 ^ (n / 2)
theorem rootI_cg (n : Nat) : Cg (NN W) (rootI W n) (rho W ^ n) := by
  have h2 : ∀ k : Nat, Cg (NN W) ((2 : Int) ^ k) (rho W ^ (2 * k)) := fun k => by
    rw [Int.pow_mul]
    exact (Cg.trans (Cg.of_eq (by rw [Int.pow_succ, Int.pow_succ, Int.pow_zero, Int.one_mul])) rho2).symm.pow k
  unfold rootI
  split
  · have e : n = 2 * (n / 2) + 1 := by omega
    conv => rhs; rw [e, Int.pow_succ]
    exact (h2 _).mul Cg.rfl
  · have e : n = 2 * (n / 2) := by omega
    conv => rhs; rw [e]
    exact h2 _
theorem val_q0 : val W q0 = 0 := by simp [val, q0]
theorem val_neg {x : Q} : val W x.neg = -val W x := by simp only [val, Q.neg]; grind
theorem val_mir {x : Q} : val W x.mir = x.a - x.b * (W * W * W) - x.c * (W * W) - x.d * W := by simp only [val, Q.mir]; grind
end
/-! ### grids -/
abbrev F := Nat → Nat → Q
def tab (m n : Nat) (f : F) : List (List Q) := (List.range m).map fun y => (List.range n).map fun x => f y x
def allF (m n : Nat) (p : Q → Bool) (f : F) : Bool := (List.range m).all fun y => (List.range n).all fun x => p (f y x)
theorem allF_iff {m n : Nat} {p : Q → Bool} {f : F} : allF m n p f = true ↔ ∀ y x, y < m → x < n → p (f y x) = true := by
  simp only [allF, List.all_eq_true, List.mem_range]
  exact ⟨fun h y x hy hx => h y hy x hx, fun h y hy x hx => h y x hy hx⟩
/-- divided by r as long as it goes -/
def formF (m n : Nat) : Nat → F → Nat × F
  | 0, f => (0, f)
  | p + 1, f => if allF m n Q.hasR f = true then formF m n p fun y x => (f y x).byR else (p + 1, f)
def isNF (m n : Nat) (f : F) : Bool := allF m n (fun q => decide (q = q0)) f
/-- the one form -/
def oneF (m n p : Nat) (f : F) : Nat × F := if 0 < p ∧ isNF m n f = true then (0, f) else formF m n p f
def rp : Nat → Q → Q
  | 0, q => q
  | k + 1, q => rp k q.mulR
theorem rp_mulR : ∀ (k : Nat) (q : Q), rp k q.mulR = (rp k q).mulR
  | 0, _ => rfl
  | k + 1, q => rp_mulR k q.mulR
structure FormOk (m n p : Nat) (f : F) (r : Nat × F) : Prop where
  k : ∃ k, p = r.1 + k ∧ ∀ y x, y < m → x < n → f y x = rp k (r.2 y x)
  free : r.1 = 0 ∨ allF m n Q.hasR r.2 = false
  bd : ∀ B, (∀ y x, y < m → x < n → (f y x).Bd B) → ∀ y x, y < m → x < n → (r.2 y x).Bd B
theorem formF_ok {m n : Nat} : ∀ (p : Nat) (f : F), FormOk m n p f (formF m n p f)
  | 0, f => ⟨⟨0, rfl, fun _ _ _ _ => rfl⟩, .inl rfl, fun _ h => h⟩
  | p + 1, f => by
    unfold formF
    split
    · next h =>
      obtain ⟨⟨k, e, g⟩, fr, bd⟩ := formF_ok p fun y x => (f y x).byR
      refine ⟨⟨k + 1, by omega, fun y x hy hx => ?_⟩, fr, fun B hB => bd B fun y x hy hx => byR_bd (hB y x hy hx)⟩
      show _ = rp k (Q.mulR _)
      rw [rp_mulR, ← g y x hy hx, mulR_byR (allF_iff.mp h y x hy hx)]
    · next h => exact ⟨⟨0, rfl, fun _ _ _ _ => rfl⟩, .inr (by simpa using h), fun _ h => h⟩
theorem rp_q0 : ∀ k, rp k q0 = q0
  | 0 => rfl
  | k + 1 => rp_q0 k
theorem isNF_iff {m n : Nat} {f : F} : isNF m n f = true ↔ ∀ y x, y < m → x < n → f y x = q0 := by simp [isNF, allF_iff]
theorem oneF_ok {m n p : Nat} {f : F} : FormOk m n p f (oneF m n p f) := by
  unfold oneF
  split
  · next h =>
    refine ⟨⟨p, by simp, fun y x hy hx => ?_⟩, .inl rfl, fun _ h => h⟩
    show f y x = rp p (f y x)
    rw [isNF_iff.mp h.2 y x hy hx, rp_q0]
  · exact formF_ok p f
theorem formF_id {m n p : Nat} {f : F} (h : p = 0 ∨ allF m n Q.hasR f = false) : formF m n p f = (p, f) := by
  cases p with
  | zero => rfl
  | succ p =>
    rcases h with h | h
    · cases h
    · simp [formF, h]
theorem oneF_id {m n p : Nat} {f : F} (h : p = 0 ∨ allF m n Q.hasR f = false) : oneF m n p f = (p, f) := by
  unfold oneF
  split
  · next g =>
    rcases h with h | h
    · omega
    · have : allF m n Q.hasR f = true := allF_iff.mpr fun y x hy hx => by rw [isNF_iff.mp g.2 y x hy hx]; decide
      rw [this] at h; cases h
  · exact formF_id h
/-- grids that are the same where they are asked -/
def Eqv (m n : Nat) (f g : F) : Prop := ∀ y x, y < m → x < n → f y x = g y x
theorem allF_congr {m n : Nat} {p : Q → Bool} {f g : F} (h : Eqv m n f g) : allF m n p f = allF m n p g := by
  rw [Bool.eq_iff_iff, allF_iff, allF_iff]
  exact ⟨fun k y x hy hx => h y x hy hx ▸ k y x hy hx, fun k y x hy hx => (h y x hy hx).symm ▸ k y x hy hx⟩
theorem tab_congr {m n : Nat} {f g : F} (h : Eqv m n f g) : tab m n f = tab m n g := by
  unfold tab
  exact List.map_congr_left fun y hy => List.map_congr_left fun x hx => h y x (List.mem_range.mp hy) (List.mem_range.mp hx)
theorem formF_congr {m n : Nat} : ∀ (p : Nat) {f g : F}, Eqv m n f g → (formF m n p f).1 = (formF m n p g).1 ∧ Eqv m n (formF m n p f).2 (formF m n p g).2
  | 0, f, g, h => ⟨rfl, h⟩
  | p + 1, f, g, h => by
    unfold formF
    rw [allF_congr h]
    split
    · exact formF_congr p fun y x hy hx => by rw [h y x hy hx]
    · exact ⟨rfl, h⟩
theorem oneF_congr {m n p : Nat} {f g : F} (h : Eqv m n f g) : (oneF m n p f).1 = (oneF m n p g).1 ∧ Eqv m n (oneF m n p f).2 (oneF m n p g).2 := by
  unfold oneF isNF
  rw [allF_congr h]
  split
  · exact ⟨rfl, h⟩
  · exact formF_congr p h
def mirF (f : F) : F := fun y x => (f x y).mir
theorem allF_mir {m n : Nat} {f : F} : allF n m Q.hasR (mirF f) = allF m n Q.hasR f := by
  rw [Bool.eq_iff_iff, allF_iff, allF_iff]
  simp only [mirF, hasR_mir]
  exact ⟨fun k y x hy hx => k x y hx hy, fun k y x hy hx => k x y hx hy⟩
theorem formF_mir {m n : Nat} : ∀ (p : Nat) {f : F}, (formF n m p (mirF f)).1 = (formF m n p f).1 ∧ Eqv n m (formF n m p (mirF f)).2 (mirF (formF m n p f).2)
  | 0, f => ⟨rfl, fun _ _ _ _ => rfl⟩
  | p + 1, f => by
    unfold formF
    rw [allF_mir]
    split
    · next h =>
      have e : Eqv n m (fun y x => (mirF f y x).byR) (mirF fun y x => (f y x).byR) := fun y x hy hx => byR_mir (allF_iff.mp h x y hx hy)
      have h1 := formF_congr p e
      have h2 := formF_mir (m := m) (n := n) p (f := fun y x => (f y x).byR)
      exact ⟨h1.1.trans h2.1, fun y x hy hx => (h1.2 y x hy hx).trans (h2.2 y x hy hx)⟩
    · exact ⟨rfl, fun _ _ _ _ => rfl⟩
theorem oneF_mir {m n p : Nat} {f : F} : (oneF n m p (mirF f)).1 = (oneF m n p f).1 ∧ Eqv n m (oneF n m p (mirF f)).2 (mirF (oneF m n p f).2) := by
  have e : isNF n m (mirF f) = isNF m n f := by
    rw [Bool.eq_iff_iff, isNF_iff, isNF_iff]
    constructor
    · intro h y x hy hx
      have := h x y hx hy
      have h2 : (f y x).mir.mir = q0.mir := congrArg Q.mir this
      rw [mir_mir] at h2; rw [h2]; decide
    · intro h y x hy hx
      show (f x y).mir = q0
      rw [h x y hx hy]; decide
  unfold oneF
  rw [e]
  split
  · exact ⟨rfl, fun _ _ _ _ => rfl⟩
  · exact formF_mir p
/-! ### the entry's question -/
section
variable {W : Int}
theorem val_rp : ∀ (k : Nat) (q : Q), Cg (NN W) (val W (rp k q)) (val W q * rho W ^ k)
  | 0, q => Cg.of_eq (by simp [rp])
  | k + 1, q => by
    refine (val_rp k q.mulR).trans ?_
    refine (val_mulR.mul Cg.rfl).trans (Cg.of_eq ?_)
    rw [Int.pow_succ]; grind
/-- told is the one form of what is due over r to the height -/
theorem entry_ok {m n P : Nat} {f : F} {due : Int} {y x : Nat} (hy : y < m) (hx : x < n) (h : Cg (NN W) due (val W (f y x))) :
    (val W ((oneF m n P f).2 y x) * rootI W P - due * rootI W (oneF m n P f).1) % NN W = 0 := by
  obtain ⟨k, e, g⟩ := (oneF_ok (m := m) (n := n) (p := P) (f := f)).k
  refine Cg.mod ?_
  generalize oneF m n P f = r at *
  have h1 := g y x hy hx
  refine (Cg.mul Cg.rfl (rootI_cg P)).trans ?_
  refine Cg.trans ?_ (Cg.mul h (rootI_cg r.1)).symm
  rw [h1]
  refine Cg.trans ?_ (Cg.mul (val_rp k _) Cg.rfl).symm
  refine Cg.of_eq ?_
  rw [e, Int.pow_add]; grind
/-- the same of a sum over the greater power -/
theorem entry_sum {m n l r : Nat} {f g : F} {h : F} {y x : Nat} (hy : y < m) (hx : x < n) (e : h y x = (rp (max l r - l) (f y x)).add (rp (max l r - r) (g y x))) :
    (val W ((oneF m n (max l r) h).2 y x) * rootI W (l + r) - (val W (f y x) * rootI W r + val W (g y x) * rootI W l) * rootI W (oneF m n (max l r) h).1) % NN W = 0 := by
  obtain ⟨k, ek, gk⟩ := (oneF_ok (m := m) (n := n) (p := max l r) (f := h)).k
  refine Cg.mod ?_
  generalize oneF m n (max l r) h = t at *
  have h1 := gk y x hy hx
  refine (Cg.mul Cg.rfl (rootI_cg (l + r))).trans ?_
  refine Cg.trans ?_ (Cg.mul ((Cg.mul Cg.rfl (rootI_cg r)).add (Cg.mul Cg.rfl (rootI_cg l))) (rootI_cg t.1)).symm
  have h2 : Cg (NN W) (val W (t.2 y x) * rho W ^ k) (val W (f y x) * rho W ^ (max l r - l) + val W (g y x) * rho W ^ (max l r - r)) := by
    refine (val_rp k _).symm.trans ?_
    rw [← h1, e, val_add]
    exact (val_rp _ _).add (val_rp _ _)
  have h3 := Cg.mul h2 (Cg.rfl (N := NN W) (x := rho W ^ (t.1 + min l r)))
  refine Cg.trans (Cg.of_eq ?_) (h3.trans (Cg.of_eq ?_))
  · have : l + r = k + (t.1 + min l r) := by omega
    rw [this, Int.pow_add]; grind
  · have e1 : rho W ^ (max l r - l) * rho W ^ (t.1 + min l r) = rho W ^ r * rho W ^ t.1 := by
      rw [← Int.pow_add, ← Int.pow_add]; congr 1; omega
    have e2 : rho W ^ (max l r - r) * rho W ^ (t.1 + min l r) = rho W ^ l * rho W ^ t.1 := by
      rw [← Int.pow_add, ← Int.pow_add]; congr 1; omega
    grind
end
theorem mulR_mul {q : Q} : q.mulR = q.mul qR := by ext <;> simp only [Q.mulR, Q.mul, qR] <;> grind
def Q.shl (k : Nat) (q : Q) : Q := ⟨q.a * 2 ^ k, q.b * 2 ^ k, q.c * 2 ^ k, q.d * 2 ^ k⟩
theorem shl_mulR {k : Nat} {q : Q} : (q.shl k).mulR = q.mulR.shl k := by ext <;> simp only [Q.mulR, Q.shl] <;> grind
theorem rp_two : ∀ (k : Nat) (q : Q), rp (2 * k) q = q.shl k
  | 0, q => by simp [rp, Q.shl]
  | k + 1, q => by
    rw [show 2 * (k + 1) = 2 * k + 1 + 1 from rfl]
    show rp (2 * k) q.mulR.mulR = _
    rw [rp_two k]
    ext <;> simp only [Q.mulR, Q.shl] <;> rw [Int.pow_succ] <;> grind
theorem rp_eq (n : Nat) (q : Q) : rp n q = if n % 2 = 1 then (q.shl (n / 2)).mul qR else q.shl (n / 2) := by
  split
  · have e : n = 2 * (n / 2) + 1 := by omega
    conv => lhs; rw [e]
    show rp (2 * (n / 2)) q.mulR = _
    rw [rp_two, ← mulR_mul, shl_mulR]
  · have e : n = 2 * (n / 2) := by omega
    conv => lhs; rw [e]
    exact rp_two _ _
theorem mulR_bd {x : Q} {B : Int} (h : x.Bd B) : x.mulR.Bd (2 * B) := by
  simp only [Q.Bd, Q.mulR] at *; omega
theorem rp_bd : ∀ (k : Nat) {x : Q} {B : Int}, x.Bd B → (rp k x).Bd (2 ^ k * B)
  | 0, _, _, h => by simpa [rp] using h
  | k + 1, x, B, h => by
    have := rp_bd k (mulR_bd h)
    rw [Int.pow_succ, Int.mul_assoc]; exact this
end Kp

set_option Elab.async false
set_option linter.all false
set_option maxRecDepth 100000
set_option maxHeartbeats 2000000
/-! Kp2: what a reading gives: rules -/
namespace Kq
open PySem PySem.Spec PyProof.Rows L2 Mp
/-- the store only grows -/
def Le (M M' : Sto) : Prop := M.length ≤ M'.length ∧ ∀ j, j < M.length → M'[j]? = M[j]?
@[simp] theorem Le.rfl {M : Sto} : Le M M := ⟨Nat.le_refl _, fun _ _ => Eq.refl _⟩
theorem Le.trans {M N O : Sto} (h : Le M N) (k : Le N O) : Le M O := ⟨Nat.le_trans h.1 k.1, fun j hj => (k.2 j (Nat.lt_of_lt_of_le hj h.1)).trans (h.2 j hj)⟩
theorem Le.app {M X : Sto} : Le M (M ++ X) := ⟨by simp, fun j hj => List.getElem?_append_left hj⟩
theorem Le.take {M N : Sto} (h : Le M N) : Le M (N.take M.length) := ⟨by rw [List.length_take]; have := h.1; omega, fun j hj => by rw [List.getElem?_take]; simp [hj, h.2 j hj]⟩
theorem Le.get {M N : Sto} (h : Le M N) {n : Nat} {o : MO} (e : M[n]? = some o) : N[n]? = some o := by
  have : n < M.length := by
    rcases Nat.lt_or_ge n M.length with h | h
    · exact h
    · rw [List.getElem?_eq_none h] at e; cases e
  rw [h.2 n this, e]
theorem lt_of_get {M : Sto} {n : Nat} {o : MO} (e : M[n]? = some o) : n < M.length := by
  rcases Nat.lt_or_ge n M.length with h | h
  · exact h
  · rw [List.getElem?_eq_none h] at e; cases e
/-- all but the object at t stays -/
def Gr (t : Nat) (M M' : Sto) : Prop := M.length ≤ M'.length ∧ ∀ j, j < M.length → j ≠ t → M'[j]? = M[j]?
@[simp] theorem Gr.rfl {t : Nat} {M : Sto} : Gr t M M := ⟨Nat.le_refl _, fun _ _ _ => Eq.refl _⟩
theorem Gr.trans {t : Nat} {M N O : Sto} (h : Gr t M N) (k : Gr t N O) : Gr t M O := ⟨Nat.le_trans h.1 k.1, fun j hj ne => (k.2 j (Nat.lt_of_lt_of_le hj h.1) ne).trans (h.2 j hj ne)⟩
theorem Le.gr {t : Nat} {M N : Sto} (h : Le M N) : Gr t M N := ⟨h.1, fun j hj _ => h.2 j hj⟩
theorem Gr.set {n : Nat} {M : Sto} {o : MO} : Gr n M (M.set n o) := ⟨by simp, fun j hj ne => by rw [List.getElem?_set_ne (Ne.symm ne)]⟩
theorem Gr.take {t : Nat} {M N : Sto} (h : Gr t M N) : Gr t M (N.take M.length) := ⟨by rw [List.length_take]; have := h.1; omega, fun j hj ne => by rw [List.getElem?_take]; simp [hj, h.2 j hj ne]⟩
/-- a change of an object behind the old ones -/
theorem Le.set {M N : Sto} {n : Nat} {o : MO} (h : Le M N) (hn : M.length ≤ n) : Le M (N.set n o) := ⟨by simp [h.1], fun j hj => by rw [List.getElem?_set_ne (by omega)]; exact h.2 j hj⟩
theorem Gr.setB {t : Nat} {M N : Sto} {n : Nat} {o : MO} (h : Gr t M N) (hn : M.length ≤ n) : Gr t M (N.set n o) := ⟨by simp [h.1], fun j hj ne => by rw [List.getElem?_set_ne (by omega)]; exact h.2 j hj ne⟩
/-! ### results -/
def W {α : Type} (r : Res α) (Q : α → Sto → Prop) : Prop := match r with
  | .ok a M => Q a M
  | _ => False
structure Cs where
  nx : Mp.Env → Sto → Prop
  bk : Mp.Env → Sto → Prop
  rt : D → Sto → Prop
def WS (r : SR) (C : Cs) : Prop := match r with
  | .go .nx τ M => C.nx τ M
  | .go .bk τ M => C.bk τ M
  | .go (.rt d) _ M => C.rt d M
  | _ => False
section
variable {α β : Type} {r : Res α} {Q Q' : α → Sto → Prop} {C : Cs} {τ : Mp.Env} {M : Sto} {f g : FE} {fb gb : Ev Bool} {fs gs : FS}
theorem W_ok {a : α} : W (.ok a M) Q ↔ Q a M := Iff.rfl
theorem W_mono (h : W r Q) (i : ∀ a M, Q a M → Q' a M) : W r Q' := by
  cases r with
  | ok a M => exact i a M h
  | exn => exact h
  | bad => exact h
theorem W_iff : W r Q ↔ ∃ a M, r = .ok a M ∧ Q a M := by
  cases r with
  | ok a M => exact ⟨fun h => ⟨a, M, rfl, h⟩, fun ⟨_, _, e, h⟩ => by cases e; exact h⟩
  | exn => exact ⟨fun h => h.elim, fun ⟨_, _, e, _⟩ => by cases e⟩
  | bad => exact ⟨fun h => h.elim, fun ⟨_, _, e, _⟩ => by cases e⟩
theorem W_bind {k : α → Sto → Res β} {R : β → Sto → Prop} : W (r.bind k) R ↔ W r (fun a M => W (k a M) R) := by cases r <;> exact Iff.rfl
theorem W_inB {k : α → Sto → Res β} {R : β → Sto → Prop} : W (inB r k) R ↔ W r (fun a M => W (k a M) R) := by cases r <;> exact Iff.rfl
theorem WS_liftR {k : α → FS} : WS (liftR τ r k) C ↔ W r (fun a M => WS (k a τ M) C) := by cases r <;> exact Iff.rfl
theorem WS_liftE {h : Ev α} {k : α → FS} : WS (liftE h k τ M) C ↔ W (h τ M) (fun a M => WS (k a τ M) C) := WS_liftR
theorem WS_seq : WS (sSeq fs gs τ M) C ↔ WS (fs τ M) { C with nx := fun τ M => WS (gs τ M) C } := by
  unfold sSeq
  cases e : fs τ M with
  | go fl τ' M' => cases fl <;> exact Iff.rfl
  | ex => exact Iff.rfl
  | bad => exact Iff.rfl
theorem WS_nil : WS (sNil τ M) C ↔ C.nx τ M := Iff.rfl
theorem WS_brk : WS (sBrk τ M) C ↔ C.bk τ M := Iff.rfl
theorem WS_ret : WS (sRet f τ M) C ↔ W (f τ M) C.rt := by unfold sRet; rw [WS_liftE]; exact Iff.rfl
theorem WS_exp : WS (sExp f τ M) C ↔ W (f τ M) (fun _ M => C.nx τ M) := by unfold sExp; rw [WS_liftE]; exact Iff.rfl
theorem WS_if {c : Ev Bool} : WS (sIf c fs gs τ M) C ↔ W (c τ M) (fun b M => if b = true then WS (fs τ M) C else WS (gs τ M) C) := by
  unfold sIf; rw [WS_liftE]
  constructor <;> intro h <;> refine W_mono h fun b M h => ?_ <;> cases b <;> exact h
theorem WS_set {t : Tg} : WS (sSet t f τ M) C ↔ W (f τ M) (fun d M => ∃ τ', t.put d τ = some τ' ∧ C.nx τ' M) := by
  unfold sSet; rw [WS_liftE]
  have key : ∀ d M, WS (sPut t d τ M) C ↔ ∃ τ', t.put d τ = some τ' ∧ C.nx τ' M := fun d M => by
    unfold sPut
    cases e : t.put d τ with
    | none => exact ⟨fun h => h.elim, fun ⟨_, e, _⟩ => by cases e⟩
    | some τ' => exact ⟨fun h => ⟨τ', rfl, h⟩, fun ⟨_, e, h⟩ => by cases e; exact h⟩
  constructor <;> intro h <;> refine W_mono h fun d M h => ?_
  · exact (key d M).mp h
  · exact (key d M).mpr h
theorem WS_setN {i : Nat} : WS (sSet (.nm i) f τ M) C ↔ W (f τ M) (fun d M => C.nx (τ.set i (some d)) M) := by
  rw [WS_set]
  constructor <;> intro h <;> refine W_mono h fun d M h => ?_
  · obtain ⟨τ', e, h⟩ := h; cases e; exact h
  · exact ⟨_, rfl, h⟩
theorem WS_sub {fo fi : FE} : WS (sSub fo fi f τ M) C ↔ W (f τ M) (fun d M => W (fo τ M) fun o M => W (fi τ M) fun i M => W (dSet o i d M) fun _ M => C.nx τ M) := by
  unfold sSub
  simp only [WS_liftE, WS_liftR]; exact Iff.rfl
theorem WS_aug {i : Nat} {op : D → D → Sto → Res D} {x : D} (h : τ[i]? = some (some x)) : WS (sAug i op f τ M) C ↔ W (f τ M) (fun y M => W (op x y M) fun z M => C.nx (τ.set i (some z)) M) := by
  unfold sAug
  simp only [h, WS_liftE, WS_liftR]; exact Iff.rfl
/-! expressions -/
theorem W_var {i : Nat} {Q : D → Sto → Prop} {d : D} (h : τ[i]? = some (some d)) : W (eVar i τ M) Q ↔ Q d M := by unfold eVar; rw [h]; exact Iff.rfl
theorem W_con {d : D} {Q : D → Sto → Prop} : W (eCon d τ M) Q ↔ Q d M := Iff.rfl
theorem W_op {op : D → D → Sto → Res D} {Q : D → Sto → Prop} : W (eOp op f g τ M) Q ↔ W (f τ M) fun a M => W (g τ M) fun b M => W (op a b M) Q := by unfold eOp; simp only [W_bind]
theorem W_un {op : D → Sto → Res D} {Q : D → Sto → Prop} : W (eUn op f τ M) Q ↔ W (f τ M) fun a M => W (op a M) Q := by unfold eUn; simp only [W_bind]
theorem W_tb {Q : Bool → Sto → Prop} : W (eTB f τ M) Q ↔ W (f τ M) fun d M => ∃ b, d = .bl b ∧ Q b M := by
  unfold eTB; rw [W_bind]
  constructor <;> intro h <;> refine W_mono h fun d M h => ?_
  · cases d with
    | bl b => exact ⟨b, rfl, h⟩
    | _ => exact h.elim
  · obtain ⟨b, rfl, h⟩ := h; exact h
theorem W_tst {Q : Bool → Sto → Prop} : W (eTst f τ M) Q ↔ W (f τ M) fun d M => ∃ b, truD d M = some b ∧ Q b M := by
  unfold eTst; rw [W_bind]
  constructor <;> intro h <;> refine W_mono h fun d M h => ?_
  · cases e : truD d M with
    | none => rw [e] at h; exact h.elim
    | some b => rw [e] at h; exact ⟨b, rfl, h⟩
  · obtain ⟨b, e, h⟩ := h; rw [e]; exact h
theorem W_andT {Q : Bool → Sto → Prop} : W (eAndT fb gb τ M) Q ↔ W (fb τ M) fun b M => if b = true then W (gb τ M) Q else Q false M := by
  unfold eAndT; rw [W_bind]
  constructor <;> intro h <;> refine W_mono h fun b M h => ?_ <;> cases b <;> exact h
theorem W_orT {Q : Bool → Sto → Prop} : W (eOrT fb gb τ M) Q ↔ W (fb τ M) fun b M => if b = true then Q true M else W (gb τ M) Q := by
  unfold eOrT; rw [W_bind]
  constructor <;> intro h <;> refine W_mono h fun b M h => ?_ <;> cases b <;> exact h
theorem W_notT {Q : Bool → Sto → Prop} : W (eNotT fb τ M) Q ↔ W (fb τ M) fun b M => Q (!b) M := by unfold eNotT; rw [W_bind]; exact Iff.rfl
theorem W_blT {Q : D → Sto → Prop} : W (eBl fb τ M) Q ↔ W (fb τ M) fun b M => Q (.bl b) M := by unfold eBl; rw [W_bind]; exact Iff.rfl
theorem W_if {Q : D → Sto → Prop} : W (eIf fb f g τ M) Q ↔ W (fb τ M) fun b M => if b = true then W (f τ M) Q else W (g τ M) Q := by
  unfold eIf; rw [W_bind]
  constructor <;> intro h <;> refine W_mono h fun b M h => ?_ <;> cases b <;> exact h
theorem W_and {Q : D → Sto → Prop} : W (eAnd f g τ M) Q ↔ W (f τ M) fun d M => ∃ b, d = .bl b ∧ (if b = true then W (g τ M) Q else Q (.bl false) M) := by
  unfold eAnd; rw [W_bind]
  constructor <;> intro h <;> refine W_mono h fun d M h => ?_
  · cases d with
    | bl b => exact ⟨b, rfl, by cases b <;> exact h⟩
    | _ => exact h.elim
  · obtain ⟨b, rfl, h⟩ := h; cases b <;> exact h
theorem W_or {Q : D → Sto → Prop} : W (eOr f g τ M) Q ↔ W (f τ M) fun d M => ∃ b, d = .bl b ∧ (if b = true then Q (.bl true) M else W (g τ M) Q) := by
  unfold eOr; rw [W_bind]
  constructor <;> intro h <;> refine W_mono h fun d M h => ?_
  · cases d with
    | bl b => exact ⟨b, rfl, by cases b <;> exact h⟩
    | _ => exact h.elim
  · obtain ⟨b, rfl, h⟩ := h; cases b <;> exact h
theorem W_not {Q : D → Sto → Prop} : W (eNot f τ M) Q ↔ W (f τ M) fun d M => ∃ b, d = .bl b ∧ Q (.bl !b) M := by
  unfold eNot; rw [W_bind]
  constructor <;> intro h <;> refine W_mono h fun d M h => ?_
  · cases d with
    | bl b => exact ⟨b, rfl, h⟩
    | _ => exact h.elim
  · obtain ⟨b, rfl, h⟩ := h; exact h
theorem W_nil {Q : List D → Sto → Prop} : W (aNil τ M) Q ↔ Q [] M := Iff.rfl
theorem W_cons {ga : Ev (List D)} {Q : List D → Sto → Prop} : W (aCons f ga τ M) Q ↔ W (f τ M) fun d M => W (ga τ M) fun ds M => Q (d :: ds) M := by unfold aCons; simp only [W_bind]; exact Iff.rfl
theorem W_tup {ga : Ev (List D)} {Q : D → Sto → Prop} : W (eTup ga τ M) Q ↔ W (ga τ M) fun ds M => ds.length ≤ 16777216 ∧ Q (.tup ds) M := by
  unfold eTup; rw [W_bind]
  constructor <;> intro h <;> refine W_mono h fun d M h => ?_
  · by_cases hl : d.length ≤ 16777216
    · rw [if_pos hl] at h; exact ⟨hl, h⟩
    · rw [if_neg hl] at h; exact h.elim
  · rw [if_pos h.1]; exact h.2
theorem W_lst {ga : Ev (List D)} {Q : D → Sto → Prop} : W (eLst ga τ M) Q ↔ W (ga τ M) fun ds M => ds.length ≤ 16777216 ∧ Q (.adr M.length) (M ++ [.lst ds]) := by
  unfold eLst; rw [W_bind]
  constructor <;> intro h <;> refine W_mono h fun d M h => ?_
  · by_cases hl : d.length ≤ 16777216
    · rw [if_pos hl] at h; exact ⟨hl, h⟩
    · rw [if_neg hl] at h; exact h.elim
  · rw [if_pos h.1]; exact h.2
theorem W_call {fo : List D → Sto → Res D} {ga : Ev (List D)} {Q : D → Sto → Prop} : W (eCall fo ga τ M) Q ↔ W (ga τ M) fun ds M => W (fo ds M) Q := by unfold eCall; rw [W_bind]
theorem W_mt {fo : D → List D → Sto → Res D} {ga : Ev (List D)} {Q : D → Sto → Prop} : W (eMt fo f ga τ M) Q ↔ W (f τ M) fun d M => W (ga τ M) fun ds M => W (fo d ds M) Q := by unfold eMt; simp only [W_bind]
theorem W_oN {Q : Option Int → Sto → Prop} : W (oNone τ M) Q ↔ Q none M := Iff.rfl
theorem W_oS {Q : Option Int → Sto → Prop} : W (oSome f τ M) Q ↔ W (f τ M) fun d M => ∃ i, d = .int i ∧ Q (some i) M := by
  unfold oSome; rw [W_bind]
  constructor <;> intro h <;> refine W_mono h fun d M h => ?_
  · cases d with
    | int i => exact ⟨i, rfl, h⟩
    | _ => exact h.elim
  · obtain ⟨i, rfl, h⟩ := h; exact h
theorem W_sl {lo hi : Ev (Option Int)} {Q : D → Sto → Prop} : W (eSl f lo hi τ M) Q ↔ W (f τ M) fun d M => W (lo τ M) fun l M => W (hi τ M) fun h M => W (dSl d l h M) Q := by unfold eSl; simp only [W_bind]
theorem W_yes {Q : Bool → Sto → Prop} : W (yes τ M) Q ↔ Q true M := Iff.rfl
theorem W_lenF {n : Nat} {F : FD} {ds : List D} {Q : D → Sto → Prop} (h : ds.length = n) : W (lenF n F ds M) Q ↔ W (F ds M) Q := by unfold lenF; rw [if_pos h]
@[simp] theorem startD_eq {n : Nat} {ds : List D} : startD n ds = ds.map some ++ List.replicate (n - ds.length) none := rfl
/-! defs -/
theorem W_endD {r : SR} {Q : D → Sto → Prop} (h : WS r ⟨fun _ M => Q .non M, fun _ _ => False, Q⟩) : W (endD r) Q := by
  cases r with
  | go fl τ M => cases fl <;> first | exact h | exact h.elim
  | ex => exact h
  | bad => exact h
theorem W_fin {n : Nat} {r : Res D} {Q : D → Sto → Prop} (h : W r fun d M => Q d M ∧ (D.low n d = true → Q d (M.take n))) : W (fin n r) Q := by
  cases r with
  | ok d M =>
    unfold fin
    dsimp only
    split
    · next hc => simp only [Bool.and_eq_true] at hc; exact h.2 hc.1
    · exact h.1
  | exn => exact h.elim
  | bad => exact h.elim
/-- a def that only reads -/
theorem W_def {n : Nat} {fs : FS} {ds : List D} {P : D → Prop} (h : WS (fs (startD n ds) M) ⟨fun _ M' => P .non ∧ Le M M', fun _ _ => False, fun d M' => P d ∧ Le M M'⟩) : W (mdef n fs ds M) fun d M' => P d ∧ Le M M' :=
  W_fin (W_mono (W_endD h) fun d M' h => ⟨h, fun _ => ⟨h.1, h.2.take⟩⟩)
/-- a def that only reads, of any answer -/
theorem W_defX {n : Nat} {fs : FS} {ds : List D} {P : D → Sto → Prop} (hl : ∀ d M', D.low M.length d = true → P d M' → P d (M'.take M.length)) (h : WS (fs (startD n ds) M) ⟨fun _ M' => P .non M' ∧ Le M M', fun _ _ => False, fun d M' => P d M' ∧ Le M M'⟩) : W (mdef n fs ds M) fun d M' => P d M' ∧ Le M M' :=
  W_fin (W_mono (W_endD (Q := fun d M' => P d M' ∧ Le M M') h) fun d M' h => ⟨h, fun l => ⟨hl _ _ l h.1, h.2.take⟩⟩)
/-- a def that makes a list -/
theorem W_defL {n : Nat} {fs : FS} {ds : List D} {P : D → Sto → Prop} (h : WS (fs (startD n ds) M) ⟨fun _ _ => False, fun _ _ => False, fun d M' => D.low M.length d = false ∧ P d M' ∧ Le M M'⟩) : W (mdef n fs ds M) fun d M' => D.low M.length d = false ∧ P d M' ∧ Le M M' :=
  W_fin (W_mono (W_endD (Q := fun d M' => D.low M.length d = false ∧ P d M' ∧ Le M M') (by
    generalize fs (startD n ds) M = r at h
    cases r with
    | go fl τ M => cases fl <;> first | exact h | exact h.elim
    | ex => exact h
    | bad => exact h)) fun d M' h => ⟨h, fun z => by rw [h.1] at z; cases z⟩)
/-- a def that changes the object at t alone -/
theorem W_defT {n t : Nat} {fs : FS} {ds : List D} {P : D → Prop} {I : MO → Prop} (ht : t < M.length) (h : WS (fs (startD n ds) M) ⟨fun _ M' => P .non ∧ Gr t M M' ∧ (∃ o, M'[t]? = some o ∧ I o), fun _ _ => False, fun d M' => P d ∧ Gr t M M' ∧ (∃ o, M'[t]? = some o ∧ I o)⟩) :
    W (mdef n fs ds M) fun d M' => P d ∧ Gr t M M' ∧ (∃ o, M'[t]? = some o ∧ I o) :=
  W_fin (W_mono (W_endD h) fun d M' h => ⟨h, fun _ => ⟨h.1, h.2.1.take, by
    obtain ⟨o, e, i⟩ := h.2.2
    exact ⟨o, by rw [List.getElem?_take]; simp [ht, e], i⟩⟩⟩)
end
/-! ### walks -/
structure Wo (R : Sto → Prop) (w : Wk) (xs : List D) : Prop where
  n : w.n = xs.length
  it : ∀ M, R M → ∀ i (h : i < xs.length), w.it i M = some xs[i]
  fin : ∀ M, R M → w.fin M = true
section
variable {τ : Mp.Env} {M : Sto} {f g : FE} {C : Cs} {xs : List D} {R : Sto → Prop} {w : Wk} {t : Tg}
theorem seq_adr {n : Nat} : seqOf (.adr n) M = (match M[n]? with
    | some (.lst xs) => some xs
    | some (.frz xs) => some xs
    | _ => none) := rfl
theorem seq_le {d : D} {M' : Sto} (h : Le M M') (e : seqOf d M = some xs) : seqOf d M' = some xs := by
  cases d with
  | tup ds => exact e
  | adr n =>
    rw [seq_adr] at e ⊢
    cases q : M[n]? with
    | none => rw [q] at e; cases e
    | some o => rw [q] at e; rw [h.get q]; exact e
  | _ => cases e
theorem seq_gr {t : Nat} {d : D} {M' : Sto} (h : Gr t M M') (ne : d ≠ .adr t) (e : seqOf d M = some xs) : seqOf d M' = some xs := by
  cases d with
  | tup ds => exact e
  | adr n =>
    rw [seq_adr] at e ⊢
    cases q : M[n]? with
    | none => rw [q] at e; cases e
    | some o => rw [q] at e; rw [h.2 n (lt_of_get q) (by rintro rfl; exact ne rfl), q]; exact e
  | _ => cases e
theorem wo_tup : Wo R (wTup xs) xs := ⟨rfl, fun _ _ i h => by simp [wTup, h], fun _ _ => rfl⟩
theorem wo_lst {a : Nat} (h : ∀ M, R M → seqOf (.adr a) M = some xs) : Wo R (wLst a xs.length) xs := ⟨rfl, fun M r i hi => by simp [wLst, lstOf, h M r, hi], fun M r => by simp [wLst, lstOf, h M r]⟩
/-- over a value -/
theorem W_iVal {Q : Wk → Sto → Prop} : (W (f τ M) fun d M1 => ∃ xs, seqOf d M1 = some xs ∧ ∀ w, (∀ R : Sto → Prop, (∀ M', R M' → seqOf d M' = some xs) → Wo R w xs) → Q w M1) → W (iVal f τ M) Q := by
  intro h
  unfold iVal; rw [W_bind]
  refine W_mono h fun d M1 ⟨xs, e, q⟩ => ?_
  cases d with
  | tup ds => cases e; exact q _ fun R _ => wo_tup
  | adr a =>
    have e2 : lstOf (.adr a) M1 = some xs := e
    show W (match lstOf (.adr a) M1 with | some xs => Res.ok (wLst a xs.length) M1 | none => .bad) Q
    rw [e2]
    exact q _ fun R hR => wo_lst hR
  | _ => cases e
theorem W_iR1 {Q : Wk → Sto → Prop} : (W (f τ M) fun d M1 => ∃ n : Nat, d = .int n ∧ n < 2 ^ 62 ∧ ∀ w, (∀ R : Sto → Prop, Wo R w ((List.range n).map fun i : Nat => D.int i)) → Q w M1) → W (iR1 f τ M) Q := by
  intro h
  unfold iR1; rw [W_bind]
  refine W_mono h fun d M1 ⟨n, e, hn, q⟩ => ?_
  subst e
  show W (if -(2 ^ 62) ≤ (n : Int) ∧ (n : Int) < 2 ^ 62 then Res.ok (wRng 0 (n : Int).toNat) M1 else .bad) Q
  rw [if_pos (by omega)]
  exact q _ fun R => ⟨by simp [wRng], fun M r i hi => by simp at hi; simp [wRng], fun M r => rfl⟩
theorem W_iZip {Q : Wk → Sto → Prop} : (W (f τ M) fun d M1 => W (g τ M1) fun e M2 => ∃ xs ys, seqOf d M2 = some xs ∧ seqOf e M2 = some ys ∧ ∀ w, (∀ R : Sto → Prop, (∀ M', R M' → seqOf d M' = some xs ∧ seqOf e M' = some ys) → Wo R w (List.zipWith (fun x y => D.tup [x, y]) xs ys)) → Q w M2) → W (Mp.iZip f g τ M) Q := by
  intro h
  unfold Mp.iZip; simp only [W_bind]
  refine W_mono h fun d M1 h => W_mono h fun e M2 ⟨xs, ys, e1, e2, q⟩ => ?_
  have key : ∀ {d : D} {xs : List D}, seqOf d M2 = some xs → ∃ s, sdOf d M2 = some (s, xs.length) ∧ ∀ M', seqOf d M' = some xs → s.cur M' = some xs := by
    intro d xs e
    cases d with
    | tup ds => cases e; exact ⟨_, rfl, fun _ _ => rfl⟩
    | adr a =>
      have e3 : lstOf (.adr a) M2 = some xs := e
      exact ⟨.lst a, by simp [sdOf, e3], fun M' h => h⟩
    | _ => cases e
  obtain ⟨s1, k1, c1⟩ := key e1
  obtain ⟨s2, k2, c2⟩ := key e2
  unfold zip2
  rw [k1, k2]
  refine q _ fun R hR => ⟨by simp [wZip], fun M r i hi => ?_, fun M r => ?_⟩
  · obtain ⟨h1, h2⟩ := hR M r
    rw [List.length_zipWith] at hi
    have a1 : i < xs.length := by omega
    have a2 : i < ys.length := by omega
    simp [wZip, c1 M h1, c2 M h2, a1, a2]
  · obtain ⟨h1, h2⟩ := hR M r
    simp only [wZip, c1 M h1, c2 M h2]
    simp; omega
/-! ### loops -/
theorem loop_aux {body : FS} {Iv : Nat → Mp.Env → Sto → Prop} (hw : Wo R w xs) (hR : ∀ i τ M, Iv i τ M → R M)
    (step : ∀ i (h : i < xs.length) τ M, Iv i τ M → ∃ τ1, t.put xs[i] τ = some τ1 ∧ WS (body τ1 M) { C with nx := Iv (i + 1), bk := C.nx })
    (done : ∀ τ M, Iv xs.length τ M → C.nx τ M) : ∀ k i τ M, i + k = xs.length → Iv i τ M → WS (loopG w t body k i τ M) C
  | 0, i, τ, M, e, h => by
    have : i = xs.length := by omega
    subst this
    unfold loopG
    rw [if_pos (hw.fin M (hR _ _ _ h))]
    exact done τ M h
  | k + 1, i, τ, M, e, h => by
    have hi : i < xs.length := by omega
    obtain ⟨τ1, e1, q⟩ := step i hi τ M h
    unfold loopG
    rw [hw.it M (hR _ _ _ h) i hi]
    dsimp only
    rw [e1]
    dsimp only
    generalize body τ1 M = r at q
    cases r with
    | go fl τ' M' =>
      cases fl with
      | nx => exact loop_aux hw hR step done k (i + 1) τ' M' (by omega) q
      | bk => exact q
      | ct => exact q.elim
      | rt d => exact q
    | ex => exact q
    | bad => exact q
/-- for -/
theorem WS_for {wi : Ev Wk} {body : FS} : (W (wi τ M) fun w M1 => ∃ (xs : List D) (R : Sto → Prop) (Iv : Nat → Mp.Env → Sto → Prop), Wo R w xs ∧ (∀ i τ M, Iv i τ M → R M) ∧ Iv 0 τ M1 ∧
    (∀ i (h : i < xs.length) τ M, Iv i τ M → ∃ τ1, t.put xs[i] τ = some τ1 ∧ WS (body τ1 M) { C with nx := Iv (i + 1), bk := C.nx }) ∧ (∀ τ M, Iv xs.length τ M → C.nx τ M)) → WS (sFor wi t body τ M) C := by
  intro h
  unfold sFor; rw [WS_liftE]
  refine W_mono h fun w M1 ⟨xs, R, Iv, hw, hR, h0, step, done⟩ => ?_
  exact loop_aux hw hR step done w.n 0 τ M1 (by rw [hw.n]; omega) h0
/-- while, by a measure -/
theorem WS_while {c : Ev Bool} {body : FS} (Iv : Nat → Mp.Env → Sto → Prop) (step : ∀ m τ M, Iv m τ M → W (c τ M) fun b M1 => if b = true then WS (body τ M1) { C with nx := fun τ' M' => ∃ m', m' < m ∧ Iv m' τ' M', bk := C.nx } else C.nx τ M1) :
    ∀ (n m : Nat) (τ : Mp.Env) (M : Sto), m < n → Iv m τ M → WS (sWhile n c body τ M) C
  | 0, m, τ, M, hn, h => by omega
  | n + 1, m, τ, M, hn, h => by
    unfold sWhile loopW
    rw [WS_liftR]
    refine W_mono (step m τ M h) fun b M1 q => ?_
    cases b with
    | true =>
      rw [if_pos rfl] at q ⊢
      generalize body τ M1 = r at q
      cases r with
      | go fl τ' M' =>
        cases fl with
        | nx =>
          obtain ⟨m', hm, hI⟩ := q
          exact WS_while Iv step n m' τ' M' (by omega) hI
        | bk => exact q
        | ct => exact q.elim
        | rt d => exact q
      | ex => exact q
      | bad => exact q
    | false =>
      rw [if_neg (by decide)] at q ⊢
      exact q
/-! ### comprehensions -/
theorem push_ok {n : Nat} {y : D} {acc : List D} {k : Sto → Res D} {Q : D → Sto → Prop} (h : M[n]? = some (.lst acc)) (hl : acc.length < 16777216) : W (pushAt n y M k) Q ↔ W (k (M.set n (.lst (acc ++ [y])))) Q := by
  unfold pushAt; rw [h]; simp only; rw [if_pos hl]
theorem lc_aux {te : FE} {n : Nat} {τ0 : Mp.Env} {Iv : Nat → List D → Sto → Prop} {Q : D → Sto → Prop} (hw : Wo R w xs) (hl : xs.length ≤ 16777216) (hR : ∀ i ys M, Iv i ys M → R M)
    (step : ∀ i (h : i < xs.length) ys M, ys.length = i → M[n]? = some (.lst ys) → Iv i ys M → ∃ τ1, t.put xs[i] τ0 = some τ1 ∧ W (te τ1 M) fun y M2 => M2[n]? = some (.lst ys) ∧ Iv (i + 1) (ys ++ [y]) (M2.set n (.lst (ys ++ [y]))))
    (done : ∀ ys M, ys.length = xs.length → M[n]? = some (.lst ys) → Iv xs.length ys M → Q (.adr n) M) : ∀ k i ys M, i + k = xs.length → ys.length = i → M[n]? = some (.lst ys) → Iv i ys M → W (lcLoop n w t τ0 yes te k i M) Q
  | 0, i, ys, M, e, l, hn, h => by
    have : i = xs.length := by omega
    subst this
    unfold lcLoop
    rw [if_pos (hw.fin M (hR _ _ _ h))]
    exact done ys M l hn h
  | k + 1, i, ys, M, e, l, hn, h => by
    have hi : i < xs.length := by omega
    obtain ⟨τ1, e1, q⟩ := step i hi ys M l hn h
    unfold lcLoop
    rw [hw.it M (hR _ _ _ h) i hi]
    dsimp only
    rw [e1]
    dsimp only
    rw [W_inB]
    show W (if true = true then inB (te τ1 M) fun y M2 => pushAt n y M2 (lcLoop n w t τ0 yes te k (i + 1)) else _) Q
    rw [if_pos rfl, W_inB]
    refine W_mono q fun y M2 ⟨h1, h2⟩ => ?_
    rw [push_ok h1 (by omega)]
    exact lc_aux hw hl hR step done k (i + 1) (ys ++ [y]) _ (by omega) (by simp [l]) (by
      rw [List.getElem?_set]; simp [lt_of_get h1]) h2
theorem W_lc {wi : Ev Wk} {te : FE} {vs : List Nat} {Q : D → Sto → Prop} (ht : t.inn vs = true) : (W (wi τ M) fun w M1 => ∃ (xs : List D) (R : Sto → Prop) (Iv : Nat → List D → Sto → Prop), Wo R w xs ∧ xs.length ≤ 16777216 ∧ (∀ i ys M, Iv i ys M → R M) ∧ Iv 0 [] (M1 ++ [.lst []]) ∧
    (∀ i (h : i < xs.length) ys M, ys.length = i → M[M1.length]? = some (.lst ys) → Iv i ys M → ∃ τ1, t.put xs[i] (wipeE τ vs) = some τ1 ∧ W (te τ1 M) fun y M2 => M2[M1.length]? = some (.lst ys) ∧ Iv (i + 1) (ys ++ [y]) (M2.set M1.length (.lst (ys ++ [y])))) ∧
    (∀ ys M, ys.length = xs.length → M[M1.length]? = some (.lst ys) → Iv xs.length ys M → Q (.adr M1.length) M)) → W (eLc wi t yes te vs τ M) Q := by
  intro h
  unfold eLc; rw [W_bind]
  refine W_mono h fun w M1 ⟨xs, R, Iv, hw, hl, hR, h0, step, done⟩ => ?_
  rw [if_pos ht]
  exact lc_aux hw hl hR step done w.n 0 [] _ (by rw [hw.n]; omega) rfl (by simp) h0
/-- of what only reads, data -/
theorem W_lcR {wi : Ev Wk} {te : FE} {vs : List Nat} {Q : D → Sto → Prop} (ht : t.inn vs = true) : (W (wi τ M) fun w M1 => ∃ (xs : List D) (g : Nat → D), Wo (Le M1) w xs ∧ xs.length ≤ 16777216 ∧
    (∀ i (h : i < xs.length) M, Le M1 M → ∃ τ1, t.put xs[i] (wipeE τ vs) = some τ1 ∧ W (te τ1 M) fun y M2 => y = g i ∧ Le M M2) ∧
    (∀ M, Le M1 M → M[M1.length]? = some (.lst ((List.range xs.length).map g)) → Q (.adr M1.length) M)) → W (eLc wi t yes te vs τ M) Q := by
  intro h
  refine W_lc ht (W_mono h fun w M1 ⟨xs, g, hw, hl, step, done⟩ => ⟨xs, Le M1, fun i ys M => ys = (List.range i).map g ∧ Le M1 M, hw, hl, fun _ _ _ h => h.2, ⟨rfl, Le.app⟩, fun i hi ys M l hn ⟨e, le⟩ => ?_, fun ys M l hn ⟨e, le⟩ => done M le (by rw [hn, e])⟩)
  obtain ⟨τ1, e1, q⟩ := step i hi M le
  refine ⟨τ1, e1, W_mono q fun y M2 ⟨ey, l2⟩ => ⟨l2.get hn, ?_, (le.trans l2).set (Nat.le_refl _)⟩⟩
  rw [e, ey, List.range_succ, List.map_append]; rfl
/-- all of a generator that only reads -/
theorem gen_aux {te : FE} {τ0 : Mp.Env} {p : Nat → Bool} {M0 : Sto} (hw : Wo (Le M0) w xs) (step : ∀ i (h : i < xs.length) M, Le M0 M → ∃ τ1, t.put xs[i] τ0 = some τ1 ∧ W (te τ1 M) fun y M2 => y = .bl (p i) ∧ Le M M2) :
    ∀ k i M, i + k = xs.length → Le M0 M → W (genLoop true w t τ0 yes te k i M) fun d M' => d = .bl ((List.range' i k).all p) ∧ Le M0 M'
  | 0, i, M, e, h => by
    unfold genLoop
    rw [if_pos (hw.fin M h)]
    exact ⟨rfl, h⟩
  | k + 1, i, M, e, h => by
    have hi : i < xs.length := by omega
    obtain ⟨τ1, e1, q⟩ := step i hi M h
    unfold genLoop
    rw [hw.it M h i hi]
    dsimp only
    rw [e1]
    dsimp only
    rw [W_inB]
    show W (if true = true then inB (te τ1 M) _ else _) _
    rw [if_pos rfl, W_inB]
    refine W_mono q fun y M2 ⟨h1, h2⟩ => ?_
    subst h1
    dsimp only
    cases hp : p i with
    | true =>
      rw [if_pos rfl]
      refine W_mono (gen_aux hw step k (i + 1) M2 (by omega) (h.trans h2)) fun d M3 ⟨h3, h4⟩ => ⟨?_, h4⟩
      rw [h3, List.range'_succ, List.all_cons, hp, Bool.true_and]
    | false =>
      rw [if_neg (by decide)]
      exact ⟨by rw [List.range'_succ, List.all_cons, hp]; rfl, h.trans h2⟩
theorem W_genR {wi : Ev Wk} {te : FE} {vs : List Nat} {Q : D → Sto → Prop} (ht : t.inn vs = true) : (W (wi τ M) fun w M1 => ∃ (xs : List D) (p : Nat → Bool), Wo (Le M1) w xs ∧
    (∀ i (h : i < xs.length) M, Le M1 M → ∃ τ1, t.put xs[i] (wipeE τ vs) = some τ1 ∧ W (te τ1 M) fun y M2 => y = .bl (p i) ∧ Le M M2) ∧
    (∀ M, Le M1 M → Q (.bl ((List.range xs.length).all p)) M)) → W (eGen true wi t yes te vs τ M) Q := by
  intro h
  unfold eGen; rw [W_bind]
  refine W_mono h fun w M1 ⟨xs, p, hw, step, done⟩ => ?_
  rw [if_pos ht]
  refine W_mono (gen_aux hw step w.n 0 M1 (by rw [hw.n]; omega) Le.rfl) fun d M2 ⟨h1, h2⟩ => ?_
  rw [h1, hw.n, ← List.range_eq_range']
  exact done M2 h2
/-- a tuple of a generator that only reads -/
theorem genT_aux {te : FE} {τ0 : Mp.Env} {g : Nat → D} {M0 : Sto} (hw : Wo (Le M0) w xs) (step : ∀ i (h : i < xs.length) M, Le M0 M → ∃ τ1, t.put xs[i] τ0 = some τ1 ∧ W (te τ1 M) fun y M2 => y = g i ∧ Le M M2) :
    ∀ k i acc M, i + k = xs.length → Le M0 M → W (genTup w t τ0 yes te k i acc M) fun d M' => d = .tup (acc ++ (List.range' i k).map g) ∧ Le M0 M'
  | 0, i, acc, M, e, h => by
    unfold genTup
    rw [if_pos (hw.fin M h)]
    exact ⟨by simp, h⟩
  | k + 1, i, acc, M, e, h => by
    have hi : i < xs.length := by omega
    obtain ⟨τ1, e1, q⟩ := step i hi M h
    unfold genTup
    rw [hw.it M h i hi]
    dsimp only
    rw [e1]
    dsimp only
    rw [W_inB]
    show W (if true = true then inB (te τ1 M) _ else _) _
    rw [if_pos rfl, W_inB]
    refine W_mono q fun y M2 ⟨h1, h2⟩ => ?_
    subst h1
    refine W_mono (genT_aux hw step k (i + 1) _ M2 (by omega) (h.trans h2)) fun d M3 ⟨h3, h4⟩ => ⟨?_, h4⟩
    rw [h3, List.range'_succ, List.map_cons, List.append_assoc]; rfl
theorem W_genT {wi : Ev Wk} {te : FE} {vs : List Nat} {Q : D → Sto → Prop} (ht : t.inn vs = true) : (W (wi τ M) fun w M1 => ∃ (xs : List D) (g : Nat → D), Wo (Le M1) w xs ∧ xs.length < 16777216 ∧
    (∀ i (h : i < xs.length) M, Le M1 M → ∃ τ1, t.put xs[i] (wipeE τ vs) = some τ1 ∧ W (te τ1 M) fun y M2 => y = g i ∧ Le M M2) ∧
    (∀ M, Le M1 M → Q (.tup ((List.range xs.length).map g)) M)) → W (eGenT wi t yes te vs τ M) Q := by
  intro h
  unfold eGenT; rw [W_bind]
  refine W_mono h fun w M1 ⟨xs, g, hw, hl, step, done⟩ => ?_
  rw [if_pos ⟨ht, by rw [hw.n]; exact hl⟩]
  refine W_mono (genT_aux hw step w.n 0 [] M1 (by rw [hw.n]; omega) Le.rfl) fun d M2 ⟨h1, h2⟩ => ?_
  rw [h1, hw.n, ← List.range_eq_range', List.nil_append]
  exact done M2 h2
end

section
theorem W_defLT {n : Nat} {fs : FS} {ds : List D} {M : Sto} {P : D → Sto → Prop} (h : WS (fs (startD n ds) M) ⟨fun _ _ => False, fun _ _ => False, fun d M' => D.low M.length d = false ∧ P d M'⟩) : W (mdef n fs ds M) P :=
  W_fin (W_mono (W_endD (Q := fun d M' => D.low M.length d = false ∧ P d M') (by
    generalize fs (startD n ds) M = r at h
    cases r with
    | go fl τ M => cases fl <;> first | exact h | exact h.elim
    | ex => exact h
    | bad => exact h)) fun d M' h => ⟨h.2, fun z => by rw [h.1] at z; cases z⟩)
theorem WS_weak {C C' : Cs} {r : SR} (hn : ∀ τ M, C.nx τ M → C'.nx τ M) (hb : ∀ τ M, C.bk τ M → C'.bk τ M) (hr : ∀ d M, C.rt d M → C'.rt d M) (h : WS r C) : WS r C' := by
  cases r with
  | go fl τ' M' =>
    cases fl with
    | nx => exact hn _ _ h
    | bk => exact hb _ _ h
    | ct => exact h.elim
    | rt d => exact hr _ _ h
  | ex => exact h
  | bad => exact h
end
end Kq

set_option Elab.async false
set_option linter.all false
set_option maxRecDepth 100000
set_option maxHeartbeats 2000000
/-! Kp2: the rules once more, over words that are not opened by themselves -/
namespace Kp
open PySem PySem.Spec PyProof.Rows L2 Mp
open Kq (Le Gr Wo Cs lt_of_get)
@[irreducible] def W {α : Type} (r : Res α) (Q : α → Sto → Prop) : Prop := Kq.W r Q
@[irreducible] def WS (r : SR) (C : Cs) : Prop := Kq.WS r C
theorem W_q {α : Type} {r : Res α} {Q : α → Sto → Prop} : W r Q = Kq.W r Q := by unfold W; rfl
theorem WS_q {r : SR} {C : Cs} : WS r C = Kq.WS r C := by unfold WS; rfl
section
variable {α β : Type} {r : Res α} {Q Q' : α → Sto → Prop} {C : Cs} {τ : Mp.Env} {M : Sto} {f g : FE} {fb gb : Ev Bool} {fs gs : FS}
@[simp] theorem W_ok {a : α} : W (.ok a M) Q ↔ Q a M := by
  simp only [W_q, WS_q] at *
  exact Kq.W_ok
theorem W_mono (h : W r Q) (i : ∀ a M, Q a M → Q' a M) : W r Q' := by
  simp only [W_q, WS_q] at *
  exact Kq.W_mono h i
theorem W_iff : W r Q ↔ ∃ a M, r = .ok a M ∧ Q a M := by
  simp only [W_q, WS_q] at *
  exact Kq.W_iff
@[simp] theorem W_bind {k : α → Sto → Res β} {R : β → Sto → Prop} : W (r.bind k) R ↔ W r (fun a M => W (k a M) R) := by
  simp only [W_q, WS_q] at *
  exact Kq.W_bind
@[simp] theorem W_inB {k : α → Sto → Res β} {R : β → Sto → Prop} : W (inB r k) R ↔ W r (fun a M => W (k a M) R) := by
  simp only [W_q, WS_q] at *
  exact Kq.W_inB
@[simp] theorem WS_liftR {k : α → FS} : WS (liftR τ r k) C ↔ W r (fun a M => WS (k a τ M) C) := by
  simp only [W_q, WS_q] at *
  exact Kq.WS_liftR
@[simp] theorem WS_liftE {h : Ev α} {k : α → FS} : WS (liftE h k τ M) C ↔ W (h τ M) (fun a M => WS (k a τ M) C) := by
  simp only [W_q, WS_q] at *
  exact Kq.WS_liftE
@[simp] theorem WS_seq : WS (sSeq fs gs τ M) C ↔ WS (fs τ M) { C with nx := fun τ M => WS (gs τ M) C } := by
  simp only [W_q, WS_q] at *
  exact Kq.WS_seq
@[simp] theorem WS_nil : WS (sNil τ M) C ↔ C.nx τ M := by
  simp only [W_q, WS_q] at *
  exact Kq.WS_nil
@[simp] theorem WS_brk : WS (sBrk τ M) C ↔ C.bk τ M := by
  simp only [W_q, WS_q] at *
  exact Kq.WS_brk
@[simp] theorem WS_ret : WS (sRet f τ M) C ↔ W (f τ M) C.rt := by
  simp only [W_q, WS_q] at *
  exact Kq.WS_ret
@[simp] theorem WS_exp : WS (sExp f τ M) C ↔ W (f τ M) (fun _ M => C.nx τ M) := by
  simp only [W_q, WS_q] at *
  exact Kq.WS_exp
@[simp] theorem WS_if {c : Ev Bool} : WS (sIf c fs gs τ M) C ↔ W (c τ M) (fun b M => if b = true then WS (fs τ M) C else WS (gs τ M) C) := by
  simp only [W_q, WS_q] at *
  exact Kq.WS_if
theorem WS_set {t : Tg} : WS (sSet t f τ M) C ↔ W (f τ M) (fun d M => ∃ τ', t.put d τ = some τ' ∧ C.nx τ' M) := by
  simp only [W_q, WS_q] at *
  exact Kq.WS_set
@[simp] theorem WS_setN {i : Nat} : WS (sSet (.nm i) f τ M) C ↔ W (f τ M) (fun d M => C.nx (τ.set i (some d)) M) := by
  simp only [W_q, WS_q] at *
  exact Kq.WS_setN
@[simp] theorem WS_sub {fo fi : FE} : WS (sSub fo fi f τ M) C ↔ W (f τ M) (fun d M => W (fo τ M) fun o M => W (fi τ M) fun i M => W (dSet o i d M) fun _ M => C.nx τ M) := by
  simp only [W_q, WS_q] at *
  exact Kq.WS_sub
theorem WS_aug {i : Nat} {op : D → D → Sto → Res D} {x : D} (h : τ[i]? = some (some x)) : WS (sAug i op f τ M) C ↔ W (f τ M) (fun y M => W (op x y M) fun z M => C.nx (τ.set i (some z)) M) := by
  simp only [W_q, WS_q] at *
  exact Kq.WS_aug h
@[simp] theorem W_var {i : Nat} {Q : D → Sto → Prop} {d : D} (h : τ[i]? = some (some d)) : W (eVar i τ M) Q ↔ Q d M := by
  simp only [W_q, WS_q] at *
  exact Kq.W_var h
@[simp] theorem W_con {d : D} {Q : D → Sto → Prop} : W (eCon d τ M) Q ↔ Q d M := by
  simp only [W_q, WS_q] at *
  exact Kq.W_con
@[simp] theorem W_op {op : D → D → Sto → Res D} {Q : D → Sto → Prop} : W (eOp op f g τ M) Q ↔ W (f τ M) fun a M => W (g τ M) fun b M => W (op a b M) Q := by
  simp only [W_q, WS_q] at *
  exact Kq.W_op
@[simp] theorem W_un {op : D → Sto → Res D} {Q : D → Sto → Prop} : W (eUn op f τ M) Q ↔ W (f τ M) fun a M => W (op a M) Q := by
  simp only [W_q, WS_q] at *
  exact Kq.W_un
@[simp] theorem W_tb {Q : Bool → Sto → Prop} : W (eTB f τ M) Q ↔ W (f τ M) fun d M => ∃ b, d = .bl b ∧ Q b M := by
  simp only [W_q, WS_q] at *
  exact Kq.W_tb
@[simp] theorem W_tst {Q : Bool → Sto → Prop} : W (eTst f τ M) Q ↔ W (f τ M) fun d M => ∃ b, truD d M = some b ∧ Q b M := by
  simp only [W_q, WS_q] at *
  exact Kq.W_tst
@[simp] theorem W_andT {Q : Bool → Sto → Prop} : W (eAndT fb gb τ M) Q ↔ W (fb τ M) fun b M => if b = true then W (gb τ M) Q else Q false M := by
  simp only [W_q, WS_q] at *
  exact Kq.W_andT
@[simp] theorem W_orT {Q : Bool → Sto → Prop} : W (eOrT fb gb τ M) Q ↔ W (fb τ M) fun b M => if b = true then Q true M else W (gb τ M) Q := by
  simp only [W_q, WS_q] at *
  exact Kq.W_orT
@[simp] theorem W_notT {Q : Bool → Sto → Prop} : W (eNotT fb τ M) Q ↔ W (fb τ M) fun b M => Q (!b) M := by
  simp only [W_q, WS_q] at *
  exact Kq.W_notT
@[simp] theorem W_blT {Q : D → Sto → Prop} : W (eBl fb τ M) Q ↔ W (fb τ M) fun b M => Q (.bl b) M := by
  simp only [W_q, WS_q] at *
  exact Kq.W_blT
@[simp] theorem W_if {Q : D → Sto → Prop} : W (eIf fb f g τ M) Q ↔ W (fb τ M) fun b M => if b = true then W (f τ M) Q else W (g τ M) Q := by
  simp only [W_q, WS_q] at *
  exact Kq.W_if
@[simp] theorem W_and {Q : D → Sto → Prop} : W (eAnd f g τ M) Q ↔ W (f τ M) fun d M => ∃ b, d = .bl b ∧ (if b = true then W (g τ M) Q else Q (.bl false) M) := by
  simp only [W_q, WS_q] at *
  exact Kq.W_and
@[simp] theorem W_or {Q : D → Sto → Prop} : W (eOr f g τ M) Q ↔ W (f τ M) fun d M => ∃ b, d = .bl b ∧ (if b = true then Q (.bl true) M else W (g τ M) Q) := by
  simp only [W_q, WS_q] at *
  exact Kq.W_or
@[simp] theorem W_not {Q : D → Sto → Prop} : W (eNot f τ M) Q ↔ W (f τ M) fun d M => ∃ b, d = .bl b ∧ Q (.bl !b) M := by
  simp only [W_q, WS_q] at *
  exact Kq.W_not
@[simp] theorem W_nil {Q : List D → Sto → Prop} : W (aNil τ M) Q ↔ Q [] M := by
  simp only [W_q, WS_q] at *
  exact Kq.W_nil
@[simp] theorem W_cons {ga : Ev (List D)} {Q : List D → Sto → Prop} : W (aCons f ga τ M) Q ↔ W (f τ M) fun d M => W (ga τ M) fun ds M => Q (d :: ds) M := by
  simp only [W_q, WS_q] at *
  exact Kq.W_cons
@[simp] theorem W_tup {ga : Ev (List D)} {Q : D → Sto → Prop} : W (eTup ga τ M) Q ↔ W (ga τ M) fun ds M => ds.length ≤ 16777216 ∧ Q (.tup ds) M := by
  simp only [W_q, WS_q] at *
  exact Kq.W_tup
@[simp] theorem W_lst {ga : Ev (List D)} {Q : D → Sto → Prop} : W (eLst ga τ M) Q ↔ W (ga τ M) fun ds M => ds.length ≤ 16777216 ∧ Q (.adr M.length) (M ++ [.lst ds]) := by
  simp only [W_q, WS_q] at *
  exact Kq.W_lst
@[simp] theorem W_call {fo : List D → Sto → Res D} {ga : Ev (List D)} {Q : D → Sto → Prop} : W (eCall fo ga τ M) Q ↔ W (ga τ M) fun ds M => W (fo ds M) Q := by
  simp only [W_q, WS_q] at *
  exact Kq.W_call
@[simp] theorem W_mt {fo : D → List D → Sto → Res D} {ga : Ev (List D)} {Q : D → Sto → Prop} : W (eMt fo f ga τ M) Q ↔ W (f τ M) fun d M => W (ga τ M) fun ds M => W (fo d ds M) Q := by
  simp only [W_q, WS_q] at *
  exact Kq.W_mt
@[simp] theorem W_oN {Q : Option Int → Sto → Prop} : W (oNone τ M) Q ↔ Q none M := by
  simp only [W_q, WS_q] at *
  exact Kq.W_oN
@[simp] theorem W_oS {Q : Option Int → Sto → Prop} : W (oSome f τ M) Q ↔ W (f τ M) fun d M => ∃ i, d = .int i ∧ Q (some i) M := by
  simp only [W_q, WS_q] at *
  exact Kq.W_oS
@[simp] theorem W_sl {lo hi : Ev (Option Int)} {Q : D → Sto → Prop} : W (eSl f lo hi τ M) Q ↔ W (f τ M) fun d M => W (lo τ M) fun l M => W (hi τ M) fun h M => W (dSl d l h M) Q := by
  simp only [W_q, WS_q] at *
  exact Kq.W_sl
@[simp] theorem W_yes {Q : Bool → Sto → Prop} : W (yes τ M) Q ↔ Q true M := by
  simp only [W_q, WS_q] at *
  exact Kq.W_yes
@[simp] theorem W_lenF {n : Nat} {F : FD} {ds : List D} {Q : D → Sto → Prop} (h : ds.length = n) : W (lenF n F ds M) Q ↔ W (F ds M) Q := by
  simp only [W_q, WS_q] at *
  exact Kq.W_lenF h
theorem W_endD {r : SR} {Q : D → Sto → Prop} (h : WS r ⟨fun _ M => Q .non M, fun _ _ => False, Q⟩) : W (endD r) Q := by
  simp only [W_q, WS_q] at *
  exact Kq.W_endD h
theorem W_fin {n : Nat} {r : Res D} {Q : D → Sto → Prop} (h : W r fun d M => Q d M ∧ (D.low n d = true → Q d (M.take n))) : W (fin n r) Q := by
  simp only [W_q, WS_q] at *
  exact Kq.W_fin h
theorem W_def {n : Nat} {fs : FS} {ds : List D} {P : D → Prop} (h : WS (fs (startD n ds) M) ⟨fun _ M' => P .non ∧ Le M M', fun _ _ => False, fun d M' => P d ∧ Le M M'⟩) : W (mdef n fs ds M) fun d M' => P d ∧ Le M M' := by
  simp only [W_q, WS_q] at *
  exact Kq.W_def h
theorem W_defX {n : Nat} {fs : FS} {ds : List D} {P : D → Sto → Prop} (hl : ∀ d M', D.low M.length d = true → P d M' → P d (M'.take M.length)) (h : WS (fs (startD n ds) M) ⟨fun _ M' => P .non M' ∧ Le M M', fun _ _ => False, fun d M' => P d M' ∧ Le M M'⟩) : W (mdef n fs ds M) fun d M' => P d M' ∧ Le M M' := by
  simp only [W_q, WS_q] at *
  exact Kq.W_defX hl h
theorem W_defL {n : Nat} {fs : FS} {ds : List D} {P : D → Sto → Prop} (h : WS (fs (startD n ds) M) ⟨fun _ _ => False, fun _ _ => False, fun d M' => D.low M.length d = false ∧ P d M' ∧ Le M M'⟩) : W (mdef n fs ds M) fun d M' => D.low M.length d = false ∧ P d M' ∧ Le M M' := by
  simp only [W_q, WS_q] at *
  exact Kq.W_defL h
theorem W_defT {n t : Nat} {fs : FS} {ds : List D} {P : D → Prop} {I : MO → Prop} (ht : t < M.length) (h : WS (fs (startD n ds) M) ⟨fun _ M' => P .non ∧ Gr t M M' ∧ (∃ o, M'[t]? = some o ∧ I o), fun _ _ => False, fun d M' => P d ∧ Gr t M M' ∧ (∃ o, M'[t]? = some o ∧ I o)⟩) :
    W (mdef n fs ds M) fun d M' => P d ∧ Gr t M M' ∧ (∃ o, M'[t]? = some o ∧ I o) := by
  simp only [W_q, WS_q] at *
  exact Kq.W_defT ht h
end
section
variable {τ : Mp.Env} {M : Sto} {f g : FE} {C : Cs} {xs : List D} {R : Sto → Prop} {w : Wk} {t : Tg}
theorem W_iVal {Q : Wk → Sto → Prop} : (W (f τ M) fun d M1 => ∃ xs, seqOf d M1 = some xs ∧ ∀ w, (∀ R : Sto → Prop, (∀ M', R M' → seqOf d M' = some xs) → Wo R w xs) → Q w M1) → W (iVal f τ M) Q := by
  simp only [W_q, WS_q] at *
  exact Kq.W_iVal
theorem W_iR1 {Q : Wk → Sto → Prop} : (W (f τ M) fun d M1 => ∃ n : Nat, d = .int n ∧ n < 2 ^ 62 ∧ ∀ w, (∀ R : Sto → Prop, Wo R w ((List.range n).map fun i : Nat => D.int i)) → Q w M1) → W (iR1 f τ M) Q := by
  simp only [W_q, WS_q] at *
  exact Kq.W_iR1
theorem W_iZip {Q : Wk → Sto → Prop} : (W (f τ M) fun d M1 => W (g τ M1) fun e M2 => ∃ xs ys, seqOf d M2 = some xs ∧ seqOf e M2 = some ys ∧ ∀ w, (∀ R : Sto → Prop, (∀ M', R M' → seqOf d M' = some xs ∧ seqOf e M' = some ys) → Wo R w (List.zipWith (fun x y => D.tup [x, y]) xs ys)) → Q w M2) → W (Mp.iZip f g τ M) Q := by
  simp only [W_q, WS_q] at *
  exact Kq.W_iZip
theorem loop_aux {body : FS} {Iv : Nat → Mp.Env → Sto → Prop} (hw : Wo R w xs) (hR : ∀ i τ M, Iv i τ M → R M)
    (step : ∀ i (h : i < xs.length) τ M, Iv i τ M → ∃ τ1, t.put xs[i] τ = some τ1 ∧ WS (body τ1 M) { C with nx := Iv (i + 1), bk := C.nx })
    (done : ∀ τ M, Iv xs.length τ M → C.nx τ M) : ∀ k i τ M, i + k = xs.length → Iv i τ M → WS (loopG w t body k i τ M) C := by
  simp only [W_q, WS_q] at *
  exact Kq.loop_aux hw hR step done
theorem WS_for {wi : Ev Wk} {body : FS} : (W (wi τ M) fun w M1 => ∃ (xs : List D) (R : Sto → Prop) (Iv : Nat → Mp.Env → Sto → Prop), Wo R w xs ∧ (∀ i τ M, Iv i τ M → R M) ∧ Iv 0 τ M1 ∧
    (∀ i (h : i < xs.length) τ M, Iv i τ M → ∃ τ1, t.put xs[i] τ = some τ1 ∧ WS (body τ1 M) { C with nx := Iv (i + 1), bk := C.nx }) ∧ (∀ τ M, Iv xs.length τ M → C.nx τ M)) → WS (sFor wi t body τ M) C := by
  simp only [W_q, WS_q] at *
  exact Kq.WS_for
theorem WS_while {c : Ev Bool} {body : FS} (Iv : Nat → Mp.Env → Sto → Prop) (step : ∀ m τ M, Iv m τ M → W (c τ M) fun b M1 => if b = true then WS (body τ M1) { C with nx := fun τ' M' => ∃ m', m' < m ∧ Iv m' τ' M', bk := C.nx } else C.nx τ M1) :
    ∀ (n m : Nat) (τ : Mp.Env) (M : Sto), m < n → Iv m τ M → WS (sWhile n c body τ M) C := by
  simp only [W_q, WS_q] at *
  exact Kq.WS_while Iv step
theorem push_ok {n : Nat} {y : D} {acc : List D} {k : Sto → Res D} {Q : D → Sto → Prop} (h : M[n]? = some (.lst acc)) (hl : acc.length < 16777216) : W (pushAt n y M k) Q ↔ W (k (M.set n (.lst (acc ++ [y])))) Q := by
  simp only [W_q, WS_q] at *
  exact Kq.push_ok h hl
theorem lc_aux {te : FE} {n : Nat} {τ0 : Mp.Env} {Iv : Nat → List D → Sto → Prop} {Q : D → Sto → Prop} (hw : Wo R w xs) (hl : xs.length ≤ 16777216) (hR : ∀ i ys M, Iv i ys M → R M)
    (step : ∀ i (h : i < xs.length) ys M, ys.length = i → M[n]? = some (.lst ys) → Iv i ys M → ∃ τ1, t.put xs[i] τ0 = some τ1 ∧ W (te τ1 M) fun y M2 => M2[n]? = some (.lst ys) ∧ Iv (i + 1) (ys ++ [y]) (M2.set n (.lst (ys ++ [y]))))
    (done : ∀ ys M, ys.length = xs.length → M[n]? = some (.lst ys) → Iv xs.length ys M → Q (.adr n) M) : ∀ k i ys M, i + k = xs.length → ys.length = i → M[n]? = some (.lst ys) → Iv i ys M → W (lcLoop n w t τ0 yes te k i M) Q := by
  simp only [W_q, WS_q] at *
  exact Kq.lc_aux hw hl hR step done
theorem W_lc {wi : Ev Wk} {te : FE} {vs : List Nat} {Q : D → Sto → Prop} (ht : t.inn vs = true) : (W (wi τ M) fun w M1 => ∃ (xs : List D) (R : Sto → Prop) (Iv : Nat → List D → Sto → Prop), Wo R w xs ∧ xs.length ≤ 16777216 ∧ (∀ i ys M, Iv i ys M → R M) ∧ Iv 0 [] (M1 ++ [.lst []]) ∧
    (∀ i (h : i < xs.length) ys M, ys.length = i → M[M1.length]? = some (.lst ys) → Iv i ys M → ∃ τ1, t.put xs[i] (wipeE τ vs) = some τ1 ∧ W (te τ1 M) fun y M2 => M2[M1.length]? = some (.lst ys) ∧ Iv (i + 1) (ys ++ [y]) (M2.set M1.length (.lst (ys ++ [y])))) ∧
    (∀ ys M, ys.length = xs.length → M[M1.length]? = some (.lst ys) → Iv xs.length ys M → Q (.adr M1.length) M)) → W (eLc wi t yes te vs τ M) Q := by
  simp only [W_q, WS_q] at *
  exact Kq.W_lc ht
theorem W_lcR {wi : Ev Wk} {te : FE} {vs : List Nat} {Q : D → Sto → Prop} (ht : t.inn vs = true) : (W (wi τ M) fun w M1 => ∃ (xs : List D) (g : Nat → D), Wo (Le M1) w xs ∧ xs.length ≤ 16777216 ∧
    (∀ i (h : i < xs.length) M, Le M1 M → ∃ τ1, t.put xs[i] (wipeE τ vs) = some τ1 ∧ W (te τ1 M) fun y M2 => y = g i ∧ Le M M2) ∧
    (∀ M, Le M1 M → M[M1.length]? = some (.lst ((List.range xs.length).map g)) → Q (.adr M1.length) M)) → W (eLc wi t yes te vs τ M) Q := by
  simp only [W_q, WS_q] at *
  exact Kq.W_lcR ht
theorem gen_aux {te : FE} {τ0 : Mp.Env} {p : Nat → Bool} {M0 : Sto} (hw : Wo (Le M0) w xs) (step : ∀ i (h : i < xs.length) M, Le M0 M → ∃ τ1, t.put xs[i] τ0 = some τ1 ∧ W (te τ1 M) fun y M2 => y = .bl (p i) ∧ Le M M2) :
    ∀ k i M, i + k = xs.length → Le M0 M → W (genLoop true w t τ0 yes te k i M) fun d M' => d = .bl ((List.range' i k).all p) ∧ Le M0 M' := by
  simp only [W_q, WS_q] at *
  exact Kq.gen_aux hw step
theorem W_genR {wi : Ev Wk} {te : FE} {vs : List Nat} {Q : D → Sto → Prop} (ht : t.inn vs = true) : (W (wi τ M) fun w M1 => ∃ (xs : List D) (p : Nat → Bool), Wo (Le M1) w xs ∧
    (∀ i (h : i < xs.length) M, Le M1 M → ∃ τ1, t.put xs[i] (wipeE τ vs) = some τ1 ∧ W (te τ1 M) fun y M2 => y = .bl (p i) ∧ Le M M2) ∧
    (∀ M, Le M1 M → Q (.bl ((List.range xs.length).all p)) M)) → W (eGen true wi t yes te vs τ M) Q := by
  simp only [W_q, WS_q] at *
  exact Kq.W_genR ht
theorem genT_aux {te : FE} {τ0 : Mp.Env} {g : Nat → D} {M0 : Sto} (hw : Wo (Le M0) w xs) (step : ∀ i (h : i < xs.length) M, Le M0 M → ∃ τ1, t.put xs[i] τ0 = some τ1 ∧ W (te τ1 M) fun y M2 => y = g i ∧ Le M M2) :
    ∀ k i acc M, i + k = xs.length → Le M0 M → W (genTup w t τ0 yes te k i acc M) fun d M' => d = .tup (acc ++ (List.range' i k).map g) ∧ Le M0 M' := by
  simp only [W_q, WS_q] at *
  exact Kq.genT_aux hw step
theorem W_genT {wi : Ev Wk} {te : FE} {vs : List Nat} {Q : D → Sto → Prop} (ht : t.inn vs = true) : (W (wi τ M) fun w M1 => ∃ (xs : List D) (g : Nat → D), Wo (Le M1) w xs ∧ xs.length < 16777216 ∧
    (∀ i (h : i < xs.length) M, Le M1 M → ∃ τ1, t.put xs[i] (wipeE τ vs) = some τ1 ∧ W (te τ1 M) fun y M2 => y = g i ∧ Le M M2) ∧
    (∀ M, Le M1 M → Q (.tup ((List.range xs.length).map g)) M)) → W (eGenT wi t yes te vs τ M) Q := by
  simp only [W_q, WS_q] at *
  exact Kq.W_genT ht
end
section
theorem W_defLT {n : Nat} {fs : FS} {ds : List D} {M : Sto} {P : D → Sto → Prop} (h : WS (fs (startD n ds) M) ⟨fun _ _ => False, fun _ _ => False, fun d M' => D.low M.length d = false ∧ P d M'⟩) : W (mdef n fs ds M) P := by
  simp only [W_q, WS_q] at *
  exact Kq.W_defLT h
theorem WS_weak {C C' : Cs} {r : SR} (hn : ∀ τ M, C.nx τ M → C'.nx τ M) (hb : ∀ τ M, C.bk τ M → C'.bk τ M) (hr : ∀ d M, C.rt d M → C'.rt d M) (h : WS r C) : WS r C' := by
  simp only [W_q, WS_q] at *
  exact Kq.WS_weak hn hb hr h
end
end Kp

set_option Elab.async false
set_option linter.all false
set_option maxRecDepth 100000
set_option maxHeartbeats 2000000
/-! Kp2b: data, operators, kinds -/
namespace Kp
open PySem PySem.Spec PyProof.Rows L2 Mp
open Kq (Le Gr Wo Cs lt_of_get seq_le seq_gr seq_adr wo_tup wo_lst startD_eq)
def Q.D (q : Q) : D := .tup [.int q.a, .int q.b, .int q.c, .int q.d]
def rowD (m : Nat) (f : Nat → Q) : D := .tup ((List.range m).map fun x => (f x).D)
def gridD (m n : Nat) (f : F) : D := .tup ((List.range m).map fun y => rowD n (f y))
/-- a table's datum: outs, ins, power, entries -/
def tabD (o i p : Nat) (f : F) : D := .tup [.int o, .int i, .int p, gridD (2 ^ o) (2 ^ i) f]
/-- rows in the store: lists or tuples -/
def RowV (M : Sto) (d : D) (n : Nat) (f : Nat → Q) : Prop := seqOf d M = some ((List.range n).map fun x => (f x).D)
def GridV (M : Sto) (d : D) (m n : Nat) (f : F) : Prop := ∃ g : Nat → D, seqOf d M = some ((List.range m).map g) ∧ ∀ y, y < m → RowV M (g y) n (f y)
section
variable {M M' : Sto} {C : Cs} {τ : Mp.Env}
theorem RowV.le {d : D} {n : Nat} {f : Nat → Q} (h : RowV M d n f) (l : Le M M') : RowV M' d n f := seq_le l h
theorem GridV.le {d : D} {m n : Nat} {f : F} (h : GridV M d m n f) (l : Le M M') : GridV M' d m n f := by
  obtain ⟨g, h1, h2⟩ := h
  exact ⟨g, seq_le l h1, fun y hy => (h2 y hy).le l⟩
theorem rowV_D {n : Nat} {f : Nat → Q} : RowV M (rowD n f) n f := rfl
theorem gridV_D {m n : Nat} {f : F} : GridV M (gridD m n f) m n f := ⟨fun y => rowD n (f y), rfl, fun _ _ => rowV_D⟩
/-! operators -/
theorem sm_log {x : Int} {k : Nat} (h : x.natAbs < 2 ^ k) : x.natAbs.log2 ≤ k := by
  rcases Nat.eq_zero_or_pos x.natAbs with e | e
  · rw [e]; simp
  · exact Nat.le_of_lt ((Nat.log2_lt (by omega)).mpr h)
abbrev Sm (x : Int) : Prop := -(2 ^ 3000) < x ∧ x < 2 ^ 3000
theorem Sm.log {x : Int} (h : Sm x) : x.natAbs.log2 ≤ 3000 := sm_log (by
  have h1 : ((2 : Nat) ^ 3000 : Nat) = ((2 : Int) ^ 3000).toNat := by decide +kernel
  rw [h1]
  have := h.1; have := h.2
  generalize (2 : Int) ^ 3000 = B at *
  omega)
@[simp] theorem dAdd_i (i j : Int) : dAdd (.int i) (.int j) M = .ok (.int (i + j)) M := rfl
@[simp] theorem dSub_i (i j : Int) : dSub (.int i) (.int j) M = .ok (.int (i - j)) M := rfl
theorem dMul_l {i j : Int} (h : i.natAbs.log2 + j.natAbs.log2 < 100000000) : dMul (.int i) (.int j) M = .ok (.int (i * j)) M := by
  show (if i.natAbs.log2 + j.natAbs.log2 < 100000000 then _ else _) = _
  rw [if_pos h]
@[simp] theorem dMul_i {i j : Int} (h : Sm i) (k : Sm j) : dMul (.int i) (.int j) M = .ok (.int (i * j)) M := dMul_l (by have := h.log; have := k.log; omega)
@[simp] theorem dNeg_i (i : Int) : dNeg (.int i) M = .ok (.int (-i)) M := rfl
theorem dFdiv_l {i j : Int} (h : 0 < j) (k : j.natAbs.log2 < 9000) : dFdiv (.int i) (.int j) M = .ok (.int (i / j)) M := by
  unfold dFdiv dI2; dsimp only; rw [if_pos (by simp [h, k])]
@[simp] theorem dFdiv_2 {i : Int} : dFdiv (.int i) (.int 2) M = .ok (.int (i / 2)) M := dFdiv_l (by decide) (by decide +kernel)
@[simp] theorem dFdiv_4 {i : Int} : dFdiv (.int i) (.int 4) M = .ok (.int (i / 4)) M := dFdiv_l (by decide) (by decide +kernel)
@[simp] theorem dFdiv_z {i : Int} : dFdiv (.int i) (.int 131101) M = .ok (.int (i / 131101)) M := dFdiv_l (by decide) (by decide +kernel)
@[simp] theorem dFdiv_i {i j : Int} (h : 0 < j) (k : Sm j) : dFdiv (.int i) (.int j) M = .ok (.int (i / j)) M := dFdiv_l h (by have := k.log; omega)
@[simp] theorem dMod_i {i j : Int} (h : 0 < j) : dMod (.int i) (.int j) M = .ok (.int (i % j)) M := by
  unfold dMod dI2; dsimp only; rw [if_pos (by simp [h])]
theorem bits_le {x : Int} {k : Nat} (h : x.natAbs.log2 ≤ k) : Builtin.Int.intBits x ≤ k + 1 := by
  unfold Builtin.Int.intBits; split <;> omega
theorem dShl_l {i : Int} {j : Nat} (h : i.natAbs.log2 ≤ 100000) (k : j ≤ 100000) : dShl (.int i) (.int j) M = .ok (.int (i * 2 ^ j)) M := by
  have := bits_le h
  unfold dShl dI2; dsimp only; rw [if_pos (by simp only [decide_eq_true_eq]; refine ⟨by omega, ?_⟩; rw [show (2 : Int) ^ 27 = 134217728 from by decide]; omega)]
  rw [Int.toNat_natCast]
theorem dShl_i {i : Int} {j : Nat} (h : Sm i) (k : j ≤ 100000) : dShl (.int i) (.int j) M = .ok (.int (i * 2 ^ j)) M := dShl_l (by have := h.log; omega) k
@[simp] theorem dShr_i {i : Int} {j : Nat} : dShr (.int i) (.int j) M = .ok (.int (i / 2 ^ j)) M := by
  unfold dShr dI2; dsimp only; rw [if_pos (by simp)]
  rw [Int.toNat_natCast]
@[simp] theorem dAnd_i (i j : Int) : dAnd (.int i) (.int j) M = .ok (.int (Builtin.bitAnd i j)) M := rfl
@[simp] theorem dXor_i (i j : Int) : dXor (.int i) (.int j) M = .ok (.int (Builtin.bitXor i j)) M := rfl
@[simp] theorem dEq_i (i j : Int) : dEq (.int i) (.int j) M = .ok (.bl (decide (i = j))) M := by unfold dEq; rw [eqP_int]
@[simp] theorem dNe_i (i j : Int) : dNe (.int i) (.int j) M = .ok (.bl (!decide (i = j))) M := by unfold dNe; rw [eqP_int]
@[simp] theorem dLt_i (i j : Int) : dLt (.int i) (.int j) M = .ok (.bl (decide (i < j))) M := rfl
@[simp] theorem dLe_i (i j : Int) : dLe (.int i) (.int j) M = .ok (.bl (decide (i ≤ j))) M := rfl
@[simp] theorem dGt_i (i j : Int) : dGt (.int i) (.int j) M = .ok (.bl (decide (j < i))) M := rfl
@[simp] theorem dGe_i (i j : Int) : dGe (.int i) (.int j) M = .ok (.bl (decide (j ≤ i))) M := rfl
@[simp] theorem bInt_i (i : Int) : bInt [.int i] M = .ok (.int i) M := rfl
@[simp] theorem bInt_b (b : Bool) : bInt [.bl b] M = .ok (.int (if b then 1 else 0)) M := rfl
@[simp] theorem bAbs_i (i : Int) : bAbs [.int i] M = .ok (.int (if i < 0 then -i else i)) M := rfl
theorem bLen_s {d : D} {xs : List D} (h : seqOf d M = some xs) : bLen [d] M = .ok (.int xs.length) M := by
  cases d with
  | str x => cases h
  | _ => simp only [bLen, h]
@[simp] theorem bLen_t (xs : List D) : bLen [.tup xs] M = .ok (.int xs.length) M := rfl
theorem atI_n {xs : List D} {j : Nat} (h : j < xs.length) : atI xs (j : Int) = some xs[j] := by
  unfold atI ixN
  rw [if_pos (by omega), if_pos (by omega)]
  simp [h]
theorem dIx_s {d : D} {xs : List D} {j : Nat} (e : seqOf d M = some xs) (h : j < xs.length) : dIx d (.int j) M = .ok xs[j] M := by
  unfold dIx; simp only [e, atI_n h]
@[simp] theorem dIx_t0 (x : D) (r : List D) : dIx (.tup (x :: r)) (.int 0) M = .ok x M := dIx_s (xs := x :: r) (j := 0) rfl (by simp)
@[simp] theorem dIx_t1 (x y : D) (r : List D) : dIx (.tup (x :: y :: r)) (.int 1) M = .ok y M := dIx_s (xs := x :: y :: r) (j := 1) rfl (by simp)
@[simp] theorem dIx_t2 (x y z : D) (r : List D) : dIx (.tup (x :: y :: z :: r)) (.int 2) M = .ok z M := dIx_s (xs := x :: y :: z :: r) (j := 2) rfl (by simp)
@[simp] theorem dIx_t3 (x y z u : D) (r : List D) : dIx (.tup (x :: y :: z :: u :: r)) (.int 3) M = .ok u M := dIx_s (xs := x :: y :: z :: u :: r) (j := 3) rfl (by simp)
theorem dIx_g {m n y : Nat} {f : F} (h : y < m) : dIx (gridD m n f) (.int y) M = .ok (rowD n (f y)) M := by
  unfold gridD; rw [dIx_s (j := y) rfl (by simpa using h)]; simp
theorem dIx_r {n x : Nat} {f : Nat → Q} (h : x < n) : dIx (rowD n f) (.int x) M = .ok (f x).D M := by
  unfold rowD; rw [dIx_s (j := x) rfl (by simpa using h)]; simp
theorem lst_of {d : D} {n : Nat} (h : d = .adr n) : lstOf d M = seqOf (.adr n) M := by subst h; rfl
theorem bTuple_s {n : Nat} {xs : List D} (h : seqOf (.adr n) M = some xs) : bTuple [.adr n] M = .ok (.tup xs) M := by simp only [bTuple, h]
@[simp] theorem bTuple_t (xs : List D) : bTuple [.tup xs] M = .ok (.tup xs) M := rfl
theorem bTuple_v {d : D} {xs : List D} (h : seqOf d M = some xs) : bTuple [d] M = .ok (.tup xs) M := by
  cases d with
  | tup ds => cases h; rfl
  | adr n => exact bTuple_s h
  | _ => cases h
theorem blL_map : ∀ (bs : List Bool), blL (bs.map D.bl) = some bs
  | [] => rfl
  | b :: r => by simp [blL, blL_map r]
theorem intL_map : ∀ (bs : List Int), intL (bs.map D.int) = some bs
  | [] => rfl
  | b :: r => by simp [intL, intL_map r]
theorem bAll_s {n : Nat} {bs : List Bool} (h : M[n]? = some (.lst (bs.map D.bl))) : bAll [.adr n] M = .ok (.bl (bs.all id)) M := by
  have e : lstOf (.adr n) M = some (bs.map D.bl) := by simp [lstOf, seqOf, h]
  simp only [bAll, e, Option.bind_some, blL_map]
/-! equality of tuples of ints -/
theorem eqvA : ∀ (is js : List Int), PyData.eqvAll (is.map PyData.int) (js.map PyData.int) = decide (is = js)
  | [], [] => rfl
  | [], _ :: _ => rfl
  | _ :: _, [] => rfl
  | i :: is, j :: js => by
    simp only [List.map_cons, PyData.eqvAll, PyData.eqv, eqvA is js]
    by_cases h : i = j <;> by_cases k : is = js <;> simp [h, k]
theorem pyL_ints : ∀ (is : List Int), D.pyL (is.map D.int) = some (is.map PyData.int)
  | [] => by unfold D.pyL; rfl
  | i :: is => by
    rw [List.map_cons, List.map_cons]; unfold D.pyL; rw [pyL_ints is]
    have : D.py (.int i) = some (.int i) := by unfold D.py; rfl
    rw [this]
theorem canLay_ints : ∀ is : List Int, PyData.canLayAll0 (is.map PyData.int) = true
  | [] => rfl
  | i :: is => by rw [List.map_cons]; unfold PyData.canLayAll0; rw [canLay_ints is]; rfl
theorem depth_ints : ∀ is : List Int, PyData.depthAll (is.map PyData.int) = 0
  | [] => rfl
  | i :: is => by rw [List.map_cons]; unfold PyData.depthAll; rw [depth_ints is]; rfl
theorem shaped_ints (is : List Int) : SeqAt.shaped (.tuple (is.map PyData.int)) = true := by
  unfold SeqAt.shaped PyData.canLay0 PyData.depth
  rw [canLay_ints, depth_ints]; rfl
theorem eqP_ints (is js : List Int) : eqP (.tup (is.map D.int)) (.tup (js.map D.int)) = some (decide (is = js)) := by
  have e : ∀ ks : List Int, D.py (.tup (ks.map D.int)) = some (.tuple (ks.map PyData.int)) := fun ks => by unfold D.py; rw [pyL_ints]; rfl
  unfold eqP
  rw [e, e]
  dsimp only
  rw [if_pos ⟨shaped_ints is, shaped_ints js⟩]
  unfold PyData.eqv
  rw [eqvA]
theorem eqP_q (x y : Q) : eqP x.D y.D = some (decide (x = y)) := by
  have := eqP_ints [x.a, x.b, x.c, x.d] [y.a, y.b, y.c, y.d]
  have e : decide (x = y) = decide ([x.a, x.b, x.c, x.d] = [y.a, y.b, y.c, y.d]) := by
    rw [decide_eq_decide]; simp [Q.ext_iff]
  rw [e]; exact this
@[simp] theorem dEq_q (x y : Q) : dEq x.D y.D M = .ok (.bl (decide (x = y))) M := by unfold dEq; rw [eqP_q]
@[simp] theorem dNe_q (x y : Q) : dNe x.D y.D M = .ok (.bl (!decide (x = y))) M := by unfold dNe; rw [eqP_q]
end
end Kp

set_option Elab.async false
set_option linter.all false
set_option maxRecDepth 100000
set_option maxHeartbeats 4000000
/-! Kp3: the program's defs: values -/
namespace Kp
open PySem PySem.Spec PyProof.Rows L2 Mp K29
open Kq (Le Gr Wo Cs lt_of_get seq_le seq_gr seq_adr wo_tup wo_lst startD_eq)
section
variable {CN : Str → Addr} {M : Sto}
theorem need_t {w : D} : W (m_need CN [.bl true, w] M) fun d M' => d = .non ∧ Le M M' := by
  unfold m_need
  refine W_def ?_
  simp [truD]
/-- a def that raises -/
def WX (C : Addr) (fs : List (Str × D)) (M : Sto) (r : Res D) : Prop := ∃ M', r = .exn C fs M' ∧ Le M M'
theorem need_f {w : Str} : WX (CN "NotUsable") [("at", .int (-1)), ("word", .str w)] M (m_need CN [.bl false, .str w] M) := by
  have e : m_need CN [.bl false, .str w] M = fin M.length (.exn (CN "NotUsable") [("at", .int (-1)), ("word", .str w)] M) := by rfl
  rw [e]
  unfold fin
  dsimp only
  split
  · exact ⟨_, rfl, by rw [List.take_length]; exact Le.rfl⟩
  · exact ⟨_, rfl, Le.rfl⟩
/-! kinds -/
def isI : D → Bool
  | .int _ => true
  | _ => false
def isB : D → Bool
  | .bl _ => true
  | _ => false
def isT : D → Bool
  | .tup _ => true
  | _ => false
def isS : D → Bool
  | .str _ => true
  | _ => false
/-- what stands for a value: an address is a list's -/
def Kd (M : Sto) : D → Prop
  | .adr n => ∃ xs, M[n]? = some (.lst xs)
  | _ => True
theorem Kd.le {d : D} {M' : Sto} (h : Kd M d) (l : Le M M') : Kd M' d := by
  cases d with
  | adr n => obtain ⟨xs, e⟩ := h; exact ⟨xs, l.get e⟩
  | _ => exact h
theorem isi_int {d : D} (h : Kd M d) : dIsi "int" d M = .ok (.bl (isI d || isB d)) M := by
  cases d with
  | non => simp only [dIsi, D.ty, kit_non_int, isI, isB]; rfl
  | bl b => simp only [dIsi, D.ty, kit_bool_int, isI, isB]; rfl
  | int i => simp only [dIsi, D.ty, kit_int_int, isI, isB]; rfl
  | str x => simp only [dIsi, D.ty, kit_str_int, isI, isB]; rfl
  | tup x => simp only [dIsi, D.ty, kit_tuple_int, isI, isB]; rfl
  | adr n => obtain ⟨xs, e⟩ := h; simp only [dIsi, D.ty, e, kit_list_int, isI, isB]; rfl
theorem isi_bool {d : D} (h : Kd M d) : dIsi "bool" d M = .ok (.bl (isB d)) M := by
  cases d with
  | non => simp only [dIsi, D.ty, kit_non_bool, isB]
  | bl b => simp only [dIsi, D.ty, kit_bool_bool, isB]
  | int i => simp only [dIsi, D.ty, kit_int_bool, isB]
  | str x => simp only [dIsi, D.ty, kit_str_bool, isB]
  | tup x => simp only [dIsi, D.ty, kit_tuple_bool, isB]
  | adr n => obtain ⟨xs, e⟩ := h; simp only [dIsi, D.ty, e, kit_list_bool, isB]
theorem isi_tuple {d : D} (h : Kd M d) : dIsi "tuple" d M = .ok (.bl (isT d)) M := by
  cases d with
  | non => simp only [dIsi, D.ty, kit_non_tuple, isT]
  | bl b => simp only [dIsi, D.ty, kit_bool_tuple, isT]
  | int i => simp only [dIsi, D.ty, kit_int_tuple, isT]
  | str x => simp only [dIsi, D.ty, kit_str_tuple, isT]
  | tup x => simp only [dIsi, D.ty, kit_tuple_tuple, isT]
  | adr n => obtain ⟨xs, e⟩ := h; simp only [dIsi, D.ty, e, kit_list_tuple, isT]
theorem isi_str {d : D} (h : Kd M d) : dIsi "str" d M = .ok (.bl (isS d)) M := by
  cases d with
  | non => simp only [dIsi, D.ty, kit_non_str, isS]
  | bl b => simp only [dIsi, D.ty, kit_bool_str, isS]
  | int i => simp only [dIsi, D.ty, kit_int_str, isS]
  | str x => simp only [dIsi, D.ty, kit_str_str, isS]
  | tup x => simp only [dIsi, D.ty, kit_tuple_str, isS]
  | adr n => obtain ⟨xs, e⟩ := h; simp only [dIsi, D.ty, e, kit_list_str, isS]
/-- the wp of straight code -/
theorem is_integer_ok {d : D} (h : Kd M d) : W (m_is_integer CN [d] M) fun v M' => v = .bl (isI d) ∧ Le M M' := by
  unfold m_is_integer
  refine W_def ?_
  simp [isi_int h, isi_bool h]
  cases d <;> simp [isI, isB]
theorem whole_ok {d : D} (h : Kd M d) : W (m__law_whole CN [d] M) fun v M' => v = .bl (isI d) ∧ Le M M' := is_integer_ok (CN := CN) h
def isN : D → Bool
  | .int i => decide (0 ≤ i)
  | _ => false
theorem is_number_ok {d : D} (h : Kd M d) : W (m_is_number CN [d] M) fun v M' => v = .bl (isN d) ∧ Le M M' := by
  unfold m_is_number
  refine W_def ?_
  simp
  refine W_mono (is_integer_ok h) fun v M' ⟨e, l⟩ => ?_
  subst e
  cases d <;> simp [isI, isN, l]
def isTn (n : Int) : D → Bool
  | .tup ds => decide ((ds.length : Int) = n)
  | _ => false
theorem is_tuple_of_ok {d : D} {n : Int} (h : Kd M d) : W (m_is_tuple_of CN [.int n, d] M) fun v M' => v = .bl (isTn n d) ∧ Le M M' := by
  unfold m_is_tuple_of
  refine W_def ?_
  simp [isi_tuple h]
  cases d <;> simp [isT, isTn]
theorem exact_sum_ok {x y : Q} : W (m_exact_sum CN [x.D, y.D] M) fun v M' => v = (x.add y).D ∧ Le M M' := by
  unfold m_exact_sum
  refine W_def ?_
  simp [WS_set, Q.D, Tg.put, Tg.puts, Q.add]
def Q.Sm (x : Q) : Prop := Kp.Sm x.a ∧ Kp.Sm x.b ∧ Kp.Sm x.c ∧ Kp.Sm x.d
theorem exact_product_ok {x y : Q} (h : x.Sm) (k : y.Sm) : W (m_exact_product CN [x.D, y.D] M) fun v M' => v = (x.mul y).D ∧ Le M M' := by
  obtain ⟨h1, h2, h3, h4⟩ := h
  obtain ⟨k1, k2, k3, k4⟩ := k
  unfold m_exact_product
  refine W_def ?_
  simp [WS_set, Q.D, Tg.put, Tg.puts, Q.mul, -dMul_i, dMul_i h1 k1, dMul_i h1 k2, dMul_i h1 k3, dMul_i h1 k4, dMul_i h2 k1, dMul_i h2 k2, dMul_i h2 k3, dMul_i h2 k4, dMul_i h3 k1, dMul_i h3 k2, dMul_i h3 k3, dMul_i h3 k4, dMul_i h4 k1, dMul_i h4 k2, dMul_i h4 k3, dMul_i h4 k4]
theorem mirror_of_ok {x : Q} : W (m_mirror_of CN [x.D] M) fun v M' => v = x.mir.D ∧ Le M M' := by
  unfold m_mirror_of
  refine W_def ?_
  simp [WS_set, Q.D, Tg.put, Tg.puts, Q.mir]
theorem by_root_ok {x : Q} : W (m_by_root CN [x.D] M) fun v M' => v = (if x.hasR = true then x.byR.D else .non) ∧ Le M M' := by
  have hb : (x.b - x.d) % 2 = (x.b + x.d) % 2 := by omega
  unfold m_by_root
  refine W_def ?_
  simp [WS_set, Q.D, Tg.put, Tg.puts, Q.byR, truD, hasR_iff, hb]
  by_cases h1 : (x.b + x.d) % 2 = 0 <;> by_cases h2 : (x.a + x.c) % 2 = 0 <;> simp [h1, h2]
end
end Kp

set_option Elab.async false
set_option linter.all false
set_option maxRecDepth 100000
set_option maxHeartbeats 4000000
/-! Kp4: the program's defs: rows, tables -/
namespace Kp
open PySem PySem.Spec PyProof.Rows L2 Mp K29
open Kq (Le Gr Wo Cs lt_of_get seq_le seq_gr seq_adr wo_tup wo_lst startD_eq)
section
variable {CN : Str → Addr} {M : Sto}
theorem times_roots_ok {x : Q} {k : Nat} (hk : k ≤ 3000) (h : x.Sm) (h2 : (x.shl (k / 2)).Sm) : W (m_times_roots CN [x.D, .int k] M) fun v M' => v = (rp k x).D ∧ Le M M' := by
  obtain ⟨h1, h3, h4, h5⟩ := h
  have e : (k : Int) / 2 = ((k / 2 : Nat) : Int) := by omega
  have hR : qR.Sm := ⟨by decide +kernel, by decide +kernel, by decide +kernel, by decide +kernel⟩
  rw [rp_eq]
  have hj : k / 2 ≤ 3000 := by omega
  generalize k / 2 = j at e h2 hj
  have hs : ∀ i : Int, Sm i → dShl (.int i) (.int (j : Int)) = fun M => .ok (.int (i * 2 ^ j)) M := fun i hi => funext fun M => dShl_i hi (by omega)
  unfold m_times_roots
  refine W_def ?_
  rcases (show (k : Int) % 2 = 1 ∨ (k : Int) % 2 = 0 by omega) with hp | hp
  · have hp2 : k % 2 = 1 := by omega
    have := exact_product_ok (CN := CN) (M := M) (x := x.shl j) (y := qR) h2 hR
    rw [if_pos hp2]
    simp [-dFdiv_i, WS_set, Q.D, Tg.put, Tg.puts, truD, hp, e, hs _ h1, hs _ h3, hs _ h4, hs _ h5]
    simpa [Q.D, qR, Q.shl] using this
  · have hp2 : ¬ k % 2 = 1 := by omega
    rw [if_neg hp2]
    simp [-dFdiv_i, WS_set, Q.D, Tg.put, Tg.puts, truD, hp, e, hs _ h1, hs _ h3, hs _ h4, hs _ h5, Q.shl]
def isW (k : Nat) : D → Bool
  | .tup ds => decide (ds.length = 2 ^ k)
  | _ => false
theorem isW_bits {k n : Nat} (h : n = 2 ^ k) : k < Builtin.Int.intBits (n : Int) := by
  unfold Builtin.Int.intBits
  have : 0 < 2 ^ k := Nat.pos_of_ne_zero (by simp)
  rw [if_neg (by simp; omega), Int.natAbs_natCast]
  have := (Nat.le_log2 (n := n) (k := k) (by omega)).mpr (by omega)
  omega
theorem is_width_of_ok {k : Nat} {d : D} (h : Kd M d) (hl : ∀ ds, d = .tup ds → ds.length < 2 ^ 60) : W (m_is_width_of CN [.int k, d] M) fun v M' => v = .bl (isW k d) ∧ Le M M' := by
  unfold m_is_width_of
  refine W_def ?_
  cases d with
  | tup ds =>
    have l := hl ds rfl
    by_cases hk : k < Builtin.Int.intBits (ds.length : Int)
    · have hk2 : k ≤ 60 := by
        unfold Builtin.Int.intBits at hk
        rw [Int.natAbs_natCast] at hk
        split at hk
        · omega
        · have : ds.length.log2 < 60 := (Nat.log2_lt (by simp_all)).mpr l
          omega
      have e : dShl (.int 1) (.int k) = fun M => .ok (.int (1 * 2 ^ k)) M := funext fun M => dShl_i (by decide +kernel) (by omega)
      have e2 : (((ds.length : Nat) : Int) = 2 ^ k) ↔ ds.length = 2 ^ k := by
        have : ((2 ^ k : Nat) : Int) = 2 ^ k := by simp
        rw [← this]; omega
      simp [isi_tuple h, isT, isW, dBits, hk, e, e2]
    · have e3 : ¬ ds.length = 2 ^ k := fun e => hk (isW_bits e)
      simp [isi_tuple h, isT, isW, dBits, hk, e3]
  | _ => simp [isi_tuple h, isT, isW]
theorem all_getD {ds : List D} (p : D → Bool) : (List.range ds.length).all (fun i => p (ds.getD i .non)) = ds.all p := by
  rw [Bool.eq_iff_iff, List.all_eq_true, List.all_eq_true]
  constructor
  · intro h x hx
    obtain ⟨i, hi, rfl⟩ := List.getElem_of_mem hx
    have := h i (List.mem_range.mpr hi)
    simpa [hi] using this
  · intro h i hi
    have hi := List.mem_range.mp hi
    have := h ds[i] (List.getElem_mem hi)
    simpa [hi] using this
def isEx : D → Bool
  | .tup ds => decide (ds.length = 4) && ds.all isI
  | _ => false
theorem is_exact_ok {d : D} (h : Kd M d) (hl : ∀ ds, d = .tup ds → ∀ e ∈ ds, Kd M e) : W (m_is_exact CN [d] M) fun v M' => v = .bl (isEx d) ∧ Le M M' := by
  unfold m_is_exact
  refine W_def ?_
  simp
  refine W_mono (is_tuple_of_ok h) fun v M' ⟨e, l⟩ => ?_
  subst e
  cases d with
  | tup ds =>
    simp [isTn, isEx]
    by_cases h4 : ds.length = 4
    · have h4' : (ds.length : Int) = 4 := by omega
      simp [h4, h4']
      refine W_genR (by rfl) (W_iVal ((W_var (by rfl)).mpr ?_))
      refine ⟨ds, rfl, fun w hw => ⟨ds, fun i => isI (ds.getD i .non), hw _ fun _ _ => rfl, fun i hi M1 l1 => ⟨_, rfl, ?_⟩, fun M1 l1 => ?_⟩⟩
      · simp [wipeE]
        refine W_mono (is_integer_ok ((hl ds rfl _ (List.getElem_mem hi)).le (l.trans l1))) fun v M2 ⟨e, l2⟩ => ⟨?_, l2⟩
        rw [e]; simp [hi]
      · refine ⟨?_, l.trans l1⟩
        rw [all_getD]
    · have h4' : ¬ (ds.length : Int) = 4 := by omega
      simp [h4, h4', l]
  | _ => simp [isTn, isEx, l]
theorem getD_eq {ds : List D} {i : Nat} (h : i < ds.length) : ds.getD i .non = ds[i] := by simp [h]
def isRow (k : Nat) : D → Bool
  | .tup ds => decide (ds.length = 2 ^ k) && ds.all isEx
  | _ => false
def Kd1 (M : Sto) (d : D) : Prop := Kd M d ∧ ∀ ds, d = .tup ds → ds.length < 2 ^ 60 ∧ ∀ e ∈ ds, Kd M e
def Kd2 (M : Sto) (d : D) : Prop := Kd M d ∧ ∀ ds, d = .tup ds → ds.length < 2 ^ 60 ∧ ∀ e ∈ ds, Kd1 M e
def Kd3 (M : Sto) (d : D) : Prop := Kd M d ∧ ∀ ds, d = .tup ds → ds.length < 2 ^ 60 ∧ ∀ e ∈ ds, Kd2 M e
theorem Kd1.le {d : D} {M' : Sto} (h : Kd1 M d) (l : Le M M') : Kd1 M' d := ⟨h.1.le l, fun ds e => ⟨(h.2 ds e).1, fun x hx => ((h.2 ds e).2 x hx).le l⟩⟩
theorem Kd2.le {d : D} {M' : Sto} (h : Kd2 M d) (l : Le M M') : Kd2 M' d := ⟨h.1.le l, fun ds e => ⟨(h.2 ds e).1, fun x hx => ((h.2 ds e).2 x hx).le l⟩⟩
theorem Kd3.le {d : D} {M' : Sto} (h : Kd3 M d) (l : Le M M') : Kd3 M' d := ⟨h.1.le l, fun ds e => ⟨(h.2 ds e).1, fun x hx => ((h.2 ds e).2 x hx).le l⟩⟩
theorem is_row_ok {k : Nat} {d : D} (h : Kd2 M d) : W (m_is_row CN [.int k, d] M) fun v M' => v = .bl (isRow k d) ∧ Le M M' := by
  unfold m_is_row
  refine W_def ?_
  simp
  refine W_mono (is_width_of_ok h.1 fun ds e => (h.2 ds e).1) fun v M' ⟨e, l⟩ => ?_
  subst e
  cases d with
  | tup ds =>
    simp [isW, isRow]
    by_cases h4 : ds.length = 2 ^ k
    · simp [h4]
      refine W_genR (by rfl) (W_iVal ((W_var (by rfl)).mpr ?_))
      refine ⟨ds, rfl, fun w hw => ⟨ds, fun i => isEx (ds.getD i .non), hw _ fun _ _ => rfl, fun i hi M1 l1 => ⟨_, rfl, ?_⟩, fun M1 l1 => ?_⟩⟩
      · simp [wipeE]
        have k1 := ((h.2 ds rfl).2 _ (List.getElem_mem hi)).le (l.trans l1)
        refine W_mono (is_exact_ok k1.1 fun es e => (k1.2 es e).2) fun v M2 ⟨e, l2⟩ => ⟨?_, l2⟩
        rw [e]; simp [hi]
      · refine ⟨?_, l.trans l1⟩
        rw [all_getD]
    · simp [h4, l]
  | _ => simp [isW, isRow, l]
def isRows (o i : Nat) : D → Bool
  | .tup ds => decide (ds.length = 2 ^ o) && ds.all (isRow i)
  | _ => false
theorem is_rows_ok {o i : Nat} {d : D} (h : Kd3 M d) : W (m_is_rows CN [.int o, .int i, d] M) fun v M' => v = .bl (isRows o i d) ∧ Le M M' := by
  unfold m_is_rows
  refine W_def ?_
  simp
  refine W_mono (is_width_of_ok h.1 fun ds e => (h.2 ds e).1) fun v M' ⟨e, l⟩ => ?_
  subst e
  cases d with
  | tup ds =>
    simp [isW, isRows]
    by_cases h4 : ds.length = 2 ^ o
    · simp [h4]
      refine W_genR (by rfl) (W_iVal ((W_var (by rfl)).mpr ?_))
      refine ⟨ds, rfl, fun w hw => ⟨ds, fun j => isRow i (ds.getD j .non), hw _ fun _ _ => rfl, fun j hj M1 l1 => ⟨_, rfl, ?_⟩, fun M1 l1 => ?_⟩⟩
      · simp [wipeE]
        refine W_mono (is_row_ok (((h.2 ds rfl).2 _ (List.getElem_mem hj)).le (l.trans l1))) fun v M2 ⟨e, l2⟩ => ⟨?_, l2⟩
        rw [e]; simp [hj]
      · refine ⟨?_, l.trans l1⟩
        rw [all_getD]
    · simp [h4, l]
  | _ => simp [isW, isRows, l]
end
end Kp

set_option Elab.async false
set_option linter.all false
set_option maxRecDepth 100000
set_option maxHeartbeats 4000000
/-! Kp5: rows divided by r, the one form, is_table -/
namespace Kp
open PySem PySem.Spec PyProof.Rows L2 Mp K29
open Kq (Le Gr Wo Cs lt_of_get seq_le seq_gr seq_adr wo_tup wo_lst startD_eq)
section
variable {CN : Str → Addr} {M : Sto}
/-- append to the list at n -/
theorem W_app {τ : Mp.Env} {f : FE} {ga : Ev (List D)} {Q : D → Sto → Prop} : (W (f τ M) fun d M1 => ∃ n, d = .adr n ∧ (∃ xs, seqOf (.adr n) M1 = some xs) ∧ W (ga τ M1) fun ds M2 => ∃ y acc, ds = [y] ∧ M2[n]? = some (.lst acc) ∧ acc.length < 16777216 ∧ Q .non (M2.set n (.lst (acc ++ [y])))) → W (eApp f ga τ M) Q := by
  intro h
  unfold eApp
  rw [W_bind]
  refine W_mono h fun d M1 ⟨n, e, ⟨xs, e2⟩, h⟩ => ?_
  subst e
  have e3 : lstOf (.adr n) M1 = some xs := e2
  rw [e3]
  dsimp only
  rw [W_bind]
  refine W_mono h fun ds M2 ⟨y, acc, e4, e5, hl, q⟩ => ?_
  subst e4
  show W (match M2[n]? with | some (.lst xs) => if xs.length < 16777216 then Res.ok D.non (M2.set n (.lst (xs ++ [y]))) else .bad | _ => .bad) Q
  rw [e5]; dsimp only; rw [if_pos hl, W_ok]; exact q
theorem get_set {n : Nat} {o : MO} (h : n < M.length) : (M.set n o)[n]? = some o := by rw [List.getElem?_set]; simp [h]
theorem get_setN {n k : Nat} {o : MO} (h : n ≠ k) : (M.set n o)[k]? = M[k]? := List.getElem?_set_ne h
theorem get_app {o : MO} : (M ++ [o])[M.length]? = some o := by simp
def rowB (f : F) (y : Nat) (j : Nat) : List D := (List.range j).map fun x => ((f y x).byR).D
theorem rows_by_root_ok {d : D} {m n : Nat} {f : F} (hm : m < 16777216) (hn : n < 16777216) (h : GridV M d m n f) : W (m_rows_by_root CN [d] M) fun v M' =>
    (if allF m n Q.hasR f = true then GridV M' v m n (fun y x => (f y x).byR) ∧ (∃ a, v = .adr a ∧ M.length ≤ a) else v = .non) ∧ Le M M' := by
  unfold m_rows_by_root
  refine W_defX (P := fun v M' => if allF m n Q.hasR f = true then GridV M' v m n (fun y x => (f y x).byR) ∧ (∃ a, v = .adr a ∧ M.length ≤ a) else v = .non) (fun v M' hl hp => ?_) ?_
  · split at hp
    · obtain ⟨_, a, rfl, ha⟩ := hp
      simp [D.low] at hl; omega
    · next z => rw [if_neg z]; exact hp
  · obtain ⟨g, hg, hr⟩ := h
    rw [WS_seq, WS_setN, W_lst]
    simp only [W_nil, startD_eq]
    refine ⟨by simp, ?_⟩
    rw [WS_seq]
    refine WS_for (W_iVal ((W_var (by rfl)).mpr ?_))
    have l0 : Le M (M ++ [MO.lst []]) := Le.app
    refine ⟨_, seq_le l0 hg, fun w hw => ?_⟩
    refine ⟨_, Le M, fun i τ M' => (∃ x2 x3 x4 x5, τ = [some d, some (.adr M.length), x2, x3, x4, x5]) ∧ Le M M' ∧ M'[M.length]? = some (.lst ((List.range i).map fun y => .tup (rowB f y n))) ∧ (∀ y x, y < i → x < n → (f y x).hasR = true), hw _ fun M' l => seq_le l hg, fun _ _ _ h => h.2.1, ⟨⟨_, _, _, _, rfl⟩, l0, by simp, fun y x hy => by omega⟩, ?_, ?_⟩
    · rintro i hi τ M1 ⟨⟨x2, x3, x4, x5, rfl⟩, l1, a1, c1⟩
      simp at hi
      refine ⟨_, rfl, ?_⟩
      rw [WS_seq, WS_setN, W_lst]
      simp only [W_nil]
      refine ⟨by simp, ?_⟩
      have hr1 := (hr i hi).le l1
      have l2 : Le M1 (M1 ++ [MO.lst []]) := Le.app
      have hne : M.length ≠ M1.length := by have := lt_of_get a1; omega
      rw [WS_seq]
      refine WS_for (W_iVal ((W_var (by rfl)).mpr ?_))
      refine ⟨_, by simpa using seq_le l2 hr1, fun w hw => ?_⟩
      refine ⟨_, Le M1, fun j τ M' => (∃ x4 x5, τ = [some d, some (.adr M.length), some (g i), some (.adr M1.length), x4, x5]) ∧ Le M1 M' ∧ M'[M1.length]? = some (.lst (rowB f i j)) ∧ (∀ x, x < j → (f i x).hasR = true), hw _ fun M' l => by simpa using seq_le l hr1, fun _ _ _ h => h.2.1, ⟨⟨x4, x5, by simp⟩, l2, by simp [rowB], fun x hx => by omega⟩, ?_, ?_⟩
      · rintro j hj τ M2 ⟨⟨x4, x5, rfl⟩, l3, a3, c3⟩
        simp at hj
        refine ⟨_, rfl, ?_⟩
        simp
        refine W_mono by_root_ok fun v M3 ⟨e3, l4⟩ => ?_
        by_cases hq : (f i j).hasR = true
        · rw [if_pos hq] at e3
          subst e3
          have e5 : ∀ M, dIsN (f i j).byR.D .non M = .ok (.bl false) M := fun _ => rfl
          simp [e5]
          refine W_app ((W_var (by rfl)).mpr ⟨_, rfl, ⟨_, by rw [seq_adr, l4.get a3]⟩, ?_⟩)
          simp
          refine ⟨_, l4.get a3, by simp [rowB]; omega, (l3.trans l4).set (Nat.le_refl _), ?_, ?_⟩
          · have := lt_of_get (l4.get a3)
            rw [List.getElem?_eq_getElem (by simpa using this)]
            simp [rowB, List.range_succ]
          · intro x hx
            rcases Nat.lt_or_ge x j with h | h
            · exact c3 x h
            · have : x = j := by omega
              subst this; exact hq
        · rw [if_neg hq] at e3
          subst e3
          have e5 : ∀ M, dIsN .non .non M = .ok (.bl true) M := fun _ => rfl
          simp [e5]
          have hf : ¬ allF m n Q.hasR f = true := fun h => hq (allF_iff.mp h i j hi hj)
          simp only [hf]
          exact ⟨by simp, (l1.trans l3).trans l4⟩
      · rintro τ M2 ⟨⟨x4, x5, rfl⟩, l3, a3, c3⟩
        have a4 := l3.get a1
        simp
        refine W_app ((W_var (by rfl)).mpr ⟨_, rfl, ⟨_, by rw [seq_adr, a4]⟩, ?_⟩)
        simp
        have e6 : bTuple [.adr M1.length] M2 = .ok (.tup (rowB f i n)) M2 := bTuple_s (by rw [seq_adr, a3]; simp)
        rw [e6]
        simp
        refine ⟨_, a4, by simp; omega, (l1.trans l3).set (Nat.le_refl _), ?_, ?_⟩
        · have := lt_of_get a4
          rw [List.getElem?_eq_getElem (by simpa using this)]
          simp [List.range_succ]
        · intro y x hy hx
          rcases Nat.lt_or_ge y i with h | h
          · exact c1 y x h hx
          · have : y = i := by omega
            subst this; exact c3 x (by simpa using hx)
    · rintro τ M1 ⟨⟨x2, x3, x4, x5, rfl⟩, l1, a1, c1⟩
      simp at a1 c1
      have hf : allF m n Q.hasR f = true := allF_iff.mpr c1
      simp [hf]
      exact ⟨⟨fun y => .tup (rowB f y n), by rw [seq_adr, a1], fun y hy => rfl⟩, l1⟩
theorem gen2_in {te : FE} {t1 : Tg} {τ1 : Mp.Env} {w : Wk} {xs : List D} {p : Nat → Bool} {M0 : Sto} {kk : Sto → Res D} {Q : D → Sto → Prop} (hw : Wo (Le M0) w xs) (step : ∀ i (h : i < xs.length) M, Le M0 M → ∃ τ2, t1.put xs[i] τ1 = some τ2 ∧ W (te τ2 M) fun y M2 => y = .bl (p i) ∧ Le M M2)
    (bad : ∀ i M, i < xs.length → p i = false → Le M0 M → Q (.bl false) M) (ok : ∀ M, (∀ i, i < xs.length → p i = true) → Le M0 M → W (kk M) Q) : ∀ k i M, i + k = xs.length → Le M0 M → (∀ j, j < i → p j = true) → W (genIn true w t1 τ1 yes te k i M kk) Q
  | 0, i, M, e, h, hp => by
    unfold genIn
    rw [if_pos (hw.fin M h)]
    exact ok M (fun j hj => hp j (by omega)) h
  | k + 1, i, M, e, h, hp => by
    have hi : i < xs.length := by omega
    obtain ⟨τ2, e1, q⟩ := step i hi M h
    unfold genIn
    rw [hw.it M h i hi]
    dsimp only
    rw [e1]
    dsimp only
    rw [W_inB]
    rw [W_yes, if_pos rfl, W_inB]
    refine W_mono q fun y M2 ⟨h1, h2⟩ => ?_
    subst h1
    dsimp only
    cases hpi : p i with
    | true =>
      rw [if_pos rfl]
      exact gen2_in hw step bad ok k (i + 1) M2 (by omega) (h.trans h2) fun j hj => by
        rcases Nat.lt_or_ge j i with h | h
        · exact hp j h
        · have : j = i := by omega
          subst this; exact hpi
    | false =>
      rw [if_neg (by decide)]
      rw [W_ok]
      exact bad i M2 hi hpi (h.trans h2)
theorem gen2_out {te : FE} {t t1 : Tg} {τ0 : Mp.Env} {wi1 : Ev Wk} {vs1 : List Nat} {w : Wk} {xs : List D} {q : Nat → Nat → Bool} {len : Nat → Nat} {M0 : Sto} {Q : D → Sto → Prop} (hw : Wo (Le M0) w xs)
    (step : ∀ i (h : i < xs.length) M, Le M0 M → ∃ τ1, t.put xs[i] τ0 = some τ1 ∧ W (wi1 τ1 M) fun w1 M1 => ∃ ys, Le M M1 ∧ Wo (Le M1) w1 ys ∧ ys.length = len i ∧ ys.length ≤ 16777216 ∧
      ∀ j (h : j < ys.length) M, Le M1 M → ∃ τ2, t1.put ys[j] (wipeE τ1 vs1) = some τ2 ∧ W (te τ2 M) fun y M2 => y = .bl (q i j) ∧ Le M M2)
    (bad : ∀ i j M, i < xs.length → j < len i → q i j = false → Le M0 M → Q (.bl false) M) (ok : ∀ M, (∀ i j, i < xs.length → j < len i → q i j = true) → Le M0 M → Q (.bl true) M) :
    ∀ k i M, i + k = xs.length → Le M0 M → (∀ i' j, i' < i → j < len i' → q i' j = true) → W (genOut true w t τ0 yes wi1 t1 vs1 yes te k i M) Q
  | 0, i, M, e, h, hp => by
    unfold genOut
    rw [if_pos (hw.fin M h), W_ok]
    exact ok M (fun i' j hi' => hp i' j (by omega)) h
  | k + 1, i, M, e, h, hp => by
    have hi : i < xs.length := by omega
    obtain ⟨τ1, e1, z⟩ := step i hi M h
    unfold genOut
    rw [hw.it M h i hi]
    dsimp only
    rw [e1]
    dsimp only
    rw [W_inB]
    rw [W_yes, if_pos rfl, W_inB]
    refine W_mono z fun w1 M1 ⟨ys, l1, hw1, hlen, hle, st⟩ => ?_
    rw [if_pos (by rw [hw1.n]; exact hle)]
    refine gen2_in (p := q i) hw1 st (fun j M2 hj hq l2 => bad i j M2 hi (hlen ▸ hj) hq ((h.trans l1).trans l2)) (fun M2 hq l2 => ?_) w1.n 0 M1 (by rw [hw1.n]; omega) Le.rfl (fun j hj => by omega)
    exact gen2_out hw step bad ok k (i + 1) M2 (by omega) ((h.trans l1).trans l2) fun i' j hi' hj => by
      rcases Nat.lt_or_ge i' i with h | h
      · exact hp i' j h hj
      · have : i' = i := by omega
        subst this; exact hq j (hlen ▸ hj)
theorem is_nought_rows_ok {d : D} {m n : Nat} {f : F} (hn : n < 16777216) (h : GridV M d m n f) : W (m_is_nought_rows CN [d] M) fun v M' => v = .bl (isNF m n f) ∧ Le M M' := by
  obtain ⟨g, hg, hr⟩ := h
  unfold m_is_nought_rows
  refine W_def ?_
  rw [WS_ret]
  unfold eGen2
  rw [W_bind]
  refine W_iVal ((W_var (by rfl)).mpr ⟨_, hg, fun w hw => ?_⟩)
  rw [if_pos (by decide)]
  have hw1 := hw (Le M) fun M' l => seq_le l hg
  refine gen2_out (q := fun i j => decide (f i j = q0)) (len := fun _ => n) hw1 (fun i hi M1 l1 => ⟨_, rfl, ?_⟩) (fun i j M1 hi hj hq l1 => ?_) (fun M1 hq l1 => ?_) w.n 0 M (by rw [hw1.n]; omega) Le.rfl (fun i j hi => by omega)
  · simp at hi
    have hr1 := (hr i hi).le l1
    refine W_iVal ((W_var (by rfl)).mpr ⟨_, by simpa [RowV] using hr1, fun w2 hw2 => ?_⟩)
    refine ⟨_, Le.rfl, hw2 _ fun M' l => by simpa using seq_le l hr1, by simp, by simp; omega, fun j hj M2 l2 => ⟨_, rfl, ?_⟩⟩
    simp [wipeE]
    have e : D.tup [D.int 0, D.int 0, D.int 0, D.int 0] = q0.D := rfl
    rw [e]
    simp
  · simp at hi
    refine ⟨?_, l1⟩
    have : ¬ isNF m n f = true := fun h => by
      have := isNF_iff.mp h i j hi hj
      simp [this] at hq
    simpa using this
  · simp at hq
    exact ⟨by rw [isNF_iff.mpr fun y x hy hx => hq y x hy hx], l1⟩
theorem is_table_no4 {d : D} (h : Kd M d) (h4 : isTn 4 d = false) : W (m_is_table CN [d] M) fun v M' => v = .bl false ∧ Le M M' := by
  unfold m_is_table
  refine W_def ?_
  simp
  refine W_mono (is_tuple_of_ok h) fun v M' ⟨e, l⟩ => ?_
  subst e
  simp [h4, truD, l]
/-- of a table, of rows -/
theorem isEx_q (q : Q) : isEx q.D = true := by simp [isEx, Q.D, isI]
theorem isRow_D {k : Nat} {f : Nat → Q} : isRow k (rowD (2 ^ k) f) = true := by simp [isRow, rowD, isEx_q]
theorem isRows_D {o i : Nat} {f : F} : isRows o i (gridD (2 ^ o) (2 ^ i) f) = true := by simp [isRows, gridD, isRow_D]
/-- of a quadruple -/
theorem is_table_4 {o i p r : D} (ho : Kd M o) (hi : Kd M i) (hp : Kd M p) (hr : Kd3 M r) (hx : ∀ a b, isN o = true → isN i = true → isN p = true → o = .int (a : Nat) → i = .int (b : Nat) → isRows a b r = true → p = .int 0 ∨ ∃ q : Int, p = .int q ∧ 0 < q ∧ ∃ m n f, m < 16777216 ∧ n < 16777216 ∧ GridV M r m n f ∧ allF m n Q.hasR f = true) :
    W (m_is_table CN [.tup [o, i, p, r]] M) fun v M' => v = .bl (isN o && isN i && isN p && (match o, i with
      | .int a, .int b => isRows a.toNat b.toNat r
      | _, _ => false) && (match p with
      | .int q => decide (q = 0)
      | _ => false)) ∧ Le M M' := by
  have hg : ∀ {x : D}, isN x = true → ∃ a : Nat, x = .int a := fun {x} h => by
    cases x with
    | int j => simp [isN] at h; exact ⟨j.toNat, by rw [Int.toNat_of_nonneg h]⟩
    | _ => cases h
  unfold m_is_table
  refine W_def ?_
  simp
  refine W_mono (is_tuple_of_ok (d := .tup [o, i, p, r]) trivial) fun v M' ⟨e, l⟩ => ?_
  subst e
  simp [isTn, truD, WS_set, Tg.put, Tg.puts]
  refine W_mono (is_number_ok (ho.le l)) fun v M1 ⟨e, l1⟩ => ?_
  subst e
  cases h1 : isN o with
  | false => simp [truD]; exact l.trans l1
  | true =>
    simp [truD]
    refine W_mono (is_number_ok (hi.le (l.trans l1))) fun v M2 ⟨e, l2⟩ => ?_
    subst e
    cases h2 : isN i with
    | false => simp [truD]; exact (l.trans l1).trans l2
    | true =>
      simp [truD]
      refine W_mono (is_number_ok (hp.le ((l.trans l1).trans l2))) fun v M3 ⟨e, l3⟩ => ?_
      subst e
      cases h3 : isN p with
      | false => simp [truD]; exact ((l.trans l1).trans l2).trans l3
      | true =>
        obtain ⟨a, rfl⟩ := hg h1
        obtain ⟨b, rfl⟩ := hg h2
        obtain ⟨q, rfl⟩ := hg h3
        have l4 := ((l.trans l1).trans l2).trans l3
        simp [truD]
        refine W_mono (is_rows_ok (hr.le l4)) fun v M4 ⟨e, l5⟩ => ?_
        subst e
        cases h5 : isRows a b r with
        | false => simp [truD]; exact l4.trans l5
        | true =>
          by_cases hq : q = 0
          · subst hq; simp [truD]; exact l4.trans l5
          · rcases hx a b h1 h2 h3 rfl rfl h5 with z | ⟨q2, z, hq2, m, n, f, hm, hn, hgr, hf⟩
            · cases z; exact absurd rfl hq
            · simp [truD, hq]
              refine W_mono (rows_by_root_ok hm hn (hgr.le (l4.trans l5))) fun v M5 ⟨e, l6⟩ => ?_
              rw [if_pos hf] at e
              obtain ⟨_, a2, rfl, _⟩ := e
              have e5 : ∀ M, dIsN (.adr a2) .non M = .ok (.bl false) M := fun _ => rfl
              simp [e5]
              exact (l4.trans l5).trans l6
theorem kd_q (q : Q) : Kd1 M q.D := ⟨trivial, fun ds e => by
  simp only [Q.D, D.tup.injEq] at e
  subst e
  exact ⟨by simp, by simp [Kd]⟩⟩
theorem kd_row {n : Nat} {f : Nat → Q} (hn : n < 16777216) : Kd2 M (rowD n f) := ⟨trivial, fun ds e => by
  simp only [rowD, D.tup.injEq] at e
  subst e
  exact ⟨by simp; omega, fun x hx => by
    obtain ⟨j, _, rfl⟩ := List.mem_map.mp hx
    exact kd_q _⟩⟩
theorem kd_grid {m n : Nat} {f : F} (hm : m < 16777216) (hn : n < 16777216) : Kd3 M (gridD m n f) := ⟨trivial, fun ds e => by
  simp only [gridD, D.tup.injEq] at e
  subst e
  exact ⟨by simp; omega, fun x hx => by
    obtain ⟨j, _, rfl⟩ := List.mem_map.mp hx
    exact kd_row hn⟩⟩
theorem pow_sm {o : Nat} (h : o ≤ 12) : 2 ^ o < 16777216 := Nat.lt_of_le_of_lt (Nat.pow_le_pow_right (by decide) h) (by decide)
/-- a table in its one form -/
theorem is_table_t {o i p : Nat} {f : F} (ho : o ≤ 12) (hi : i ≤ 12) (h : p = 0 ∨ allF (2 ^ o) (2 ^ i) Q.hasR f = false) : W (m_is_table CN [tabD o i p f] M) fun v M' => v = .bl true ∧ Le M M' := by
  unfold m_is_table tabD
  refine W_def ?_
  simp
  refine W_mono (is_tuple_of_ok (d := .tup [.int o, .int i, .int p, _]) trivial) fun v M' ⟨e, l⟩ => ?_
  subst e
  simp [isTn, truD, WS_set, Tg.put, Tg.puts]
  refine W_mono (is_number_ok (d := .int o) trivial) fun v M1 ⟨e, l1⟩ => ?_
  subst e
  simp [isN, truD]
  refine W_mono (is_number_ok (d := .int i) trivial) fun v M2 ⟨e, l2⟩ => ?_
  subst e
  simp [isN, truD]
  refine W_mono (is_number_ok (d := .int p) trivial) fun v M3 ⟨e, l3⟩ => ?_
  subst e
  simp [isN, truD]
  refine W_mono (is_rows_ok (kd_grid (pow_sm ho) (pow_sm hi))) fun v M4 ⟨e, l4⟩ => ?_
  subst e
  have l5 := (((l.trans l1).trans l2).trans l3).trans l4
  rw [isRows_D]
  simp [truD]
  by_cases hp : p = 0
  · simp [hp]; exact l5
  · simp [hp]
    refine W_mono (rows_by_root_ok (pow_sm ho) (pow_sm hi) gridV_D) fun v M5 ⟨e, l6⟩ => ?_
    rcases h with h | h
    · exact absurd h hp
    · rw [h] at e
      simp at e
      subst e
      have e5 : ∀ M, dIsN .non .non M = .ok (.bl true) M := fun _ => rfl
      simp [e5]
      exact l5.trans l6
theorem one_form_loop {p m n : Nat} {f : F} {d x y : D} {x4 x5 x6 : Option D} {C : Cs} (hm : m < 16777216) (hn : n < 16777216) (hp : p < 100000) (h : GridV M d m n f) (hC : ∀ dd x4 M', Le M M' → GridV M' dd m n (formF m n p f).2 → C.nx [some x, some y, some (.int (formF m n p f).1), some dd, x4, x5, x6] M') :
    WS (sWhile 1000000 (eTB (eOp dGt (eVar 2) (eCon (.int 0)))) (sSeq (sSet (.nm 4) (eCall (lenF 1 (m_rows_by_root CN)) (aCons (eVar 3) (aNil)))) (sSeq (sIf (eTB (eOp dIsN (eVar 4) (eCon .non))) (sBrk) (sNil)) (sSeq (sSet (.nm 3) (eVar 4)) (sAug 2 dSub (eCon (.int 1)))))) [some x, some y, some (.int p), some d, x4, x5, x6] M) C := by
  generalize hr : formF m n p f = r at hC
  refine WS_while (fun k τ M' => ∃ (q : Nat) (g : F) (dd : D) (x4 : Option D), τ = [some x, some y, some (.int q), some dd, x4, x5, x6] ∧ q = k ∧ formF m n q g = r ∧ GridV M' dd m n g ∧ Le M M') (fun k τ M2 => ?_) 1000000 p _ M (by omega) ⟨p, f, d, x4, rfl, rfl, hr, h, Le.rfl⟩
  rintro ⟨q, g, dd, x4, rfl, rfl, hq, hg2, l2⟩
  by_cases hq0 : q = 0
  · subst hq0
    have hq' : (0, g) = r := by simpa [formF] using hq
    subst hq'
    simp
    exact hC dd x4 M2 l2 hg2
  · have hq2 : (0 : Int) < (q : Int) := by omega
    simp only [W_tb, W_op, W_con]
    rw [W_var (by rfl)]
    simp only [dGt_i, hq2, W_ok]
    refine ⟨_, rfl, ?_⟩
    simp only [decide_true, if_true]
    rw [WS_seq, WS_setN, W_call, W_cons, W_var (by rfl)]
    simp only [W_nil]
    rw [W_lenF (by rfl)]
    refine W_mono (rows_by_root_ok hm hn hg2) fun v M3 ⟨e, l3⟩ => ?_
    cases hf : allF m n Q.hasR g with
    | false =>
      rw [hf] at e
      simp at e
      subst e
      have e5 : ∀ M, dIsN .non .non M = .ok (.bl true) M := fun _ => rfl
      rw [formF_id (.inr hf)] at hq
      subst hq
      simp [e5]
      exact hC dd _ M3 (l2.trans l3) (hg2.le l3)
    | true =>
      rw [hf] at e
      simp only [if_true] at e
      obtain ⟨e, a, rfl, ha⟩ := e
      have e5 : ∀ M, dIsN (.adr a) .non M = .ok (.bl false) M := fun _ => rfl
      obtain ⟨q', rfl⟩ : ∃ q', q = q' + 1 := ⟨q - 1, by omega⟩
      simp [e5]
      rw [WS_aug (x := .int ((q' + 1 : Nat) : Int)) (by simp)]
      simp
      refine ⟨q', by omega, q', fun y x => (g y x).byR, .adr a, ⟨by omega, rfl⟩, rfl, ?_, e, l2.trans l3⟩
      simpa [formF, hf] using hq
theorem oneF_eq {m n p : Nat} {f : F} : oneF m n p f = formF m n (if 0 < p ∧ isNF m n f = true then 0 else p) f := by
  unfold oneF; split <;> rfl
theorem one_form_ok {p : Nat} {m n : Nat} {f : F} {d x y : D} (hm : m < 16777216) (hn : n < 16777216) (hp : p < 100000) (h : GridV M d m n f) : W (m_one_form CN [x, y, .int p, d] M) fun v M' => v = .tup [x, y, .int (oneF m n p f).1, gridD m n (oneF m n p f).2] ∧ Le M M' := by
  rw [oneF_eq]
  unfold m_one_form
  refine W_def ?_
  rw [WS_seq]
  have key : ∀ (p : Nat) (M1 : Sto), p < 100000 → Le M M1 → GridV M1 d m n f → WS ((sSeq (sWhile 1000000 (eTB (eOp dGt (eVar 2) (eCon (.int 0)))) (sSeq (sSet (.nm 4) (eCall (lenF 1 (m_rows_by_root CN)) (aCons (eVar 3) (aNil)))) (sSeq (sIf (eTB (eOp dIsN (eVar 4) (eCon .non))) (sBrk) (sNil)) (sSeq (sSet (.nm 3) (eVar 4)) (sAug 2 dSub (eCon (.int 1))))))) (sSeq (sIf (eTB (eOp dLt (eVar 2) (eCon (.int 0)))) (sSeq (sSet (.nm 3) (eLc (iVal (eVar 3)) (.nm 5) (yes) (eLc (iVal (eVar 5)) (.nm 6) (yes) (eCall (lenF 2 (m_times_roots CN)) (aCons (eVar 6) (aCons (eUn dNeg (eVar 2)) (aNil)))) [6]) [5])) (sSet (.nm 2) (eCon (.int 0)))) (sNil)) (sRet (eTup (aCons (eVar 0) (aCons (eVar 1) (aCons (eVar 2) (aCons (eGenT (iVal (eVar 3)) (.nm 5) (yes) (eCall bTuple (aCons (eVar 5) (aNil))) [5]) (aNil))))))))) [some x, some y, some (.int p), some d, none, none, none] M1)
      ⟨fun _ M' => D.non = .tup [x, y, .int (formF m n p f).1, gridD m n (formF m n p f).2] ∧ Le M M', fun _ _ => False, fun v M' => v = .tup [x, y, .int (formF m n p f).1, gridD m n (formF m n p f).2] ∧ Le M M'⟩ := by
    intro p M1 hp l0 hg
    rw [WS_seq]
    refine one_form_loop hm hn hp hg fun dd x4 M2 l2 hg2 => ?_
    generalize formF m n p f = r at hg2
    obtain ⟨q, g⟩ := r
    have hq0 : ¬ ((q : Int) < 0) := by omega
    obtain ⟨gg, hgg, hrr⟩ := hg2
    simp [hq0]
    refine W_genT (by rfl) (W_iVal ((W_var (by rfl)).mpr ⟨_, hgg, fun w hw => ⟨_, fun j => rowD n (g j), hw _ fun M' l => seq_le l hgg, by simp; omega, fun j hj M4 l4 => ⟨_, rfl, ?_⟩, fun M4 l4 => ?_⟩⟩))
    · simp at hj
      have := (hrr j hj).le l4
      simp [wipeE]
      rw [bTuple_v this, W_ok]
      exact ⟨rfl, Le.rfl⟩
    · simp [gridD]
      exact (l0.trans l2).trans l4
  rw [WS_if, W_andT, W_tb, W_op, W_var (by rfl)]
  simp only [W_con, dGt_i, W_ok]
  by_cases hp0 : p = 0
  · subst hp0
    refine ⟨false, by simp, ?_⟩
    simp only [Bool.false_eq_true, if_false, Nat.lt_irrefl, false_and]
    rw [WS_nil]
    exact key 0 M (by omega) Le.rfl h
  · have hp1 : 0 < p := by omega
    refine ⟨true, by simp [hp1], ?_⟩
    simp only [if_true, W_tst, W_call, W_cons, W_nil]
    rw [W_var (by rfl), W_lenF (by rfl)]
    refine W_mono (is_nought_rows_ok hn h) fun v M1 ⟨e, l1⟩ => ?_
    subst e
    refine ⟨isNF m n f, rfl, ?_⟩
    cases hz : isNF m n f with
    | true =>
      simp only [if_true, WS_setN, W_con, hp1, and_self]
      try dsimp only
      exact key 0 M1 (by omega) l1 (h.le l1)
    | false =>
      simp only [Bool.false_eq_true, if_false, and_false, WS_nil]
      try dsimp only
      exact key p M1 hp l1 (h.le l1)
end
end Kp

set_option Elab.async false
set_option linter.all false
set_option maxRecDepth 100000
set_option maxHeartbeats 4000000
/-! Kp6: grids in the making; chained, mirrored, added, side_by_side -/
namespace Kp
open PySem PySem.Spec PyProof.Rows L2 Mp K29
open Kq (Le Gr Wo Cs lt_of_get seq_le seq_gr seq_adr wo_tup wo_lst startD_eq)
section
variable {CN : Str → Addr} {M : Sto}
/-- rows gathered in the list at L -/
def GridL (M : Sto) (L cnt n : Nat) (f : F) : Prop := ∃ ys, M[L]? = some (.lst ys) ∧ ys.length = cnt ∧ ∀ j, j < cnt → RowV M (ys.getD j .non) n (f j) ∧ ys.getD j .non ≠ .adr L
theorem GridL.le {L cnt n : Nat} {f : F} {M' : Sto} (h : GridL M L cnt n f) (l : Le M M') : GridL M' L cnt n f := by
  obtain ⟨ys, h1, h2, h3⟩ := h
  exact ⟨ys, l.get h1, h2, fun j hj => ⟨(h3 j hj).1.le l, (h3 j hj).2⟩⟩
theorem GridL.push {L cnt n : Nat} {f : F} {y : D} {ys : List D} (h : GridL M L cnt n f) (e : M[L]? = some (.lst ys)) (hy : RowV M y n (f cnt)) (ne : y ≠ .adr L) : GridL (M.set L (.lst (ys ++ [y]))) L (cnt + 1) n f := by
  obtain ⟨ys', h1, h2, h3⟩ := h
  rw [e] at h1
  cases h1
  refine ⟨ys ++ [y], get_set (lt_of_get e), by simp [h2], fun j hj => ?_⟩
  rcases Nat.lt_or_ge j cnt with h | h
  · have e2 : (ys ++ [y]).getD j .non = ys.getD j .non := by simp [List.getElem?_append_left (show j < ys.length by omega)]
    rw [e2]
    exact ⟨seq_gr Gr.set (h3 j h).2 (h3 j h).1, (h3 j h).2⟩
  · have : j = cnt := by omega
    subst this
    have e2 : (ys ++ [y]).getD j .non = y := by rw [← h2]; simp
    rw [e2]
    exact ⟨seq_gr Gr.set ne hy, ne⟩
theorem GridL.grid {L cnt n : Nat} {f : F} (h : GridL M L cnt n f) : GridV M (.adr L) cnt n f := by
  obtain ⟨ys, h1, h2, h3⟩ := h
  refine ⟨fun j => ys.getD j .non, ?_, fun y hy => (h3 y hy).1⟩
  rw [seq_adr, h1]
  show some ys = _
  congr 1
  apply List.ext_getElem
  · simp [h2]
  · intro i hi _; simp [hi]
theorem gridL_nil {n : Nat} {f : F} {L : Nat} (h : M[L]? = some (.lst [])) : GridL M L 0 n f := ⟨[], h, rfl, fun j hj => by omega⟩
/-- a comprehension whose items are rows -/
theorem W_lcRows {τ : Mp.Env} {t : Tg} {wi : Ev Wk} {te : FE} {vs : List Nat} {Q : D → Sto → Prop} (ht : t.inn vs = true) : (W (wi τ M) fun w M1 => ∃ (xs : List D) (n : Nat) (f : F), Wo (Le M1) w xs ∧ xs.length ≤ 16777216 ∧
    (∀ i (h : i < xs.length) M, Le M1 M → M1.length < M.length → ∃ τ1, t.put xs[i] (wipeE τ vs) = some τ1 ∧ W (te τ1 M) fun y M2 => RowV M2 y n (f i) ∧ (∀ a, y = .adr a → M.length ≤ a) ∧ Le M M2) ∧
    (∀ M', Le M1 M' → GridV M' (.adr M1.length) xs.length n f → Q (.adr M1.length) M')) → W (eLc wi t yes te vs τ M) Q := by
  intro h
  refine W_lc ht (W_mono h fun w M1 ⟨xs, n, f, hw, hl, step, done⟩ => ⟨xs, Le M1, fun i ys M => GridL M M1.length i n f ∧ Le M1 M, hw, hl, fun _ _ _ h => h.2, ⟨gridL_nil get_app, Le.app⟩, fun i hi ys M2 l hn ⟨e, le⟩ => ?_, fun ys M l hn ⟨e, le⟩ => done M le e.grid⟩)
  obtain ⟨τ1, e1, q⟩ := step i hi M2 le (lt_of_get hn)
  refine ⟨τ1, e1, W_mono q fun y M3 ⟨ey, hf, l2⟩ => ⟨l2.get hn, (e.le l2).push (l2.get hn) ey fun z => ?_, (le.trans l2).set (Nat.le_refl _)⟩⟩
  have := hf _ z
  have := lt_of_get hn
  omega
/-! sums -/
def sumQ : Nat → (Nat → Q) → Q
  | 0, _ => q0
  | k + 1, h => (sumQ k h).add (h k)
theorem sumQ_bd {B : Int} {h : Nat → Q} : ∀ {k : Nat}, (∀ m, m < k → (h m).Bd B) → (sumQ k h).Bd (k * B + 1)
  | 0, _ => by simp [sumQ, Q.Bd, q0]
  | k + 1, hb => by
    have := add_bd (sumQ_bd (k := k) fun m hm => hb m (by omega)) (hb k (by omega))
    refine bd_mono this ?_
    rw [show ((k + 1 : Nat) : Int) = (k : Int) + 1 by simp, Int.add_mul]; omega
theorem sumQ_mir {h : Nat → Q} : ∀ (k : Nat), (sumQ k h).mir = sumQ k fun m => (h m).mir
  | 0 => show q0.mir = q0 by decide
  | k + 1 => by simp only [sumQ, mir_add, sumQ_mir k]
theorem sumQ_congr {h g : Nat → Q} : ∀ (k : Nat), (∀ m, m < k → h m = g m) → sumQ k h = sumQ k g
  | 0, _ => rfl
  | k + 1, e => by simp only [sumQ]; rw [sumQ_congr k fun m hm => e m (by omega), e k (by omega)]
theorem q0_mul (x : Q) : q0.mul x = q0 := by ext <;> simp [q0, Q.mul]
theorem add_q0 (x : Q) : x.add q0 = x := by ext <;> simp [q0, Q.add]
theorem bd_Sm {x : Q} {B : Int} (h : x.Bd B) (l : B ≤ 2 ^ 3000) : x.Sm := by
  obtain ⟨h1, h2, h3, h4⟩ := h
  generalize hB : (2 : Int) ^ 3000 = C at l
  refine ⟨?_, ?_, ?_, ?_⟩ <;> (unfold Kp.Sm; rw [hB]; omega)
/-- of chained tables -/
def chF (k : Nat) (f g : F) : F := fun y x => sumQ k fun m => (g y m).mul (f m x)
theorem dIx_g0 {m n : Nat} {f : F} (h : 0 < m) : dIx (gridD m n f) (.int 0) M = .ok (rowD n (f 0)) M := dIx_g (y := 0) h
theorem bLen_r {n : Nat} {f : Nat → Q} : bLen [rowD n f] M = .ok (.int n) M := by unfold rowD; rw [bLen_t]; simp
theorem bLen_g {m n : Nat} {f : F} : bLen [gridD m n f] M = .ok (.int m) M := by unfold gridD; rw [bLen_t]; simp
theorem dMul_L {a k : Nat} {xs : List D} (h : M[a]? = some (.lst xs)) (hk : k < 2 ^ 60) (hl : xs.length * k ≤ 16777216) : dMul (.adr a) (.int k) M = .ok (.adr M.length) (M ++ [.lst (List.replicate k xs).flatten]) := by
  unfold dMul
  simp only [h, Int.toNat_natCast]
  rw [if_pos ⟨by omega, by omega, hl⟩]
theorem rep_one {k : Nat} {d : D} : (List.replicate k [d]).flatten = (List.range k).map fun _ => d := by
  induction k with
  | zero => rfl
  | succ k ih => rw [List.replicate_succ, List.flatten_cons, ih, List.range_succ_eq_map]; simp [Function.comp_def]
theorem chained_row_ok {k n : Nat} {f g : F} {y : Nat} (hk0 : 0 < k) (hk : k < 16777216) (hn : n < 16777216) (hf : ∀ m x, m < k → x < n → (f m x).Sm) (hg : ∀ m, m < k → (g y m).Sm) : W (m_chained_row CN [rowD k (g y), gridD k n f] M) fun v M' => (RowV M' v n (chF k f g y) ∧ ∃ a, v = .adr a ∧ M.length ≤ a) ∧ Le M M' := by
  unfold m_chained_row
  refine W_defX (P := fun v M' => RowV M' v n (chF k f g y) ∧ ∃ a, v = .adr a ∧ M.length ≤ a) (fun v M' hl hp => ?_) ?_
  · obtain ⟨_, a, rfl, ha⟩ := hp
    simp [D.low] at hl; omega
  · rw [WS_seq, WS_setN]
    simp
    rw [dIx_g0 hk0]
    simp
    rw [bLen_r]
    simp
    rw [dMul_L (a := M.length) (xs := [.tup [.int 0, .int 0, .int 0, .int 0]]) (by simp) (by omega) (by simp; omega), rep_one]
    simp
    have l0 : Le M (M ++ [MO.lst [.tup [.int 0, .int 0, .int 0, .int 0]], MO.lst ((List.range n).map fun _ => .tup [.int 0, .int 0, .int 0, .int 0])]) := Le.app
    refine WS_for (W_iZip ((W_var (by rfl)).mpr ((W_var (by rfl)).mpr ⟨_, _, rfl, rfl, fun w hw => ?_⟩)))
    refine ⟨_, Le M, fun i τ M' => (∃ a x3 x4, τ = [some (rowD k (g y)), some (gridD k n f), some (.adr a), x3, x4, none, none] ∧ RowV M' (.adr a) n (fun x => sumQ i fun m => (g y m).mul (f m x)) ∧ M.length ≤ a) ∧ Le M M', hw _ fun M' l => ⟨rfl, rfl⟩, fun _ _ _ h => h.2, ⟨⟨_, _, _, rfl, ?_, by omega⟩, l0⟩, ?_, ?_⟩
    · unfold RowV
      rw [seq_adr]
      simp [sumQ, q0, Q.D]
    · rintro i hi τ M1 ⟨⟨a, x3, x4, rfl, hr, ha⟩, l1⟩
      simp [rowD, gridD] at hi
      refine ⟨[some (rowD k (g y)), some (gridD k n f), some (.adr a), some (g y i).D, some (rowD n (f i)), none, none], by simp [rowD, gridD, Tg.put, Tg.puts], ?_⟩
      have eq : D.tup [.int 0, .int 0, .int 0, .int 0] = q0.D := rfl
      by_cases hz : g y i = q0
      · simp [eq, hz]
        refine ⟨?_, l1⟩
        refine ⟨?_, ha⟩
        simpa [sumQ, hz, q0_mul, add_q0] using hr
      · simp [eq, hz]
        refine W_lcR (by rfl) (W_iZip ((W_var (by rfl)).mpr ((W_var (by rfl)).mpr ⟨_, _, hr, rfl, fun w hw => ?_⟩)))
        refine ⟨_, fun x => (sumQ (i + 1) fun m => (g y m).mul (f m x)).D, hw _ fun M' l => ⟨seq_le l hr, rfl⟩, by simp [rowD]; omega, fun x hx M2 l2 => ?_, fun M2 l2 hM2 => ?_⟩
        · simp [rowD] at hx
          refine ⟨_, by simp [rowD, Tg.put, Tg.puts]; rfl, ?_⟩
          simp [wipeE]
          refine W_mono (exact_product_ok (hg i (by omega)) (hf i x (by omega) hx)) fun v M3 ⟨e3, l3⟩ => ?_
          subst e3
          refine W_mono exact_sum_ok fun v M4 ⟨e4, l4⟩ => ?_
          exact ⟨e4, l3.trans l4⟩
        · refine ⟨⟨_, rfl, ?_, by have := l1.1; omega⟩, l1.trans l2⟩
          unfold RowV
          rw [seq_adr, hM2]
          simp [rowD]
    · rintro τ M1 ⟨⟨a, x3, x4, rfl, hr, ha⟩, l1⟩
      simp [rowD, gridD] at hr
      simp
      exact ⟨⟨hr, ha⟩, l1⟩
end
end Kp

set_option Elab.async false
set_option linter.all false
set_option maxRecDepth 100000
set_option maxHeartbeats 4000000
/-! Kp7: chained, mirrored, added -/
namespace Kp
open PySem PySem.Spec PyProof.Rows L2 Mp K29
open Kq (Le Gr Wo Cs lt_of_get seq_le seq_gr seq_adr wo_tup wo_lst startD_eq)
section
variable {CN : Str → Addr} {M : Sto}
/-- a table of a script: small, in its one form -/
structure Tok (B : Int) (o i p : Nat) (f : F) : Prop where
  ho : o ≤ 12
  hi : i ≤ 12
  hp : p ≤ 1000
  free : p = 0 ∨ allF (2 ^ o) (2 ^ i) Q.hasR f = false
  bd : ∀ y x, y < 2 ^ o → x < 2 ^ i → (f y x).Bd B
theorem tabD_seq {o i p : Nat} {f : F} : tabD o i p f = .tup [.int o, .int i, .int p, gridD (2 ^ o) (2 ^ i) f] := rfl
theorem W_ix0 {τ : Mp.Env} {j o i p : Nat} {f : F} {Q : D → Sto → Prop} (h : τ[j]? = some (some (tabD o i p f))) : W (eOp dIx (eVar j) (eCon (.int 0)) τ M) Q ↔ Q (.int o) M := by
  rw [W_op, W_var h, W_con, show dIx (tabD o i p f) (.int 0) M = _ from dIx_t0 .., W_ok]
theorem W_ix1 {τ : Mp.Env} {j o i p : Nat} {f : F} {Q : D → Sto → Prop} (h : τ[j]? = some (some (tabD o i p f))) : W (eOp dIx (eVar j) (eCon (.int 1)) τ M) Q ↔ Q (.int i) M := by
  rw [W_op, W_var h, W_con, show dIx (tabD o i p f) (.int 1) M = _ from dIx_t1 .., W_ok]
theorem W_ix2 {τ : Mp.Env} {j o i p : Nat} {f : F} {Q : D → Sto → Prop} (h : τ[j]? = some (some (tabD o i p f))) : W (eOp dIx (eVar j) (eCon (.int 2)) τ M) Q ↔ Q (.int p) M := by
  rw [W_op, W_var h, W_con, show dIx (tabD o i p f) (.int 2) M = _ from dIx_t2 .., W_ok]
theorem W_ix3 {τ : Mp.Env} {j o i p : Nat} {f : F} {Q : D → Sto → Prop} (h : τ[j]? = some (some (tabD o i p f))) : W (eOp dIx (eVar j) (eCon (.int 3)) τ M) Q ↔ Q (gridD (2 ^ o) (2 ^ i) f) M := by
  rw [W_op, W_var h, W_con, show dIx (tabD o i p f) (.int 3) M = _ from dIx_t3 .., W_ok]
theorem pow_pos' (o : Nat) : 0 < 2 ^ o := Nat.pos_of_ne_zero (by simp)
theorem chained_ok {a b c p q : Nat} {f g : F} {B : Int} (hf : Tok B b a p f) (hg : Tok B c b q g) (hB : B ≤ 2 ^ 3000) : W (m_chained CN [tabD b a p f, tabD c b q g] M) fun v M' => v = tabD c a (oneF (2 ^ c) (2 ^ a) (p + q) (chF (2 ^ b) f g)).1 (oneF (2 ^ c) (2 ^ a) (p + q) (chF (2 ^ b) f g)).2 ∧ Le M M' := by
  unfold m_chained
  refine W_def ?_
  rw [WS_seq, WS_exp]
  simp
  refine W_mono (is_table_t hg.ho hg.hi hg.free) fun v M1 ⟨e, l1⟩ => ?_
  subst e
  simp [tabD_seq]
  refine W_mono need_t fun v M2 ⟨e, l2⟩ => ?_
  refine W_lcRows (by rfl) (W_iVal ((W_ix3 (by rfl)).mpr ?_))
  refine ⟨_, rfl, fun w hw => ⟨_, 2 ^ a, chF (2 ^ b) f g, hw _ fun M' l => rfl, by simp; have := pow_sm hg.ho; omega, fun y hy M3 l3 _ => ⟨_, rfl, ?_⟩, fun M3 l3 hr => ?_⟩⟩
  · simp at hy
    simp [wipeE]
    refine W_mono (chained_row_ok (pow_pos' _) (pow_sm hg.hi) (pow_sm hf.hi) (fun m x hm hx => bd_Sm (hf.bd m x hm hx) hB) (fun m hm => bd_Sm (hg.bd y m hy hm) hB)) fun v M4 ⟨⟨h1, a, e, ha⟩, l4⟩ => ?_
    subst e
    exact ⟨h1, fun a' e => by cases e; exact ha, l4⟩
  · have e : ((p : Int) + (q : Int)) = ((p + q : Nat) : Int) := by simp
    simp at hr
    rw [e]
    have := hf.hp; have := hg.hp
    refine W_mono (one_form_ok (pow_sm hg.ho) (pow_sm hf.hi) (by omega) hr) fun v M4 ⟨e4, l4⟩ => ?_
    exact ⟨e4, ((l1.trans l2).trans l3).trans l4⟩
theorem mirrored_ok {o i p : Nat} {f : F} (ho : o ≤ 12) (hi : i ≤ 12) (hp : p < 100000) : W (m_mirrored CN [tabD o i p f] M) fun v M' => v = tabD i o (oneF (2 ^ i) (2 ^ o) p (mirF f)).1 (oneF (2 ^ i) (2 ^ o) p (mirF f)).2 ∧ Le M M' := by
  unfold m_mirrored
  refine W_def ?_
  simp [WS_set, tabD_seq, Tg.put, Tg.puts]
  refine W_lcRows (by rfl) (W_iR1 ?_)
  have es : ∀ M : Sto, dShl (.int 1) (.int i) M = .ok (.int (1 * 2 ^ i)) M := fun M => dShl_i (by decide +kernel) (by omega)
  rw [W_op, W_con, W_var (by rfl), es, W_ok]
  refine ⟨2 ^ i, by simp, by have := pow_sm hi; omega, fun w hw => ⟨_, 2 ^ o, mirF f, hw _, by simp; have := pow_sm hi; omega, fun x hx M1 l1 _ => ⟨_, rfl, ?_⟩, fun M1 l1 hr => ?_⟩⟩
  · simp at hx
    simp [wipeE]
    refine W_lcR (by rfl) (W_iVal ((W_var (by rfl)).mpr ⟨_, rfl, fun w2 hw2 => ⟨_, fun y => (mirF f x y).D, hw2 _ fun M' l => rfl, by simp; have := pow_sm ho; omega, fun y hy M2 l2 => ⟨_, rfl, ?_⟩, fun M2 l2 h2 => ?_⟩⟩))
    · simp at hy
      simp [wipeE]
      rw [dIx_r hx]
      simp
      exact mirror_of_ok
    · refine ⟨?_, fun a e => by cases e; exact Nat.le_refl _, l2⟩
      unfold RowV
      rw [seq_adr, h2]
      simp
  · simp at hr
    refine W_mono (one_form_ok (pow_sm hi) (pow_sm ho) hp hr) fun v M4 ⟨e4, l4⟩ => ?_
    exact ⟨e4, l1.trans l4⟩
theorem rows_over_ok {o i p P : Nat} {f : F} {B : Int} (h : Tok B o i p f) (hP : p ≤ P) (hP2 : P ≤ 1000) (hB : B * 2 ^ 1000 ≤ 2 ^ 3000) (hB0 : 0 ≤ B) : W (m_rows_over CN [tabD o i p f, .int P] M) fun v M' => (GridV M' v (2 ^ o) (2 ^ i) (fun y x => rp (P - p) (f y x)) ∧ ∃ a, v = .adr a ∧ M.length ≤ a) ∧ Le M M' := by
  unfold m_rows_over
  refine W_defX (P := fun v M' => GridV M' v (2 ^ o) (2 ^ i) (fun y x => rp (P - p) (f y x)) ∧ ∃ a, v = .adr a ∧ M.length ≤ a) (fun v M' hl hp => ?_) ?_
  · obtain ⟨_, a, rfl, ha⟩ := hp
    simp [D.low] at hl; omega
  · simp [tabD_seq]
    refine W_lcRows (by rfl) (W_iVal ((W_ix3 (by rfl)).mpr ?_))
    refine ⟨_, rfl, fun w hw => ⟨_, 2 ^ i, fun y x => rp (P - p) (f y x), hw _ fun M' l => rfl, by simp; have := pow_sm h.ho; omega, fun y hy M1 l1 _ => ⟨_, rfl, ?_⟩, fun M1 l1 hr => ?_⟩⟩
    · simp at hy
      simp [wipeE]
      refine W_lcR (by rfl) (W_iVal ((W_var (by rfl)).mpr ⟨_, rfl, fun w2 hw2 => ⟨_, fun x => (rp (P - p) (f y x)).D, hw2 _ fun M' l => rfl, by simp; have := pow_sm h.hi; omega, fun x hx M2 l2 => ⟨_, rfl, ?_⟩, fun M2 l2 h2 => ?_⟩⟩))
      · simp at hx
        simp [wipeE]
        have e : ((P : Int) - (p : Int)) = ((P - p : Nat) : Int) := by omega
        rw [e]
        have hb := h.bd y x hy hx
        refine times_roots_ok (by omega) (bd_Sm hb ?_) ?_
        · have : (1 : Int) ≤ 2 ^ 1000 := by decide +kernel
          have := Int.mul_le_mul_of_nonneg_left this hB0
          omega
        · have k2 : (P - p) / 2 ≤ 1000 := by omega
          generalize (P - p) / 2 = j at k2
          refine bd_Sm (B := B * 2 ^ j) ?_ (Int.le_trans (Int.mul_le_mul_of_nonneg_left ?_ hB0) hB)
          · have h2 : (0 : Int) < 2 ^ j := Int.pow_pos (by decide)
            obtain ⟨h3, h4, h5, h6⟩ := hb
            have key : ∀ z : Int, -B < z ∧ z < B → -(B * 2 ^ j) < z * 2 ^ j ∧ z * 2 ^ j < B * 2 ^ j := fun z hz => by
              constructor
              · rw [← Int.neg_mul]; exact Int.mul_lt_mul_of_pos_right hz.1 h2
              · exact Int.mul_lt_mul_of_pos_right hz.2 h2
            exact ⟨key _ h3, key _ h4, key _ h5, key _ h6⟩
          · exact_mod_cast Nat.pow_le_pow_right (by decide : 0 < 2) k2
      · refine ⟨?_, fun a e => by cases e; exact Nat.le_refl _, l2⟩
        unfold RowV
        rw [seq_adr, h2]
        simp
    · simp at hr
      exact ⟨⟨hr, _, rfl, Nat.le_refl _⟩, l1⟩
/-- of added tables -/
def adF (p q : Nat) (f g : F) : F := fun y x => (rp (max p q - p) (f y x)).add (rp (max p q - q) (g y x))
theorem max_i (p q : Nat) : bMax [.int p, .int q] M = .ok (.int ((max p q : Nat) : Int)) M := by
  show Res.ok (D.int (if (q : Int) > p then (q : Int) else p)) M = _
  congr 2
  rcases Nat.lt_or_ge p q with h | h
  · rw [if_pos (by omega)]; omega
  · rw [if_neg (by omega)]; omega
theorem dSl_2 (x y z u : D) : dSl (.tup [x, y, z, u]) none (some 2) M = .ok (.tup [x, y]) M := rfl
theorem dEq_2 (a b c d : Int) : dEq (.tup [.int a, .int b]) (.tup [.int c, .int d]) M = .ok (.bl (decide (a = c ∧ b = d))) M := by
  have := eqP_ints [a, b] [c, d]
  simp only [List.map_cons, List.map_nil] at this
  unfold dEq; rw [this]; simp
theorem added_ok {o i p q : Nat} {f g : F} {B : Int} (hf : Tok B o i p f) (hg : Tok B o i q g) (hB : B * 2 ^ 1000 ≤ 2 ^ 3000) (hB0 : 0 ≤ B) : W (m_added CN [tabD o i p f, tabD o i q g] M) fun v M' => v = tabD o i (oneF (2 ^ o) (2 ^ i) (max p q) (adF p q f g)).1 (oneF (2 ^ o) (2 ^ i) (max p q) (adF p q f g)).2 ∧ Le M M' := by
  have hp := hf.hp
  have hq := hg.hp
  unfold m_added
  refine W_def ?_
  rw [WS_seq, WS_exp, W_call, W_cons, W_and, W_call, W_cons, W_var (by rfl)]
  simp only [W_nil]
  rw [W_lenF (by rfl)]
  refine W_mono (is_table_t hg.ho hg.hi hg.free) fun v M1 ⟨e, l1⟩ => ?_
  subst e
  refine ⟨true, rfl, ?_⟩
  simp only [if_true, W_op, W_sl]
  rw [W_var (by rfl)]
  simp only [W_oN, W_oS, W_con]
  refine ⟨2, rfl, ?_⟩
  rw [tabD_seq, dSl_2, W_ok, W_var (by rfl)]
  refine ⟨2, rfl, ?_⟩
  rw [tabD_seq, dSl_2, W_ok, dEq_2]
  simp only [and_self, decide_true, W_ok, W_cons, W_con, W_nil]
  rw [W_lenF (by rfl)]
  refine W_mono need_t fun v M2 ⟨e, l2⟩ => ?_
  rw [WS_seq, WS_setN, W_call, W_cons, W_ix2 (o := o) (i := i) (p := p) (f := f) (by rfl), W_cons, W_ix2 (o := o) (i := i) (p := q) (f := g) (by rfl)]
  simp only [W_nil]
  rw [max_i, W_ok, WS_seq, WS_setN, W_lst]
  simp only [W_nil]
  refine ⟨by simp, ?_⟩
  have l3 : Le M2 (M2 ++ [MO.lst []]) := Le.app
  rw [WS_seq]
  refine WS_for (W_iZip ?_)
  rw [W_call, W_cons, W_var (by rfl), W_cons, W_var (by rfl)]
  simp only [W_nil]
  rw [W_lenF (by rfl)]
  refine W_mono (rows_over_ok hf (by omega) (by omega) hB hB0) fun v1 M3 ⟨⟨h3, a3, e3, f3⟩, l4⟩ => ?_
  rw [W_call, W_cons, W_var (by rfl), W_cons, W_var (by rfl)]
  simp only [W_nil]
  rw [W_lenF (by rfl)]
  refine W_mono (rows_over_ok hg (by omega) (by omega) hB hB0) fun v2 M4 ⟨⟨h4, a4, e4, f4⟩, l5⟩ => ?_
  obtain ⟨g1, hg1, hr1⟩ := h3.le l5
  obtain ⟨g2, hg2, hr2⟩ := h4
  refine ⟨_, _, hg1, hg2, fun w hw => ?_⟩
  have hL : M4[M2.length]? = some (.lst []) := (l4.trans l5).get get_app
  refine ⟨_, fun M' => seqOf v1 M' = some ((List.range (2 ^ o)).map g1) ∧ seqOf v2 M' = some ((List.range (2 ^ o)).map g2), fun k τ M' => (∃ x4 x5, τ = [some (tabD o i p f), some (tabD o i q g), some (.int ((max p q : Nat) : Int)), some (.adr M2.length), x4, x5, none, none]) ∧ GridL M' M2.length k (2 ^ i) (adF p q f g) ∧ Gr M2.length M4 M', hw _ fun M' h => h, fun k τ M' h => ⟨seq_gr h.2.2 ?_ hg1, seq_gr h.2.2 ?_ hg2⟩, ⟨⟨_, _, rfl⟩, gridL_nil hL, Gr.rfl⟩, ?_, ?_⟩
  · rw [e3]; intro z; cases z; have := l3.1; simp at f3; omega
  · rw [e4]; intro z; cases z; have := l4.1; simp at this f4; omega
  · rintro k hk τ M5 ⟨⟨x4, x5, rfl⟩, hgl, hgr⟩
    simp at hk
    refine ⟨[some (tabD o i p f), some (tabD o i q g), some (.int ((max p q : Nat) : Int)), some (.adr M2.length), some (g1 k), some (g2 k), none, none], by simp [Tg.put, Tg.puts], ?_⟩
    obtain ⟨ys, hy1, hy2, hy3⟩ := hgl
    rw [WS_exp]
    refine W_app ((W_var (by rfl)).mpr ⟨_, rfl, ⟨ys, by rw [seq_adr, hy1]⟩, ?_⟩)
    rw [W_cons]
    have hne : ∀ {M' : Sto} {d : D} {xs : List D}, M'[M2.length]? = some (.lst []) → seqOf d M' = some xs → 0 < xs.length → d ≠ .adr M2.length := fun {M' d xs} h1 h2 h3 z => by
      subst z; rw [seq_adr, h1] at h2; cases h2; simp at h3
    have n1 := hne hL (hr1 k hk) (by simp; exact pow_pos' _)
    have n2 := hne hL (hr2 k hk) (by simp; exact pow_pos' _)
    have s1 := seq_gr hgr n1 (hr1 k hk)
    have s2 := seq_gr hgr n2 (hr2 k hk)
    refine W_lcR (by rfl) (W_iZip ((W_var (by rfl)).mpr ((W_var (by rfl)).mpr ⟨_, _, s1, s2, fun w hw => ?_⟩)))
    refine ⟨_, fun x => (adF p q f g k x).D, hw _ fun M' l => ⟨seq_le l s1, seq_le l s2⟩, by simp; have := pow_sm hf.hi; omega, fun x hx M6 l6 => ?_, fun M6 l6 hM6 => ?_⟩
    · simp at hx
      refine ⟨_, by simp [Tg.put, Tg.puts]; rfl, ?_⟩
      simp [wipeE]
      exact exact_sum_ok
    · rw [W_nil]
      refine ⟨_, ys, rfl, l6.get hy1, by have := pow_sm hf.ho; omega, ?_⟩
      refine ⟨⟨_, _, rfl⟩, GridL.push (GridL.le ⟨ys, hy1, hy2, hy3⟩ l6) (l6.get hy1) ?_ ?_, (hgr.trans l6.gr).trans Gr.set⟩
      · unfold RowV; rw [seq_adr, hM6]; simp
      · intro z; have := D.adr.inj z; have := lt_of_get hy1; omega
  · rintro τ M5 ⟨⟨x4, x5, rfl⟩, hgl, hgr⟩
    simp only [WS_ret]
    rw [W_call, W_cons, W_ix0 (o := o) (i := i) (p := p) (f := f) (by rfl), W_cons, W_ix1 (o := o) (i := i) (p := p) (f := f) (by rfl), W_cons, W_var (by rfl), W_cons, W_var (by rfl)]
    simp only [W_nil]
    rw [W_lenF (by rfl)]
    have hgl2 := hgl.grid
    simp at hgl2
    have lall : Le M M5 := by
      refine ⟨?_, fun j hj => ?_⟩
      · have := l1.1; have := l2.1; have := l3.1; have := l4.1; have := l5.1; have := hgr.1; omega
      · have h1 := (((l1.trans l2).trans l3).trans l4).trans l5
        have : j ≠ M2.length := by have := l1.1; have := l2.1; omega
        rw [hgr.2 j (Nat.lt_of_lt_of_le hj h1.1) this, h1.2 j hj]
    refine W_mono (one_form_ok (pow_sm hf.ho) (pow_sm hf.hi) (by omega) hgl2) fun v M6 ⟨e6, l6⟩ => ?_
    exact ⟨e6, lall.trans l6⟩
end
end Kp

set_option Elab.async false
set_option linter.all false
set_option maxRecDepth 100000
set_option maxHeartbeats 4000000
/-! Kp8: side_by_side -/
namespace Kp
open PySem PySem.Spec PyProof.Rows L2 Mp K29
open Kq (Le Gr Wo Cs lt_of_get seq_le seq_gr seq_adr wo_tup wo_lst startD_eq)
section
variable {CN : Str → Addr} {M : Sto}
theorem lcIn_ok {te : FE} {t1 : Tg} {τ1 : Mp.Env} {w : Wk} {xs : List D} {g : Nat → D} {n : Nat} {M0 : Sto} {kk : Sto → Res D} {Q : D → Sto → Prop} (hn : M0.length ≤ n) (hw : Wo (Le M0) w xs) (step : ∀ i (h : i < xs.length) M, Le M0 M → ∃ τ2, t1.put xs[i] τ1 = some τ2 ∧ W (te τ2 M) fun y M2 => y = g i ∧ Le M M2) :
    ∀ k i acc M, i + k = xs.length → Le M0 M → M[n]? = some (.lst acc) → acc.length + k ≤ 16777216 → (∀ M', Le M0 M' → M'[n]? = some (.lst (acc ++ (List.range' i k).map g)) → W (kk M') Q) → W (lcIn n w t1 τ1 yes te k i M kk) Q
  | 0, i, acc, M, e, h, hM, hl, q => by
    unfold lcIn
    rw [if_pos (hw.fin M h)]
    exact q M h (by simpa using hM)
  | k + 1, i, acc, M, e, h, hM, hl, q => by
    have hi : i < xs.length := by omega
    obtain ⟨τ2, e1, z⟩ := step i hi M h
    unfold lcIn
    rw [hw.it M h i hi]
    dsimp only
    rw [e1]
    dsimp only
    rw [W_inB]
    rw [W_yes, if_pos rfl, W_inB]
    refine W_mono z fun y M2 ⟨h1, h2⟩ => ?_
    subst h1
    rw [push_ok (h2.get hM) (by omega)]
    refine lcIn_ok hn hw step k (i + 1) (acc ++ [g i]) _ (by omega) ((h.trans h2).set hn) (get_set (lt_of_get (h2.get hM))) (by simp; omega) fun M' l hM' => q M' l ?_
    rw [hM', List.range'_succ, List.map_cons, List.append_assoc]; rfl
/-- two loops, of what only reads, data -/
theorem lcOut_ok {te : FE} {t t1 : Tg} {τ0 : Mp.Env} {wi1 : Ev Wk} {vs1 : List Nat} {w : Wk} {xs : List D} {g : Nat → Nat → D} {len n : Nat} {M0 : Sto} {Q : D → Sto → Prop} (hn : M0.length ≤ n) (hw : Wo (Le M0) w xs)
    (step : ∀ i (h : i < xs.length) M, Le M0 M → ∃ τ1, t.put xs[i] τ0 = some τ1 ∧ W (wi1 τ1 M) fun w1 M1 => M1 = M ∧ ∃ ys, Wo (Le M0) w1 ys ∧ ys.length = len ∧
      ∀ j (h : j < ys.length) M, Le M0 M → ∃ τ2, t1.put ys[j] (wipeE τ1 vs1) = some τ2 ∧ W (te τ2 M) fun y M2 => y = g i j ∧ Le M M2) :
    ∀ k i acc M, i + k = xs.length → Le M0 M → M[n]? = some (.lst acc) → acc.length + k * len ≤ 16777216 → (∀ M', Le M0 M' → M'[n]? = some (.lst (acc ++ ((List.range' i k).map fun i => (List.range len).map (g i)).flatten)) → Q (.adr n) M') → W (lcOut n w t τ0 yes wi1 t1 vs1 yes te k i M) Q
  | 0, i, acc, M, e, h, hM, hl, q => by
    unfold lcOut
    rw [if_pos (hw.fin M h), W_ok]
    exact q M h (by simpa using hM)
  | k + 1, i, acc, M, e, h, hM, hl, q => by
    have hi : i < xs.length := by omega
    obtain ⟨τ1, e1, z⟩ := step i hi M h
    unfold lcOut
    rw [hw.it M h i hi]
    dsimp only
    rw [e1]
    dsimp only
    rw [W_inB]
    rw [W_yes, if_pos rfl, W_inB]
    refine W_mono z fun w1 M1 ⟨eM, ys, hw1, hlen, st⟩ => ?_
    subst eM
    rw [Nat.add_mul, Nat.one_mul] at hl
    refine lcIn_ok (g := g i) hn hw1 st w1.n 0 acc M1 (by rw [hw1.n]; omega) h hM (by rw [hw1.n, hlen]; omega) fun M2 l2 hM2 => ?_
    refine lcOut_ok hn hw step k (i + 1) _ M2 (by omega) l2 hM2 (by rw [hw1.n, hlen]; simp; omega) fun M3 l3 hM3 => q M3 l3 ?_
    rw [hM3, List.range'_succ, List.map_cons, List.flatten_cons, List.append_assoc, hw1.n, hlen, List.range_eq_range']
theorem W_lc2 {τ : Mp.Env} {t t1 : Tg} {wi wi1 : Ev Wk} {te : FE} {vs vs1 : List Nat} {Q : D → Sto → Prop} (ht : t.inn vs = true) (ht1 : t1.inn vs1 = true) : (W (wi τ M) fun w M1 => ∃ (xs : List D) (g : Nat → Nat → D) (len : Nat), Wo (Le M1) w xs ∧ xs.length * len ≤ 16777216 ∧
    (∀ i (h : i < xs.length) M, Le M1 M → ∃ τ1, t.put xs[i] (wipeE τ vs) = some τ1 ∧ W (wi1 τ1 M) fun w1 M2 => M2 = M ∧ ∃ ys, Wo (Le M1) w1 ys ∧ ys.length = len ∧
      ∀ j (h : j < ys.length) M, Le M1 M → ∃ τ2, t1.put ys[j] (wipeE τ1 vs1) = some τ2 ∧ W (te τ2 M) fun y M2 => y = g i j ∧ Le M M2) ∧
    (∀ M', Le M1 M' → M'[M1.length]? = some (.lst ((List.range xs.length).map fun i => (List.range len).map (g i)).flatten) → Q (.adr M1.length) M')) → W (eLc2 wi t yes wi1 t1 yes te vs vs1 τ M) Q := by
  intro h
  unfold eLc2
  rw [W_bind]
  refine W_mono h fun w M1 ⟨xs, g, len, hw, hl, step, done⟩ => ?_
  rw [if_pos ⟨ht, ht1⟩]
  refine lcOut_ok (g := g) (len := len) (Nat.le_refl _) hw step w.n 0 [] _ (by rw [hw.n]; omega) Le.app get_app (by rw [hw.n]; simpa using hl) fun M' l hM' => done M' l ?_
  rw [hM', hw.n]; simp [List.range_eq_range']
theorem flat_range {α : Type} {g : Nat → Nat → α} {len : Nat} (hl : 0 < len) : ∀ k : Nat, ((List.range k).map fun i => (List.range len).map (g i)).flatten = (List.range (k * len)).map fun x => g (x / len) (x % len)
  | 0 => by simp
  | k + 1 => by
    rw [List.range_succ, List.map_append, List.flatten_append, flat_range hl k, Nat.add_mul, Nat.one_mul, List.range_add, List.map_append]
    congr 1
    simp only [List.map_cons, List.map_nil, List.flatten_cons, List.flatten_nil, List.append_nil, List.map_map]
    refine List.map_congr_left fun x hx => ?_
    have hx := List.mem_range.mp hx
    simp only [Function.comp_apply]
    have e1 : (k * len + x) / len = k := by rw [Nat.mul_comm, Nat.mul_add_div hl, Nat.div_eq_of_lt hx]; rfl
    have e2 : (k * len + x) % len = x := by rw [Nat.mul_comm, Nat.mul_add_mod, Nat.mod_eq_of_lt hx]
    rw [e1, e2]
/-- of tables side by side -/
def sbF (lo li : Nat) (f g : F) : F := fun y x => (f (y % lo) (x % li)).mul (g (y / lo) (x / li))
theorem side_by_side_ok {lo li ho hi p q : Nat} {f g : F} {B : Int} (hf : Tok B lo li p f) (hg : Tok B ho hi q g) (h12 : lo + ho ≤ 12) (h13 : li + hi ≤ 12) (hB : B ≤ 2 ^ 3000) : W (m_side_by_side CN [tabD lo li p f, tabD ho hi q g] M) fun v M' =>
    v = tabD (lo + ho) (li + hi) (oneF (2 ^ (lo + ho)) (2 ^ (li + hi)) (p + q) (sbF (2 ^ lo) (2 ^ li) f g)).1 (oneF (2 ^ (lo + ho)) (2 ^ (li + hi)) (p + q) (sbF (2 ^ lo) (2 ^ li) f g)).2 ∧ Le M M' := by
  have hp := hf.hp
  have hq := hg.hp
  have s1 := pow_sm h12
  have s2 := pow_sm h13
  have m1 : 2 ^ (lo + ho) = 2 ^ ho * 2 ^ lo := by rw [Nat.pow_add, Nat.mul_comm]
  have m2 : 2 ^ (li + hi) = 2 ^ hi * 2 ^ li := by rw [Nat.pow_add, Nat.mul_comm]
  have p1 := pow_pos' lo
  have p2 := pow_pos' li
  have e3 : ((lo : Int) + (ho : Int)) = ((lo + ho : Nat) : Int) := by simp
  have e4 : ((li : Int) + (hi : Int)) = ((li + hi : Nat) : Int) := by simp
  have e5 : ((p : Int) + (q : Int)) = ((p + q : Nat) : Int) := by simp
  unfold m_side_by_side
  refine W_def ?_
  rw [WS_seq, WS_exp, W_call, W_cons, W_call, W_cons, W_var (by rfl)]
  simp only [W_nil]
  rw [W_lenF (by rfl)]
  refine W_mono (is_table_t hg.ho hg.hi hg.free) fun v M1 ⟨e, l1⟩ => ?_
  subst e
  simp only [W_cons, W_con, W_nil]
  rw [W_lenF (by rfl)]
  refine W_mono need_t fun v M2 ⟨e, l2⟩ => ?_
  rw [WS_seq, WS_setN, W_lst]
  simp only [W_nil]
  refine ⟨by simp, ?_⟩
  rw [WS_seq]
  have l3 : Le M2 (M2 ++ [MO.lst []]) := Le.app
  have L0 := (l1.trans l2).trans l3
  refine WS_for (W_iVal ((W_ix3 (o := ho) (i := hi) (p := q) (f := g) (by rfl)).mpr ⟨_, rfl, fun w hw => ?_⟩))
  refine ⟨_, fun _ => True, fun k τ M' => (∃ x3 x4, τ = [some (tabD lo li p f), some (tabD ho hi q g), some (.adr M2.length), x3, x4, none, none]) ∧ GridL M' M2.length (k * 2 ^ lo) (2 ^ (li + hi)) (sbF (2 ^ lo) (2 ^ li) f g) ∧ Gr M2.length (M2 ++ [MO.lst []]) M', hw _ fun M' h => rfl, fun _ _ _ _ => trivial, ⟨⟨_, _, rfl⟩, by simpa using gridL_nil get_app, Gr.rfl⟩, ?_, ?_⟩
  · rintro k hk τ M5 ⟨⟨x3, x4, rfl⟩, hgl, hgr⟩
    simp [gridD] at hk
    refine ⟨[some (tabD lo li p f), some (tabD ho hi q g), some (.adr M2.length), some (rowD (2 ^ hi) (g k)), x4, none, none], by simp [Tg.put], ?_⟩
    refine WS_for (W_iVal ((W_ix3 (o := lo) (i := li) (p := p) (f := f) (by rfl)).mpr ⟨_, rfl, fun w2 hw2 => ?_⟩))
    refine ⟨_, fun _ => True, fun j τ M' => (∃ x4, τ = [some (tabD lo li p f), some (tabD ho hi q g), some (.adr M2.length), some (rowD (2 ^ hi) (g k)), x4, none, none]) ∧ GridL M' M2.length (k * 2 ^ lo + j) (2 ^ (li + hi)) (sbF (2 ^ lo) (2 ^ li) f g) ∧ Gr M2.length (M2 ++ [MO.lst []]) M', hw2 _ fun M' h => rfl, fun _ _ _ _ => trivial, ⟨⟨_, rfl⟩, by simpa using hgl, hgr⟩, ?_, ?_⟩
    · rintro j hj τ M6 ⟨⟨x4, rfl⟩, hgl, hgr⟩
      simp at hj
      refine ⟨[some (tabD lo li p f), some (tabD ho hi q g), some (.adr M2.length), some (rowD (2 ^ hi) (g k)), some (rowD (2 ^ li) (f j)), none, none], by simp [Tg.put], ?_⟩
      obtain ⟨ys, hy1, hy2, hy3⟩ := hgl
      rw [WS_exp]
      refine W_app ((W_var (by rfl)).mpr ⟨_, rfl, ⟨ys, by rw [seq_adr, hy1]⟩, ?_⟩)
      rw [W_cons]
      refine W_lc2 (by rfl) (by rfl) (W_iVal ((W_var (by rfl)).mpr ⟨_, rfl, fun w3 hw3 => ?_⟩))
      refine ⟨_, fun a b => ((f j b).mul (g k a)).D, 2 ^ li, hw3 _ fun M' _ => rfl, by simp; rw [← m2]; omega, fun a ha M7 l7 => ⟨_, rfl, ?_⟩, fun M7 l7 hM7 => ?_⟩
      · simp at ha
        refine W_iVal ((W_var (d := rowD (2 ^ li) (f j)) (by rfl)).mpr ⟨_, rfl, fun w4 hw4 => ⟨rfl, _, hw4 _ fun M' _ => rfl, by simp, fun b hb M8 l8 => ⟨_, rfl, ?_⟩⟩⟩)
        simp at hb
        simp [wipeE]
        exact exact_product_ok (bd_Sm (hf.bd j b hj hb) hB) (bd_Sm (hg.bd k a hk ha) hB)
      · rw [W_nil]
        refine ⟨_, ys, rfl, l7.get hy1, ?_, ?_⟩
        · have : k * 2 ^ lo + j < 2 ^ (lo + ho) := by
            rw [m1]
            have : (k + 1) * 2 ^ lo ≤ 2 ^ ho * 2 ^ lo := Nat.mul_le_mul_right _ hk
            rw [Nat.add_mul] at this; omega
          omega
        · refine ⟨⟨_, rfl⟩, ?_, (hgr.trans l7.gr).trans Gr.set⟩
          have := GridL.push (y := .adr M6.length) (GridL.le (M' := M7) ⟨ys, hy1, hy2, hy3⟩ l7) (l7.get hy1) ?_ ?_
          · exact this
          · unfold RowV
            rw [seq_adr, hM7]
            simp only [Option.some.injEq]
            simp only [List.length_map, List.length_range]
            rw [flat_range p2, ← m2]
            refine List.map_congr_left fun x hx => ?_
            have e1 : (k * 2 ^ lo + j) / 2 ^ lo = k := by rw [Nat.mul_comm, Nat.mul_add_div p1, Nat.div_eq_of_lt hj]; rfl
            have e2 : (k * 2 ^ lo + j) % 2 ^ lo = j := by rw [Nat.mul_comm, Nat.mul_add_mod, Nat.mod_eq_of_lt hj]
            simp only [sbF]
            rw [e1, e2]
          · intro z; have := D.adr.inj z; have := lt_of_get hy1; omega
    · rintro τ M6 ⟨⟨x4, rfl⟩, hgl, hgr⟩
      refine ⟨⟨_, _, rfl⟩, ?_, hgr⟩
      simpa [Nat.add_mul] using hgl
  · rintro τ M5 ⟨⟨x3, x4, rfl⟩, hgl, hgr⟩
    simp only [WS_ret]
    rw [W_call, W_cons, W_op, W_ix0 (o := lo) (i := li) (p := p) (f := f) (by rfl), W_ix0 (o := ho) (i := hi) (p := q) (f := g) (by rfl), dAdd_i, W_ok, e3, W_cons, W_op, W_ix1 (o := lo) (i := li) (p := p) (f := f) (by rfl), W_ix1 (o := ho) (i := hi) (p := q) (f := g) (by rfl), dAdd_i, W_ok, e4, W_cons, W_op, W_ix2 (o := lo) (i := li) (p := p) (f := f) (by rfl), W_ix2 (o := ho) (i := hi) (p := q) (f := g) (by rfl), dAdd_i, W_ok, e5, W_cons, W_var (by rfl)]
    simp only [W_nil]
    rw [W_lenF (by rfl)]
    have hgl2 := hgl.grid
    simp at hgl2
    rw [← m1] at hgl2
    have lall : Le M M5 := by
      refine ⟨?_, fun j hj => ?_⟩
      · have := L0.1; have := hgr.1; omega
      · have : j ≠ M2.length := by have := l1.1; have := l2.1; omega
        rw [hgr.2 j (Nat.lt_of_lt_of_le hj L0.1) this, L0.2 j hj]
    refine W_mono (one_form_ok (pow_sm h12) (pow_sm h13) (by omega) hgl2) fun v M6 ⟨e6, l6⟩ => ?_
    exact ⟨e6, lall.trans l6⟩
end
end Kp

set_option Elab.async false
set_option linter.all false
set_option maxRecDepth 100000
set_option maxHeartbeats 4000000
set_option exponentiation.threshold 4000
/-! Kp9: the law's own reckoning: same, value, root, table, entry -/
namespace Kp
open PySem PySem.Spec PyProof.Rows L2 Mp K29
open Kq (Le Gr Wo Cs lt_of_get seq_le seq_gr seq_adr wo_tup wo_lst startD_eq)
abbrev Pk (k : Nat) (x : Int) : Prop := x.natAbs < 2 ^ k
theorem Pk.mono {k l : Nat} {x : Int} (h : Pk k x) (e : k ≤ l) : Pk l x := Nat.lt_of_lt_of_le h (Nat.pow_le_pow_right (by decide) e)
theorem Pk.add {k l : Nat} {x y : Int} (h : Pk k x) (g : Pk k y) (e : k + 1 ≤ l) : Pk l (x + y) := by
  refine Pk.mono (k := k + 1) ?_ e
  unfold Pk at *
  rw [Nat.pow_succ]; omega
theorem Pk.sub {k l : Nat} {x y : Int} (h : Pk k x) (g : Pk k y) (e : k + 1 ≤ l) : Pk l (x - y) := by
  refine Pk.mono (k := k + 1) ?_ e
  unfold Pk at *
  rw [Nat.pow_succ]; omega
theorem Pk.mul {k l m : Nat} {x y : Int} (h : Pk k x) (g : Pk l y) (e : k + l ≤ m) : Pk m (x * y) := by
  refine Pk.mono (k := k + l) ?_ e
  unfold Pk at *
  rw [Int.natAbs_mul, Nat.pow_add]
  exact Nat.mul_lt_mul'' h g
theorem Pk.two {k l : Nat} (h : k < l) : Pk l (2 ^ k) := by
  unfold Pk
  rw [Int.natAbs_pow]
  exact Nat.pow_lt_pow_right (by decide) h
theorem Pk.sm {k : Nat} {x : Int} (h : Pk k x) (e : k ≤ 3000) : Sm x := by
  have h1 := h.mono e
  unfold Pk at h1
  have h2 : ((2 : Nat) ^ 3000 : Nat) = ((2 : Int) ^ 3000).toNat := by decide +kernel
  have h3 : (0 : Int) ≤ 2 ^ 3000 := by decide +kernel
  rw [h2] at h1
  unfold Sm
  generalize (2 : Int) ^ 3000 = B at *
  omega
def Q.Pk (k : Nat) (q : Q) : Prop := Kp.Pk k q.a ∧ Kp.Pk k q.b ∧ Kp.Pk k q.c ∧ Kp.Pk k q.d
theorem bd_Pk {q : Q} {B : Int} {k : Nat} (h : q.Bd B) (e : B ≤ 2 ^ k) : q.Pk k := by
  have h2 : ((2 : Nat) ^ k : Nat) = ((2 : Int) ^ k).toNat := by
    rw [show ((2 : Int) ^ k) = ((2 ^ k : Nat) : Int) by simp, Int.toNat_natCast]
  obtain ⟨h3, h4, h5, h6⟩ := h
  unfold Q.Pk Kp.Pk
  rw [h2]
  generalize (2 : Int) ^ k = C at *
  refine ⟨?_, ?_, ?_, ?_⟩ <;> omega
abbrev WW : Int := 2 ^ 320
theorem sm_WW : Sm WW := (Pk.two (k := 320) (l := 321) (by decide)).sm (by decide)
theorem val_pk {q : Q} (h : q.Pk 300) : Pk 1270 (val WW q) := by
  obtain ⟨h1, h2, h3, h4⟩ := h
  have w : Pk 321 WW := Pk.two (by decide)
  have s1 : Pk 621 (q.d * WW) := h4.mul w (by decide)
  have s2 : Pk 622 (q.d * WW + q.c) := s1.add (h3.mono (by decide)) (by decide)
  have s3 : Pk 943 ((q.d * WW + q.c) * WW) := s2.mul w (by decide)
  have s4 : Pk 944 ((q.d * WW + q.c) * WW + q.b) := s3.add (h2.mono (by decide)) (by decide)
  have s5 : Pk 1265 (((q.d * WW + q.c) * WW + q.b) * WW) := s4.mul w (by decide)
  exact s5.add (h1.mono (by decide)) (by decide)
section
variable {CN : Str → Addr} {M : Sto}
theorem shl_c {k : Nat} (h : k ≤ 100000) : dShl (.int 1) (.int k) M = .ok (.int (2 ^ k)) M := by
  rw [dShl_i (by decide +kernel) h, Int.one_mul]
theorem shl_320 : dShl (.int 1) (.int 320) M = .ok (.int WW) M := shl_c (k := 320) (by decide)
theorem value_ok {q : Q} (h : q.Pk 300) : W (m__law_value CN [q.D] M) fun v M' => v = .int (val WW q) ∧ Le M M' := by
  obtain ⟨h1, h2, h3, h4⟩ := h
  have w : Pk 321 WW := Pk.two (by decide)
  have s1 : Pk 621 (q.d * WW) := h4.mul w (by decide)
  have s2 : Pk 622 (q.d * WW + q.c) := s1.add (h3.mono (by decide)) (by decide)
  have s3 : Pk 943 ((q.d * WW + q.c) * WW) := s2.mul w (by decide)
  have s4 : Pk 944 ((q.d * WW + q.c) * WW + q.b) := s3.add (h2.mono (by decide)) (by decide)
  unfold m__law_value
  refine W_def ?_
  simp only [WS_ret, W_op, W_con, shl_320, W_ok]
  rw [W_var (d := q.D) (by rfl)]
  unfold Q.D
  simp only [dIx_t3, W_ok, shl_320, dMul_i (h4.sm (by decide)) sm_WW]
  rw [W_var (by rfl)]
  simp only [dIx_t2, W_ok, dAdd_i, shl_320, dMul_i (s2.sm (by decide)) sm_WW]
  rw [W_var (by rfl)]
  simp only [dIx_t1, W_ok, dAdd_i, shl_320, dMul_i (s4.sm (by decide)) sm_WW]
  rw [W_var (by rfl)]
  simp only [dIx_t0, W_ok, dAdd_i]
  exact ⟨rfl, Le.rfl⟩
theorem rho_eq : (2 : Int) ^ 320 - 2 ^ 960 = rho WW := by
  show _ = WW - WW * WW * WW
  rw [← Int.pow_add, ← Int.pow_add]
theorem rho_pk : Pk 962 (rho WW) := by
  rw [← rho_eq]
  exact (Pk.two (k := 320) (l := 961) (by decide)).sub (Pk.two (k := 960) (l := 961) (by decide)) (by decide)
theorem root_pk {n : Nat} (h : n ≤ 1000) : Pk 1463 (rootI WW n) := by
  have h1 : Pk 501 ((2 : Int) ^ (n / 2)) := Pk.two (by omega)
  unfold rootI
  split
  · exact h1.mul rho_pk (by decide)
  · exact h1.mono (by decide)
theorem root_ok {n : Nat} (h : n ≤ 1000) : W (m__law_root CN [.int n] M) fun v M' => v = .int (rootI WW n) ∧ Le M M' := by
  have e : (n : Int) / 2 = ((n / 2 : Nat) : Int) := by omega
  have h1 : Pk 501 ((2 : Int) ^ (n / 2)) := Pk.two (by omega)
  have hs : ∀ M : Sto, dShl (.int 1) (.int ((n : Int) / 2)) M = .ok (.int (2 ^ (n / 2))) M := fun M => by rw [e]; exact shl_c (by omega)
  have h9 : ∀ M : Sto, dShl (.int 1) (.int 960) M = .ok (.int (2 ^ 960)) M := fun M => shl_c (k := 960) (by decide)
  unfold m__law_root
  refine W_def ?_
  rw [WS_seq, WS_setN, W_op, W_con, W_op, W_var (by rfl), W_con, dFdiv_2, W_ok, hs, W_ok]
  dsimp only
  rw [WS_seq, WS_if, W_tb, W_op, W_op, W_call, W_cons, W_var (by rfl)]
  simp only [W_nil, bInt_i, W_ok, W_con]
  rw [dMod_i (by decide), W_ok, dEq_i, W_ok]
  refine ⟨_, rfl, ?_⟩
  unfold rootI
  by_cases hp : n % 2 = 1
  · have hp2 : (n : Int) % 2 = 1 := by omega
    rw [if_pos (by simp [hp2]), if_pos hp, WS_setN, W_op, W_var (by rfl), W_op, W_op, W_con]
    simp only [W_con, shl_320, W_ok]
    rw [W_op]
    simp only [W_con, h9, W_ok, dSub_i]
    rw [show WW - 2 ^ 960 = rho WW from rho_eq, dMul_i (h1.sm (by decide)) (rho_pk.sm (by decide)), W_ok]
    rw [WS_ret, W_var (by rfl)]
    exact ⟨rfl, Le.rfl⟩
  · have hp2 : ¬ (n : Int) % 2 = 1 := by omega
    rw [if_neg (by simp [hp2]), if_neg hp, WS_nil]
    dsimp only
    rw [WS_ret, W_var (by rfl)]
    exact ⟨rfl, Le.rfl⟩
theorem has_r_ok {q : Q} : W (m__law_has_r CN [q.D] M) fun v M' => v = .bl q.hasR ∧ Le M M' := by
  unfold m__law_has_r
  refine W_def ?_
  simp [Q.D]
  by_cases h : (q.a + q.c) % 2 = 0
  · have : q.hasR = decide ((q.b + q.d) % 2 = 0) := by simp [Q.hasR, h]
    simp [h, this]
  · have : q.hasR = false := by simp [Q.hasR, h]
    simp [h, this]
theorem NN_eq : (2 : Int) ^ 1280 + 1 = NN WW := by
  show _ = WW * WW * WW * WW + 1
  rw [← Int.pow_add, ← Int.pow_add, ← Int.pow_add]
theorem entry_law {q : Q} {tp h : Nat} {due : Int} (hq : q.Pk 300) (ht : tp ≤ 1000) (hh : h ≤ 1000) (hd : Pk 3000 due) (hz : (val WW q * rootI WW h - due * rootI WW tp) % NN WW = 0) : W (m__law_entry CN [.tup [q.D, .int tp], .int due, .int h] M) fun v M' => v = .bl true ∧ Le M M' := by
  have h12 : ∀ M : Sto, dShl (.int 1) (.int 1280) M = .ok (.int (2 ^ 1280)) M := fun M => shl_c (k := 1280) (by decide)
  have hNN : (0 : Int) < NN WW := by rw [← NN_eq]; decide +kernel
  unfold m__law_entry
  refine W_def ?_
  rw [WS_ret, W_op, W_op, W_call, W_cons, W_op, W_op, W_call, W_cons, W_op, W_var (by rfl), W_con, dIx_t0, W_ok]
  simp only [W_nil]
  rw [W_lenF (by rfl)]
  refine W_mono (value_ok hq) fun v M1 ⟨e, l1⟩ => ?_
  subst e
  rw [W_call, W_cons, W_var (by rfl)]
  simp only [W_nil]
  rw [W_lenF (by rfl)]
  refine W_mono (root_ok hh) fun v M2 ⟨e, l2⟩ => ?_
  subst e
  rw [dMul_i ((val_pk hq).sm (by decide)) ((root_pk hh).sm (by decide)), W_ok, W_op, W_var (by rfl), W_call, W_cons, W_op, W_var (by rfl), W_con, dIx_t1, W_ok]
  simp only [W_nil]
  rw [W_lenF (by rfl)]
  refine W_mono (root_ok ht) fun v M3 ⟨e, l3⟩ => ?_
  subst e
  rw [dMul_i (hd.sm (by decide)) ((root_pk ht).sm (by decide)), W_ok, dSub_i]
  simp only [W_ok, bInt_i]
  rw [W_op, W_op, W_con, W_con, h12, W_ok, W_con, dAdd_i, W_ok, NN_eq, dMod_i hNN, W_ok, W_con, dEq_i, hz, W_ok]
  exact ⟨rfl, (l1.trans l2).trans l3⟩
/-! same -/
def Pl : Nat → D → Prop
  | _, .int _ => True
  | k + 1, .tup ds => ds.length < 16777216 ∧ ∀ e ∈ ds, Pl k e
  | _, .str x => eqP (.str x) (.str x) = some true
  | _, _ => False
theorem Pl.tup {k : Nat} {ds : List D} (h : ds.length < 16777216) (g : ∀ e ∈ ds, Pl k e) : Pl (k + 1) (.tup ds) := ⟨h, g⟩
theorem Pl.kd {k : Nat} {d : D} (h : Pl k d) : Kd M d := by
  cases d with
  | adr n => cases k <;> exact h.elim
  | _ => trivial
theorem same_ok : ∀ (k : Nat) {d : D} {M : Sto}, Pl k d → W (m__law_same CN (k + 1) [d, d] M) fun v M' => v = .bl true ∧ Le M M' := by
  intro k
  induction k with
  | zero =>
    intro d M h
    cases d with
    | int i =>
      unfold m__law_same
      refine W_def ?_
      have e5 : ∀ M : Sto, dIsN (.int i) .non M = .ok (.bl false) M := fun _ => rfl
      have k1 : ∀ M : Sto, Kd M (.int i) := fun _ => trivial
      simp [isi_tuple (k1 _), isi_bool (k1 _), isi_int (k1 _), isT, isB, isI, truD, e5]
      refine W_mono (whole_ok (k1 _)) fun v M1 ⟨e, l1⟩ => ?_
      simp [e, isI, l1]
    | str x =>
      unfold m__law_same
      refine W_def ?_
      have e5 : ∀ M : Sto, dIsN (.str x) .non M = .ok (.bl false) M := fun _ => rfl
      have k1 : ∀ M : Sto, Kd M (.str x) := fun _ => trivial
      have h2 : ∀ M : Sto, dEq (.str x) (.str x) M = .ok (.bl true) M := fun M => by
        have h : eqP (.str x) (.str x) = some true := h
        unfold dEq; rw [h]
      simp [isi_tuple (k1 _), isi_bool (k1 _), isi_int (k1 _), isi_str (k1 _), isT, isB, isI, isS, truD, e5, h2]
    | tup ds => exact h.elim
    | _ => exact h.elim
  | succ k ih =>
    intro d M h
    cases d with
    | int i =>
      unfold m__law_same
      refine W_def ?_
      have e5 : ∀ M : Sto, dIsN (.int i) .non M = .ok (.bl false) M := fun _ => rfl
      have k1 : ∀ M : Sto, Kd M (.int i) := fun _ => trivial
      simp [isi_tuple (k1 _), isi_bool (k1 _), isi_int (k1 _), isT, isB, isI, truD, e5]
      refine W_mono (whole_ok (k1 _)) fun v M1 ⟨e, l1⟩ => ?_
      simp [e, isI, l1]
    | str x =>
      unfold m__law_same
      refine W_def ?_
      have e5 : ∀ M : Sto, dIsN (.str x) .non M = .ok (.bl false) M := fun _ => rfl
      have k1 : ∀ M : Sto, Kd M (.str x) := fun _ => trivial
      have h2 : ∀ M : Sto, dEq (.str x) (.str x) M = .ok (.bl true) M := fun M => by
        have h : eqP (.str x) (.str x) = some true := h
        unfold dEq; rw [h]
      simp [isi_tuple (k1 _), isi_bool (k1 _), isi_int (k1 _), isi_str (k1 _), isT, isB, isI, isS, truD, e5, h2]
    | tup ds =>
      obtain ⟨hl, he⟩ := h
      unfold m__law_same
      refine W_def ?_
      have k1 : ∀ M : Sto, Kd M (.tup ds) := fun _ => trivial
      simp [isi_tuple (k1 _), isT, truD]
      generalize hff : eCall bLen (aCons (eVar 1) aNil) = ff
      refine W_lcR (by rfl) (W_iR1 ?_)
      subst hff
      rw [W_call, W_cons, W_var (by rfl)]
      simp only [W_nil, bLen_t, W_ok]
      refine ⟨ds.length, rfl, Nat.lt_trans hl (by decide), fun w hw => ⟨_, fun _ => .bl true, hw _, by rw [List.length_map, List.length_range]; exact Nat.le_of_lt hl, fun i hi M1 l1 => ⟨_, rfl, ?_⟩, fun M1 l1 h1 => ?_⟩⟩
      · simp at hi
        simp [wipeE]
        rw [dIx_s (xs := ds) (j := i) rfl hi, W_ok, dIx_s (xs := ds) (j := i) rfl hi, W_ok]
        exact ih (he _ (List.getElem_mem hi))
      · have e : (List.range ((List.range ds.length).map fun i : Nat => D.int i).length).map (fun _ => D.bl true) = (List.replicate ds.length true).map D.bl := by
          apply List.ext_getElem <;> simp
        rw [e] at h1
        rw [bAll_s h1, W_ok]
        exact ⟨by simp, l1⟩
    | _ => exact h.elim
theorem pl_int {k : Nat} (i : Int) : Pl k (.int i) := by cases k <;> trivial
theorem pl_q {k : Nat} (q : Q) : Pl (k + 1) q.D := by
  unfold Q.D
  exact Pl.tup (by simp) (by simp [pl_int])
theorem pl_row {k n : Nat} {f : Nat → Q} (hn : n < 16777216) : Pl (k + 2) (rowD n f) := by
  unfold rowD
  exact Pl.tup (by simpa using hn) fun e he => by
    obtain ⟨j, _, rfl⟩ := List.mem_map.mp he
    exact pl_q _
theorem pl_grid {k m n : Nat} {f : F} (hm : m < 16777216) (hn : n < 16777216) : Pl (k + 3) (gridD m n f) := by
  unfold gridD
  exact Pl.tup (by simpa using hm) fun e he => by
    obtain ⟨j, _, rfl⟩ := List.mem_map.mp he
    exact pl_row hn
theorem pl_tab {o i p : Nat} {f : F} (ho : o ≤ 12) (hi : i ≤ 12) : Pl (10 + 1) (tabD o i p f) := by
  unfold tabD
  refine Pl.tup (by simp) fun e he => ?_
  simp only [List.mem_cons, List.not_mem_nil, or_false] at he
  rcases he with rfl | rfl | rfl | rfl
  · exact pl_int _
  · exact pl_int _
  · exact pl_int _
  · exact pl_grid (k := 7) (pow_sm ho) (pow_sm hi)
theorem pl_two {i j : Int} : Pl (10 + 1) (.tup [.int i, .int j]) := Pl.tup (by simp) (by simp [pl_int])
theorem same_n {k n : Nat} {d : D} (e : n = k + 1) (h : Pl k d) : W (m__law_same CN n [d, d] M) fun v M' => v = .bl true ∧ Le M M' := by
  subst e; exact same_ok k h
theorem same_tab {o i p : Nat} {f : F} (ho : o ≤ 12) (hi : i ≤ 12) : W (m__law_same CN 12 [tabD o i p f, tabD o i p f] M) fun v M' => v = .bl true ∧ Le M M' := same_n (k := 10 + 1) (by decide) (pl_tab ho hi)
/-! ranges of 2 to the o -/
theorem W_rng {τ : Mp.Env} {f : FE} {Q : Wk → Sto → Prop} : (W (f τ M) fun d M1 => ∃ o : Nat, d = .int o ∧ o ≤ 12 ∧ ∀ w, (∀ R : Sto → Prop, Wo R w ((List.range (2 ^ o)).map fun i : Nat => D.int i)) → Q w M1) → W (Mp.iR1 (eOp dShl (eCon (.int 1)) f) τ M) Q := by
  intro h
  refine W_iR1 ?_
  rw [W_op, W_con]
  refine W_mono h fun d M1 ⟨o, e, ho, q⟩ => ?_
  subst e
  rw [shl_c (by omega), W_ok]
  have := pow_sm ho
  exact ⟨2 ^ o, by simp, by omega, q⟩
theorem W_ixx {τ : Mp.Env} {j a b o i p y x : Nat} {f : F} {Q : D → Sto → Prop} (h : τ[j]? = some (some (tabD o i p f))) (ha : τ[a]? = some (some (.int y))) (hb : τ[b]? = some (some (.int x))) (hy : y < 2 ^ o) (hx : x < 2 ^ i) :
    W (eOp dIx (eOp dIx (eOp dIx (eVar j) (eCon (.int 3))) (eVar a)) (eVar b) τ M) Q ↔ Q (f y x).D M := by
  rw [W_op, W_op, W_ix3 h, W_var ha, dIx_g hy, W_ok, W_var hb, dIx_r hx, W_ok]
theorem pk_abs {x : Int} (h : Pk 300 x) : decide ((if x < 0 then -x else x) < 2 ^ 300) = true := by
  unfold Pk at h
  have h2 : ((2 : Nat) ^ 300 : Nat) = ((2 : Int) ^ 300).toNat := by decide +kernel
  rw [h2] at h
  generalize (2 : Int) ^ 300 = B at *
  simp only [decide_eq_true_eq]
  split <;> omega
/-- what the law asks of a table that it is told -/
theorem table_ok {o i p : Nat} {f : F} (ho : o ≤ 12) (hi : i ≤ 12) (hp : p ≤ 300) (hfree : p = 0 ∨ allF (2 ^ o) (2 ^ i) Q.hasR f = false) (hb : ∀ y x, y < 2 ^ o → x < 2 ^ i → (f y x).Pk 300) : W (m__law_table CN [tabD o i p f, .int o, .int i] M) fun v M' => v = .bl true ∧ Le M M' := by
  have kt : ∀ M : Sto, Kd M (tabD o i p f) := fun _ => trivial
  have kg : ∀ M : Sto, Kd M (gridD (2 ^ o) (2 ^ i) f) := fun _ => trivial
  unfold m__law_table
  refine W_def ?_
  rw [WS_seq, WS_if, W_orT, W_notT, W_tst, W_un, W_var (by rfl), isi_tuple (kt _), W_ok]
  refine ⟨true, rfl, ?_⟩
  rw [if_neg (by decide), W_orT, W_tb, W_op, W_call, W_cons, W_var (by rfl)]
  simp only [W_nil]
  rw [show bLen [tabD o i p f] M = .ok (.int 4) M from rfl, W_ok, W_con, dNe_i, W_ok]
  refine ⟨false, rfl, ?_⟩
  rw [if_neg (by decide), W_notT, W_tst, W_call, W_cons, W_sl, W_var (by rfl)]
  simp only [W_oN, W_oS, W_con]
  refine ⟨2, rfl, ?_⟩
  rw [tabD_seq, dSl_2, W_ok, W_cons, W_tup, W_cons, W_var (by rfl), W_cons, W_var (by rfl)]
  simp only [W_nil]
  refine ⟨by simp, ?_⟩
  rw [W_lenF (by rfl)]
  refine W_mono (same_n (k := 10 + 1) (n := 12) (d := .tup [.int o, .int i]) (by decide) pl_two) fun v M1 ⟨e, l1⟩ => ?_
  subst e
  refine ⟨true, rfl, ?_⟩
  rw [if_neg (by decide), WS_nil]
  dsimp only
  rw [WS_seq, WS_if, W_orT, W_notT, W_tst, W_call, W_cons, W_ix2 (by rfl)]
  simp only [W_nil]
  rw [W_lenF (by rfl)]
  refine W_mono (whole_ok (d := .int p) trivial) fun v M2 ⟨e, l2⟩ => ?_
  subst e
  refine ⟨true, rfl, ?_⟩
  rw [if_neg (by decide), W_orT, W_tb, W_op, W_ix2 (o := o) (i := i) (p := p) (f := f) (by rfl), W_con, dLt_i, W_ok]
  refine ⟨false, by simp, ?_⟩
  rw [if_neg (by decide), W_orT, W_tb, W_op, W_ix2 (o := o) (i := i) (p := p) (f := f) (by rfl), W_con, dGt_i, W_ok]
  refine ⟨false, by simp; omega, ?_⟩
  rw [if_neg (by decide), W_orT, W_notT, W_tst, W_un, W_ix3 (o := o) (i := i) (p := p) (f := f) (by rfl), isi_tuple (kg _), W_ok]
  refine ⟨true, rfl, ?_⟩
  rw [if_neg (by decide), W_tb, W_op, W_call, W_cons, W_ix3 (o := o) (i := i) (p := p) (f := f) (by rfl)]
  simp only [W_nil]
  rw [bLen_g, W_ok, W_op, W_con, W_var (by rfl), shl_c (by omega), W_ok, dNe_i, W_ok]
  refine ⟨false, by simp, ?_⟩
  rw [if_neg (by decide), WS_nil]
  dsimp only
  rw [WS_seq, WS_setN, W_op, W_ix2 (o := o) (i := i) (p := p) (f := f) (by rfl), W_con, dEq_i, W_ok]
  dsimp only
  rw [WS_seq]
  have l3 := l1.trans l2
  refine WS_for (W_iVal ((W_ix3 (o := o) (i := i) (p := p) (f := f) (by rfl)).mpr ⟨_, rfl, fun w hw => ?_⟩))
  refine ⟨_, fun _ => True, fun k τ M' => (∃ b x4 x5, τ = [some (tabD o i p f), some (.int o), some (.int i), some (.bl b), x4, x5, none] ∧ (b = true ↔ p = 0 ∨ ∃ y x, y < k ∧ x < 2 ^ i ∧ (f y x).hasR = false)) ∧ Le M M', hw _ fun M' h => rfl, fun _ _ _ _ => trivial, ⟨⟨_, _, _, rfl, by simp⟩, l3⟩, ?_, ?_⟩
  · rintro k hk τ M5 ⟨⟨b, x4, x5, rfl, hbb⟩, l5⟩
    simp [gridD] at hk
    have kr : ∀ M : Sto, Kd M (rowD (2 ^ i) (f k)) := fun _ => trivial
    refine ⟨[some (tabD o i p f), some (.int o), some (.int i), some (.bl b), some (rowD (2 ^ i) (f k)), x5, none], by simp [Tg.put], ?_⟩
    rw [WS_seq, WS_if, W_orT, W_notT, W_tst, W_un, W_var (by rfl), isi_tuple (kr _), W_ok]
    refine ⟨true, rfl, ?_⟩
    rw [if_neg (by decide), W_tb, W_op, W_call, W_cons, W_var (by rfl)]
    simp only [W_nil]
    rw [bLen_r, W_ok, W_op, W_con, W_var (by rfl), shl_c (by omega), W_ok, dNe_i, W_ok]
    refine ⟨false, by simp, ?_⟩
    rw [if_neg (by decide), WS_nil]
    dsimp only
    refine WS_for (W_iVal ((W_var (d := rowD (2 ^ i) (f k)) (by rfl)).mpr ⟨_, rfl, fun w2 hw2 => ?_⟩))
    refine ⟨_, fun _ => True, fun j τ M' => (∃ b x5, τ = [some (tabD o i p f), some (.int o), some (.int i), some (.bl b), some (rowD (2 ^ i) (f k)), x5, none] ∧ (b = true ↔ p = 0 ∨ (∃ y x, y < k ∧ x < 2 ^ i ∧ (f y x).hasR = false) ∨ ∃ x, x < j ∧ (f k x).hasR = false)) ∧ Le M M', hw2 _ fun M' h => rfl, fun _ _ _ _ => trivial, ⟨⟨_, _, rfl, by simp [hbb]⟩, l5⟩, ?_, ?_⟩
    · rintro j hj τ M6 ⟨⟨b2, x5, rfl, hb2⟩, l6⟩
      simp at hj
      have kq : ∀ M : Sto, Kd M (f k j).D := fun _ => trivial
      have hq := hb k j hk hj
      refine ⟨[some (tabD o i p f), some (.int o), some (.int i), some (.bl b2), some (rowD (2 ^ i) (f k)), some (f k j).D, none], by simp [Tg.put], ?_⟩
      rw [WS_seq, WS_if, W_orT, W_notT, W_tst, W_un, W_var (by rfl), isi_tuple (kq _), W_ok]
      refine ⟨true, rfl, ?_⟩
      rw [if_neg (by decide), W_orT, W_tb, W_op, W_call, W_cons, W_var (by rfl)]
      simp only [W_nil]
      rw [show bLen [(f k j).D] M6 = .ok (.int 4) M6 from rfl, W_ok, W_con, dNe_i, W_ok]
      refine ⟨false, rfl, ?_⟩
      rw [if_neg (by decide), W_notT, W_tst, W_call, W_cons]
      have hcell : ∀ z, z < 4 → ∃ c : Int, [D.int (f k j).a, .int (f k j).b, .int (f k j).c, .int (f k j).d][z]? = some (.int c) ∧ Pk 300 c := fun z hz => by
        obtain ⟨q1, q2, q3, q4⟩ := hq
        match z, hz with
        | 0, _ => exact ⟨_, rfl, q1⟩
        | 1, _ => exact ⟨_, rfl, q2⟩
        | 2, _ => exact ⟨_, rfl, q3⟩
        | 3, _ => exact ⟨_, rfl, q4⟩
      refine W_lcR (by rfl) (W_iVal ((W_var (d := (f k j).D) (by rfl)).mpr ⟨[.int (f k j).a, .int (f k j).b, .int (f k j).c, .int (f k j).d], rfl, fun w3 hw3 => ⟨_, fun _ => .bl true, hw3 _ fun M' _ => rfl, by simp, fun z hz M7 l7 => ?_, fun M7 l7 h7 => ?_⟩⟩))
      · obtain ⟨c, hc, pc⟩ := hcell z (by simpa using hz)
        have hc2 : [D.int (f k j).a, .int (f k j).b, .int (f k j).c, .int (f k j).d][z] = .int c := by
          rw [List.getElem?_eq_getElem hz] at hc
          exact Option.some.inj hc
        refine ⟨_, rfl, ?_⟩
        rw [hc2]
        have h3 : ∀ M : Sto, dShl (.int 1) (.int 300) M = .ok (.int (2 ^ 300)) M := fun M => shl_c (k := 300) (by decide)
        rw [W_and, W_call, W_cons, W_var (by rfl)]
        simp only [W_nil]
        rw [W_lenF (by rfl)]
        refine W_mono (whole_ok (d := .int c) trivial) fun v M8 ⟨e, l8⟩ => ?_
        subst e
        refine ⟨true, rfl, ?_⟩
        rw [if_pos rfl, W_op, W_call, W_cons, W_var (by rfl)]
        simp only [W_nil]
        rw [bAbs_i, W_ok, W_op, W_con, W_con, h3, W_ok, dLt_i, pk_abs pc, W_ok]
        exact ⟨rfl, l8⟩
      · have e : (List.range [D.int (f k j).a, .int (f k j).b, .int (f k j).c, .int (f k j).d].length).map (fun _ => D.bl true) = [true, true, true, true].map D.bl := rfl
        rw [e] at h7
        simp only [W_nil]
        rw [bAll_s h7, W_ok]
        refine ⟨true, rfl, ?_⟩
        rw [if_neg (by decide), WS_nil]
        dsimp only
        rw [WS_setN, W_or, W_var (by rfl)]
        refine ⟨b2, rfl, ?_⟩
        have hiff : (b2 = true ∨ (f k j).hasR = false ↔ p = 0 ∨ (∃ y x, y < k ∧ x < 2 ^ i ∧ (f y x).hasR = false) ∨ ∃ x, x < j + 1 ∧ (f k x).hasR = false) := by
          rw [hb2]
          constructor
          · rintro ((h | h | ⟨x, hx, h⟩) | h)
            · exact .inl h
            · exact .inr (.inl h)
            · exact .inr (.inr ⟨x, by omega, h⟩)
            · exact .inr (.inr ⟨j, by omega, h⟩)
          · rintro (h | h | ⟨x, hx, h⟩)
            · exact .inl (.inl h)
            · exact .inl (.inr (.inl h))
            · rcases Nat.lt_or_ge x j with z | z
              · exact .inl (.inr (.inr ⟨x, z, h⟩))
              · have : x = j := by omega
                subst this; exact .inr h
        cases b2 with
        | true =>
          rw [if_pos rfl]
          exact ⟨⟨true, _, rfl, by rw [← hiff]; simp⟩, l6.trans l7⟩
        | false =>
          rw [if_neg (by decide), W_not, W_call, W_cons, W_var (by rfl)]
          simp only [W_nil]
          rw [W_lenF (by rfl)]
          refine W_mono has_r_ok fun v M8 ⟨e, l8⟩ => ?_
          refine ⟨(f k j).hasR, e, ⟨!(f k j).hasR, _, rfl, ?_⟩, (l6.trans l7).trans l8⟩
          rw [← hiff]; simp
    · rintro τ M6 ⟨⟨b2, x5, rfl, hb2⟩, l6⟩
      simp only [rowD, List.length_map, List.length_range] at hb2
      refine ⟨⟨b2, _, _, rfl, ?_⟩, l6⟩
      rw [hb2]
      constructor
      · rintro (h | ⟨y, x, hy, hx, h⟩ | ⟨x, hx, h⟩)
        · exact .inl h
        · exact .inr ⟨y, x, by omega, hx, h⟩
        · exact .inr ⟨k, x, by omega, hx, h⟩
      · rintro (h | ⟨y, x, hy, hx, h⟩)
        · exact .inl h
        · rcases Nat.lt_or_ge y k with z | z
          · exact .inr (.inl ⟨y, x, z, hx, h⟩)
          · have : y = k := by omega
            subst this; exact .inr (.inr ⟨x, hx, h⟩)
  · rintro τ M5 ⟨⟨b, x4, x5, rfl, hbb⟩, l5⟩
    simp only [List.length_map, List.length_range] at hbb
    dsimp only
    rw [WS_ret, W_var (by rfl)]
    have : b = true := by
      rw [hbb]
      rcases hfree with h | h
      · exact .inl h
      · right
        cases Classical.em (∃ y x, y < 2 ^ o ∧ x < 2 ^ i ∧ (f y x).hasR = false) with
        | inl h => exact h
        | inr hn =>
          have : allF (2 ^ o) (2 ^ i) Q.hasR f = true := allF_iff.mpr fun y x hy hx => by
            cases hh : (f y x).hasR with
            | true => rfl
            | false => exact absurd ⟨y, x, hy, hx, hh⟩ hn
          rw [this] at h; cases h
    rw [this]
    exact ⟨rfl, l5⟩
end
end Kp

set_option Elab.async false
set_option linter.all false
set_option maxRecDepth 100000
set_option maxHeartbeats 4000000
set_option exponentiation.threshold 4000
/-! Kp10: chain, over, sum, beside: what the law asks of the program's tables -/
namespace Kp
open PySem PySem.Spec PyProof.Rows L2 Mp K29
open Kq (Le Gr Wo Cs lt_of_get seq_le seq_gr seq_adr wo_tup wo_lst startD_eq)
section
variable {CN : Str → Addr} {M : Sto}
def dueS (h : Nat → Int) : Nat → Int
  | 0 => 0
  | k + 1 => dueS h k + h k
theorem due_cg {u v : Nat → Q} : ∀ k, Cg (NN WW) (dueS (fun m => val WW (u m) * val WW (v m)) k) (val WW (sumQ k fun m => (u m).mul (v m)))
  | 0 => Cg.of_eq (by simp [dueS, sumQ, val_q0])
  | k + 1 => by
    simp only [dueS, sumQ, val_add]
    exact (due_cg k).add val_mul.symm
theorem due_pk {h : Nat → Int} {a : Nat} : ∀ k, (∀ m, m < k → Pk a (h m)) → Pk (a + k) (dueS h k)
  | 0, _ => by
    unfold Pk dueS
    exact Nat.pos_of_ne_zero (by simp)
  | k + 1, hb => (due_pk k fun m hm => hb m (by omega)).add ((hb k (by omega)).mono (by omega)) (by omega)
theorem due_pk2 {h : Nat → Int} {a : Nat} : ∀ (n k : Nat), k ≤ 2 ^ n → (∀ m, m < k → Pk a (h m)) → Pk (a + n + 1) (dueS h k) := by
  intro n k hk hb
  have key : ∀ k, (∀ m, m < k → Pk a (h m)) → (dueS h k).natAbs ≤ k * 2 ^ a := by
    intro k
    induction k with
    | zero => intro _; simp [dueS]
    | succ k ih =>
      intro hb
      have h1 := ih fun m hm => hb m (by omega)
      have h2 := hb k (by omega)
      unfold Pk at h2
      simp only [dueS]
      rw [Nat.add_mul]
      omega
  have h1 := key k hb
  have h2 : k * 2 ^ a ≤ 2 ^ n * 2 ^ a := Nat.mul_le_mul_right _ hk
  have h3 : 2 ^ n * 2 ^ a = 2 ^ (a + n) := by rw [← Nat.pow_add, Nat.add_comm]
  unfold Pk
  rw [Nat.pow_succ]
  have : 0 < 2 ^ (a + n) := Nat.pos_of_ne_zero (by simp)
  omega
abbrev BB : Int := 10 ^ 12
theorem tok_pk {o i p : Nat} {f : F} (h : Tok BB o i p f) {y x : Nat} (hy : y < 2 ^ o) (hx : x < 2 ^ i) : (f y x).Pk 300 := bd_Pk (h.bd y x hy hx) (by decide +kernel)
theorem BB_3000 : BB ≤ 2 ^ 3000 := by decide +kernel
theorem chF_bd {a b c p q : Nat} {f g : F} (hf : Tok BB b a p f) (hg : Tok BB c b q g) : ∀ y x, y < 2 ^ c → x < 2 ^ a → (chF (2 ^ b) f g y x).Bd (2 ^ 120) := fun y x hy hx => by
  refine bd_mono (sumQ_bd (B := 4 * (BB * BB)) fun m hm => mul_bd (hg.bd y m hy hm) (hf.bd m x hm hx)) ?_
  have h1 : ((2 ^ b : Nat) : Int) ≤ 4096 := by
    have := Nat.pow_le_pow_right (by decide : 0 < 2) hf.ho
    omega
  have h2 := Int.mul_le_mul_of_nonneg_right h1 (by decide +kernel : (0 : Int) ≤ 4 * (BB * BB))
  have h3 : (4096 : Int) * (4 * (BB * BB)) + 1 ≤ 2 ^ 120 := by decide +kernel
  omega
theorem oneF_le {m n p : Nat} {f : F} : (oneF m n p f).1 ≤ p := by
  obtain ⟨k, e, _⟩ := (oneF_ok (m := m) (n := n) (p := p) (f := f)).k
  omega
theorem ch_tok {a b c p q : Nat} {f g : F} (hf : Tok BB b a p f) (hg : Tok BB c b q g) (hpq : p + q ≤ 300) : Tok (2 ^ 120) c a (oneF (2 ^ c) (2 ^ a) (p + q) (chF (2 ^ b) f g)).1 (oneF (2 ^ c) (2 ^ a) (p + q) (chF (2 ^ b) f g)).2 :=
  ⟨hg.ho, hf.hi, by have := oneF_le (m := 2 ^ c) (n := 2 ^ a) (p := p + q) (f := chF (2 ^ b) f g); omega, oneF_ok.free, oneF_ok.bd _ (chF_bd hf hg)⟩
theorem tok_pk2 {o i p : Nat} {f : F} (h : Tok (2 ^ 120) o i p f) {y x : Nat} (hy : y < 2 ^ o) (hx : x < 2 ^ i) : (f y x).Pk 300 := bd_Pk (h.bd y x hy hx) (by decide +kernel)
/-- a loop over two ranges, whose body leaves when something is wrong -/
theorem W_value {τ : Mp.Env} {f : FE} {R : D → Sto → Prop} (h : W (f τ M) fun d M1 => ∃ q : Q, d = q.D ∧ q.Pk 300 ∧ ∀ M2, Le M1 M2 → R (.int (val WW q)) M2) : W (eCall (lenF 1 (m__law_value CN)) (aCons f aNil) τ M) R := by
  rw [W_call, W_cons]
  refine W_mono h fun d M1 ⟨q, e, hq, z⟩ => ?_
  subst e
  rw [W_nil, W_lenF (by rfl)]
  refine W_mono (value_ok hq) fun v M2 ⟨e, l⟩ => ?_
  subst e
  exact z M2 l
theorem W_root {τ : Mp.Env} {f : FE} {Q : D → Sto → Prop} (h : W (f τ M) fun d M1 => ∃ n : Nat, d = .int n ∧ n ≤ 1000 ∧ ∀ M2, Le M1 M2 → Q (.int (rootI WW n)) M2) : W (eCall (lenF 1 (m__law_root CN)) (aCons f aNil) τ M) Q := by
  rw [W_call, W_cons]
  refine W_mono h fun d M1 ⟨n, e, hn, z⟩ => ?_
  subst e
  rw [W_nil, W_lenF (by rfl)]
  refine W_mono (root_ok hn) fun v M2 ⟨e, l⟩ => ?_
  subst e
  exact z M2 l
theorem chain_law {a b c p q : Nat} {f g : F} (hf : Tok BB b a p f) (hg : Tok BB c b q g) (hpq : p + q ≤ 300) : W (m__law_chain CN [tabD b a p f, tabD c b q g, tabD c a (oneF (2 ^ c) (2 ^ a) (p + q) (chF (2 ^ b) f g)).1 (oneF (2 ^ c) (2 ^ a) (p + q) (chF (2 ^ b) f g)).2] M) fun v M' => v = .bl true ∧ Le M M' := by
  have ht := ch_tok hf hg hpq
  have hent : ∀ y x, y < 2 ^ c → x < 2 ^ a → _ := fun y x hy hx => entry_ok (W := WW) (P := p + q) (f := chF (2 ^ b) f g) hy hx (due_cg (u := fun m => g y m) (v := fun m => f m x) (2 ^ b))
  have hle := oneF_le (m := 2 ^ c) (n := 2 ^ a) (p := p + q) (f := chF (2 ^ b) f g)
  generalize oneF (2 ^ c) (2 ^ a) (p + q) (chF (2 ^ b) f g) = r at *
  obtain ⟨tp, t⟩ := r
  dsimp only at *
  unfold m__law_chain
  refine W_def ?_
  rw [WS_seq, WS_if, W_notT, W_tst, W_call, W_cons, W_var (by rfl), W_cons, W_ix0 (o := c) (i := b) (p := q) (f := g) (by rfl), W_cons, W_ix1 (o := b) (i := a) (p := p) (f := f) (by rfl)]
  simp only [W_nil]
  rw [W_lenF (by rfl)]
  refine W_mono (table_ok ht.ho ht.hi (by omega) ht.free fun y x hy hx => tok_pk2 ht hy hx) fun v M1 ⟨e, l1⟩ => ?_
  subst e
  refine ⟨true, rfl, ?_⟩
  rw [if_neg (by decide), WS_nil]
  dsimp only
  rw [WS_seq]
  refine WS_for (W_rng ((W_ix0 (o := c) (i := b) (p := q) (f := g) (by rfl)).mpr ⟨c, rfl, hg.ho, fun w hw => ?_⟩))
  refine ⟨_, fun _ => True, fun _ τ M' => (∃ x3 x4 x5 x6, τ = [some (tabD b a p f), some (tabD c b q g), some (tabD c a tp t), x3, x4, x5, x6]) ∧ Le M M', hw _, fun _ _ _ _ => trivial, ⟨⟨_, _, _, _, rfl⟩, l1⟩, ?_, ?_⟩
  · rintro y hy τ M2 ⟨⟨x3, x4, x5, x6, rfl⟩, l2⟩
    simp at hy
    refine ⟨[some (tabD b a p f), some (tabD c b q g), some (tabD c a tp t), some (.int y), x4, x5, x6], by simp [Tg.put], ?_⟩
    refine WS_for (W_rng ((W_ix1 (o := b) (i := a) (p := p) (f := f) (by rfl)).mpr ⟨a, rfl, hf.hi, fun w hw => ?_⟩))
    refine ⟨_, fun _ => True, fun _ τ M' => (∃ x4 x5 x6, τ = [some (tabD b a p f), some (tabD c b q g), some (tabD c a tp t), some (.int y), x4, x5, x6]) ∧ Le M M', hw _, fun _ _ _ _ => trivial, ⟨⟨_, _, _, rfl⟩, l2⟩, ?_, ?_⟩
    · rintro x hx τ M3 ⟨⟨x4, x5, x6, rfl⟩, l3⟩
      simp at hx
      refine ⟨[some (tabD b a p f), some (tabD c b q g), some (tabD c a tp t), some (.int y), some (.int x), x5, x6], by simp [Tg.put], ?_⟩
      rw [WS_seq, WS_setN, W_con]
      dsimp only
      rw [WS_seq]
      refine WS_for (W_rng ((W_ix0 (o := b) (i := a) (p := p) (f := f) (by rfl)).mpr ⟨b, rfl, hf.ho, fun w hw => ?_⟩))
      refine ⟨_, fun _ => True, fun m τ M' => (∃ x6, τ = [some (tabD b a p f), some (tabD c b q g), some (tabD c a tp t), some (.int y), some (.int x), some (.int (dueS (fun m => val WW (g y m) * val WW (f m x)) m)), x6]) ∧ Le M M', hw _, fun _ _ _ _ => trivial, ⟨⟨_, rfl⟩, l3⟩, ?_, ?_⟩
      · rintro m hm τ M4 ⟨⟨x6, rfl⟩, l4⟩
        simp at hm
        refine ⟨[some (tabD b a p f), some (tabD c b q g), some (tabD c a tp t), some (.int y), some (.int x), some (.int (dueS (fun m => val WW (g y m) * val WW (f m x)) m)), some (.int m)], by simp [Tg.put], ?_⟩
        rw [WS_setN, W_op, W_var (by rfl), W_op]
        refine W_value ((W_ixx (o := c) (i := b) (p := q) (f := g) (y := y) (x := m) (by rfl) (by rfl) (by rfl) hy hm).mpr ⟨_, rfl, tok_pk hg hy hm, fun M5 l5 => ?_⟩)
        refine W_value ((W_ixx (o := b) (i := a) (p := p) (f := f) (y := m) (x := x) (by rfl) (by rfl) (by rfl) hm hx).mpr ⟨_, rfl, tok_pk hf hm hx, fun M6 l6 => ?_⟩)
        rw [dMul_i ((val_pk (tok_pk hg hy hm)).sm (by decide)) ((val_pk (tok_pk hf hm hx)).sm (by decide)), W_ok, dAdd_i, W_ok]
        exact ⟨⟨_, rfl⟩, (l4.trans l5).trans l6⟩
      · rintro τ M4 ⟨⟨x6, rfl⟩, l4⟩
        simp only [List.length_map, List.length_range]
        have hd : Pk 3000 (dueS (fun m => val WW (g y m) * val WW (f m x)) (2 ^ b)) := (due_pk2 (a := 2540) 12 (2 ^ b) (Nat.pow_le_pow_right (by decide) hf.ho) fun m hm => (val_pk (tok_pk hg hy hm)).mul (val_pk (tok_pk hf hm hx)) (by decide)).mono (by decide)
        rw [WS_if, W_notT, W_tst, W_call, W_cons, W_tup, W_cons, W_ixx (o := c) (i := a) (p := tp) (f := t) (y := y) (x := x) (by rfl) (by rfl) (by rfl) hy hx, W_cons, W_ix2 (o := c) (i := a) (p := tp) (f := t) (by rfl)]
        simp only [W_nil]
        refine ⟨by simp, ?_⟩
        rw [W_cons, W_var (by rfl), W_cons, W_op, W_ix2 (o := b) (i := a) (p := p) (f := f) (by rfl), W_ix2 (o := c) (i := b) (p := q) (f := g) (by rfl), dAdd_i, W_ok]
        simp only [W_nil]
        rw [W_lenF (by rfl), show ((p : Int) + (q : Int)) = ((p + q : Nat) : Int) by simp]
        refine W_mono (entry_law (tok_pk2 ht hy hx) (by omega) (by omega) hd (hent y x hy hx)) fun v M5 ⟨e, l5⟩ => ?_
        subst e
        refine ⟨true, rfl, ?_⟩
        rw [if_neg (by decide), WS_nil]
        exact ⟨⟨_, _, _, rfl⟩, l4.trans l5⟩
    · rintro τ M3 ⟨⟨x4, x5, x6, rfl⟩, l3⟩
      exact ⟨⟨_, _, _, _, rfl⟩, l3⟩
  · rintro τ M2 ⟨⟨x3, x4, x5, x6, rfl⟩, l2⟩
    dsimp only
    rw [WS_ret, W_con]
    exact ⟨rfl, l2⟩
end
end Kp

set_option Elab.async false
set_option linter.all false
set_option maxRecDepth 100000
set_option maxHeartbeats 4000000
set_option exponentiation.threshold 4000
/-! Kp11: over, sum, beside -/
namespace Kp
open PySem PySem.Spec PyProof.Rows L2 Mp K29
open Kq (Le Gr Wo Cs lt_of_get seq_le seq_gr seq_adr wo_tup wo_lst startD_eq)
section
variable {CN : Str → Addr} {M : Sto}
theorem tok_pkB {B : Int} {o i p : Nat} {f : F} (h : Tok B o i p f) (hB : B ≤ 2 ^ 300) {y x : Nat} (hy : y < 2 ^ o) (hx : x < 2 ^ i) : (f y x).Pk 300 := bd_Pk (h.bd y x hy hx) hB
theorem mir_tok {B : Int} {o i p : Nat} {f : F} (h : Tok B o i p f) : Tok B i o p (mirF f) := ⟨h.hi, h.ho, h.hp, by rw [allF_mir]; exact h.free, fun y x hy hx => mir_bd (h.bd x y hx hy)⟩
theorem mirrored_tok {B : Int} {o i p : Nat} {f : F} (h : Tok B o i p f) : W (m_mirrored CN [tabD o i p f] M) fun v M' => v = tabD i o p (mirF f) ∧ Le M M' := by
  have := mirrored_ok (CN := CN) (M := M) (f := f) h.ho h.hi (p := p) (by have := h.hp; omega)
  rw [oneF_id (mir_tok h).free] at this
  exact this
theorem W3 : (2 : Int) ^ 960 = WW * WW * WW := by rw [← Int.pow_add, ← Int.pow_add]
theorem W2 : (2 : Int) ^ 640 = WW * WW := by rw [← Int.pow_add]
theorem over_law {B : Int} {o i p : Nat} {f : F} (h : Tok B o i p f) (hB : B ≤ 2 ^ 300) (hp : p ≤ 300) : W (m__law_over CN [tabD o i p f, tabD i o p (mirF f)] M) fun v M' => v = .bl true ∧ Le M M' := by
  have ht := mir_tok h
  have h9 : ∀ M : Sto, dShl (.int 1) (.int 960) M = .ok (.int (2 ^ 960)) M := fun M => shl_c (k := 960) (by decide)
  have h6 : ∀ M : Sto, dShl (.int 1) (.int 640) M = .ok (.int (2 ^ 640)) M := fun M => shl_c (k := 640) (by decide)
  have h12 : ∀ M : Sto, dShl (.int 1) (.int 1280) M = .ok (.int (2 ^ 1280)) M := fun M => shl_c (k := 1280) (by decide)
  have hNN : (0 : Int) < NN WW := by rw [← NN_eq]; decide +kernel
  have s9 : Sm (2 ^ 960) := (Pk.two (k := 960) (l := 961) (by decide)).sm (by decide)
  have s6 : Sm (2 ^ 640) := (Pk.two (k := 640) (l := 641) (by decide)).sm (by decide)
  unfold m__law_over
  refine W_def ?_
  rw [WS_seq, WS_if, W_orT, W_notT, W_tst, W_call, W_cons, W_var (by rfl), W_cons, W_ix1 (o := o) (i := i) (p := p) (f := f) (by rfl), W_cons, W_ix0 (o := o) (i := i) (p := p) (f := f) (by rfl)]
  simp only [W_nil]
  rw [W_lenF (by rfl)]
  refine W_mono (table_ok ht.ho ht.hi hp ht.free fun y x hy hx => tok_pkB ht hB hy hx) fun v M1 ⟨e, l1⟩ => ?_
  subst e
  refine ⟨true, rfl, ?_⟩
  rw [if_neg (by decide), W_tb, W_op, W_ix2 (o := i) (i := o) (p := p) (f := mirF f) (by rfl), W_ix2 (o := o) (i := i) (p := p) (f := f) (by rfl), dNe_i, W_ok]
  refine ⟨false, by simp, ?_⟩
  rw [if_neg (by decide), WS_nil]
  dsimp only
  rw [WS_seq]
  refine WS_for (W_rng ((W_ix0 (o := o) (i := i) (p := p) (f := f) (by rfl)).mpr ⟨o, rfl, h.ho, fun w hw => ?_⟩))
  refine ⟨_, fun _ => True, fun _ τ M' => (∃ x3 x4 x5 x6, τ = [some (tabD o i p f), some (tabD i o p (mirF f)), x3, x4, x5, x6]) ∧ Le M M', hw _, fun _ _ _ _ => trivial, ⟨⟨_, _, _, _, rfl⟩, l1⟩, ?_, ?_⟩
  · rintro y hy τ M2 ⟨⟨x3, x4, x5, x6, rfl⟩, l2⟩
    simp at hy
    refine ⟨[some (tabD o i p f), some (tabD i o p (mirF f)), some (.int y), x4, x5, x6], by simp [Tg.put], ?_⟩
    refine WS_for (W_rng ((W_ix1 (o := o) (i := i) (p := p) (f := f) (by rfl)).mpr ⟨i, rfl, h.hi, fun w hw => ?_⟩))
    refine ⟨_, fun _ => True, fun _ τ M' => (∃ x4 x5 x6, τ = [some (tabD o i p f), some (tabD i o p (mirF f)), some (.int y), x4, x5, x6]) ∧ Le M M', hw _, fun _ _ _ _ => trivial, ⟨⟨_, _, _, rfl⟩, l2⟩, ?_, ?_⟩
    · rintro x hx τ M3 ⟨⟨x4, x5, x6, rfl⟩, l3⟩
      simp at hx
      refine ⟨[some (tabD o i p f), some (tabD i o p (mirF f)), some (.int y), some (.int x), x5, x6], by simp [Tg.put], ?_⟩
      obtain ⟨k1, k2, k3, k4⟩ := tok_pkB h hB hy hx
      rw [WS_seq, WS_setN, W_ixx (o := o) (i := i) (p := p) (f := f) (y := y) (x := x) (by rfl) (by rfl) (by rfl) hy hx]
      dsimp only
      rw [WS_seq, WS_setN, W_op, W_op, W_op, W_op, W_var (d := (f y x).D) (by rfl)]
      simp only [W_con, Q.D, dIx_t0, W_ok]
      rw [W_op, W_op, W_var (d := (f y x).D) (by rfl)]
      simp only [W_con, Q.D, dIx_t1, W_ok, W_op, h9, dMul_i (k2.sm (by decide)) s9, dSub_i]
      rw [W_var (d := (f y x).D) (by rfl)]
      simp only [W_con, Q.D, dIx_t2, W_ok, W_op, h6, dMul_i (k3.sm (by decide)) s6, dSub_i]
      rw [W_var (d := (f y x).D) (by rfl)]
      simp only [W_con, Q.D, dIx_t3, W_ok, W_op, shl_320, dMul_i (k4.sm (by decide)) sm_WW, dSub_i]
      rw [WS_if, W_tb, W_op, W_op, W_call, W_cons, W_op]
      refine W_value ((W_ixx (o := i) (i := o) (p := p) (f := mirF f) (y := x) (x := y) (by rfl) (by rfl) (by rfl) hx hy).mpr ⟨_, rfl, tok_pkB ht hB hx hy, fun M4 l4 => ?_⟩)
      rw [W_var (by rfl), dSub_i, W_ok]
      simp only [W_nil]
      have e0 : val WW (mirF f x y) - ((f y x).a - (f y x).b * 2 ^ 960 - (f y x).c * 2 ^ 640 - (f y x).d * WW) = 0 := by
        show val WW (f y x).mir - _ = 0
        rw [val_mir, W3, W2]
        exact Int.sub_self _
      rw [e0, bInt_i, W_ok, W_op, W_op, W_con, W_con, h12, W_ok, W_con, dAdd_i, W_ok, NN_eq, dMod_i hNN, W_ok, W_con, dNe_i, W_ok]
      refine ⟨false, by simp, ?_⟩
      rw [if_neg (by decide), WS_nil]
      exact ⟨⟨_, _, _, rfl⟩, l3.trans l4⟩
    · rintro τ M3 ⟨⟨x4, x5, x6, rfl⟩, l3⟩
      exact ⟨⟨_, _, _, _, rfl⟩, l3⟩
  · rintro τ M2 ⟨⟨x3, x4, x5, x6, rfl⟩, l2⟩
    dsimp only
    rw [WS_ret, W_con]
    exact ⟨rfl, l2⟩
theorem ad_bd {o i p q : Nat} {f g : F} (hf : Tok BB o i p f) (hg : Tok BB o i q g) (hp : p ≤ 100) (hq : q ≤ 100) : ∀ y x, y < 2 ^ o → x < 2 ^ i → (adF p q f g y x).Bd (2 ^ 150) := fun y x hy hx => by
  have key : ∀ {k : Nat} {z : Q}, k ≤ 100 → z.Bd BB → (rp k z).Bd (2 ^ 149) := fun {k z} hk hz => by
    refine bd_mono (rp_bd k hz) ?_
    have h1 : (2 : Int) ^ k ≤ 2 ^ 100 := by exact_mod_cast Nat.pow_le_pow_right (by decide : 0 < 2) hk
    have h2 := Int.mul_le_mul_of_nonneg_right h1 (by decide +kernel : (0 : Int) ≤ BB)
    have h3 : (2 : Int) ^ 100 * BB ≤ 2 ^ 149 := by decide +kernel
    omega
  exact bd_mono (add_bd (key (by omega) (hf.bd y x hy hx)) (key (by omega) (hg.bd y x hy hx))) (by decide +kernel)
theorem ad_tok {o i p q : Nat} {f g : F} (hf : Tok BB o i p f) (hg : Tok BB o i q g) (hp : p ≤ 100) (hq : q ≤ 100) : Tok (2 ^ 150) o i (oneF (2 ^ o) (2 ^ i) (max p q) (adF p q f g)).1 (oneF (2 ^ o) (2 ^ i) (max p q) (adF p q f g)).2 :=
  ⟨hf.ho, hf.hi, by have := oneF_le (m := 2 ^ o) (n := 2 ^ i) (p := max p q) (f := adF p q f g); omega, oneF_ok.free, oneF_ok.bd _ (ad_bd hf hg hp hq)⟩
theorem sum_law {o i p q : Nat} {f g : F} (hf : Tok BB o i p f) (hg : Tok BB o i q g) (hp : p ≤ 100) (hq : q ≤ 100) : W (m__law_sum CN [tabD o i p f, tabD o i q g, tabD o i (oneF (2 ^ o) (2 ^ i) (max p q) (adF p q f g)).1 (oneF (2 ^ o) (2 ^ i) (max p q) (adF p q f g)).2] M) fun v M' => v = .bl true ∧ Le M M' := by
  have ht := ad_tok hf hg hp hq
  have hent : ∀ y x, y < 2 ^ o → x < 2 ^ i → _ := fun y x hy hx => entry_sum (W := WW) (m := 2 ^ o) (n := 2 ^ i) (l := p) (r := q) (f := f) (g := g) (h := adF p q f g) hy hx rfl
  have hle := oneF_le (m := 2 ^ o) (n := 2 ^ i) (p := max p q) (f := adF p q f g)
  generalize oneF (2 ^ o) (2 ^ i) (max p q) (adF p q f g) = r at *
  obtain ⟨tp, t⟩ := r
  dsimp only at *
  unfold m__law_sum
  refine W_def ?_
  rw [WS_seq, WS_if, W_notT, W_tst, W_call, W_cons, W_var (by rfl), W_cons, W_ix0 (o := o) (i := i) (p := p) (f := f) (by rfl), W_cons, W_ix1 (o := o) (i := i) (p := p) (f := f) (by rfl)]
  simp only [W_nil]
  rw [W_lenF (by rfl)]
  refine W_mono (table_ok ht.ho ht.hi (by omega) ht.free fun y x hy hx => tok_pkB ht (by decide +kernel) hy hx) fun v M1 ⟨e, l1⟩ => ?_
  subst e
  refine ⟨true, rfl, ?_⟩
  rw [if_neg (by decide), WS_nil]
  dsimp only
  rw [WS_seq]
  refine WS_for (W_rng ((W_ix0 (o := o) (i := i) (p := p) (f := f) (by rfl)).mpr ⟨o, rfl, hf.ho, fun w hw => ?_⟩))
  refine ⟨_, fun _ => True, fun _ τ M' => (∃ x3 x4 x5, τ = [some (tabD o i p f), some (tabD o i q g), some (tabD o i tp t), x3, x4, x5]) ∧ Le M M', hw _, fun _ _ _ _ => trivial, ⟨⟨_, _, _, rfl⟩, l1⟩, ?_, ?_⟩
  · rintro y hy τ M2 ⟨⟨x3, x4, x5, rfl⟩, l2⟩
    simp at hy
    refine ⟨[some (tabD o i p f), some (tabD o i q g), some (tabD o i tp t), some (.int y), x4, x5], by simp [Tg.put], ?_⟩
    refine WS_for (W_rng ((W_ix1 (o := o) (i := i) (p := p) (f := f) (by rfl)).mpr ⟨i, rfl, hf.hi, fun w hw => ?_⟩))
    refine ⟨_, fun _ => True, fun _ τ M' => (∃ x4 x5, τ = [some (tabD o i p f), some (tabD o i q g), some (tabD o i tp t), some (.int y), x4, x5]) ∧ Le M M', hw _, fun _ _ _ _ => trivial, ⟨⟨_, _, rfl⟩, l2⟩, ?_, ?_⟩
    · rintro x hx τ M3 ⟨⟨x4, x5, rfl⟩, l3⟩
      simp at hx
      have pf := tok_pk hf hy hx
      have pg := tok_pk hg hy hx
      refine ⟨[some (tabD o i p f), some (tabD o i q g), some (tabD o i tp t), some (.int y), some (.int x), x5], by simp [Tg.put], ?_⟩
      rw [WS_seq, WS_setN, W_op, W_op]
      refine W_value ((W_ixx (o := o) (i := i) (p := p) (f := f) (y := y) (x := x) (by rfl) (by rfl) (by rfl) hy hx).mpr ⟨_, rfl, pf, fun M4 l4 => ?_⟩)
      refine W_root ((W_ix2 (o := o) (i := i) (p := q) (f := g) (by rfl)).mpr ⟨_, rfl, by omega, fun M5 l5 => ?_⟩)
      rw [dMul_i ((val_pk pf).sm (by decide)) ((root_pk (by omega)).sm (by decide)), W_ok, W_op]
      refine W_value ((W_ixx (o := o) (i := i) (p := q) (f := g) (y := y) (x := x) (by rfl) (by rfl) (by rfl) hy hx).mpr ⟨_, rfl, pg, fun M6 l6 => ?_⟩)
      refine W_root ((W_ix2 (o := o) (i := i) (p := p) (f := f) (by rfl)).mpr ⟨_, rfl, by omega, fun M7 l7 => ?_⟩)
      rw [dMul_i ((val_pk pg).sm (by decide)) ((root_pk (by omega)).sm (by decide)), W_ok, dAdd_i, W_ok]
      dsimp only
      have hd : Pk 3000 (val WW (f y x) * rootI WW q + val WW (g y x) * rootI WW p) := ((val_pk pf).mul (root_pk (by omega)) (by decide : 1270 + 1463 ≤ 2800)).add ((val_pk pg).mul (root_pk (by omega)) (by decide : 1270 + 1463 ≤ 2800)) (by decide)
      rw [WS_if, W_notT, W_tst, W_call, W_cons, W_tup, W_cons, W_ixx (o := o) (i := i) (p := tp) (f := t) (y := y) (x := x) (by rfl) (by rfl) (by rfl) hy hx, W_cons, W_ix2 (o := o) (i := i) (p := tp) (f := t) (by rfl)]
      simp only [W_nil]
      refine ⟨by simp, ?_⟩
      rw [W_cons, W_var (by rfl), W_cons, W_op, W_ix2 (o := o) (i := i) (p := p) (f := f) (by rfl), W_ix2 (o := o) (i := i) (p := q) (f := g) (by rfl), dAdd_i, W_ok]
      simp only [W_nil]
      rw [W_lenF (by rfl), show ((p : Int) + (q : Int)) = ((p + q : Nat) : Int) by simp]
      refine W_mono (entry_law (tok_pkB ht (by decide +kernel) hy hx) (by omega) (by omega) hd (hent y x hy hx)) fun v M8 ⟨e, l8⟩ => ?_
      subst e
      refine ⟨true, rfl, ?_⟩
      rw [if_neg (by decide), WS_nil]
      exact ⟨⟨_, _, rfl⟩, (((((l3.trans l4).trans l5).trans l6).trans l7).trans l8)⟩
    · rintro τ M3 ⟨⟨x4, x5, rfl⟩, l3⟩
      exact ⟨⟨_, _, _, rfl⟩, l3⟩
  · rintro τ M2 ⟨⟨x3, x4, x5, rfl⟩, l2⟩
    dsimp only
    rw [WS_ret, W_con]
    exact ⟨rfl, l2⟩
end
end Kp

set_option Elab.async false
set_option linter.all false
set_option maxRecDepth 100000
set_option maxHeartbeats 4000000
set_option exponentiation.threshold 4000
/-! Kp12: beside; the tape -/
namespace Kp
open PySem PySem.Spec PyProof.Rows L2 Mp K29
open Kq (Le Gr Wo Cs lt_of_get seq_le seq_gr seq_adr wo_tup wo_lst startD_eq)
section
variable {CN : Str → Addr} {M : Sto}
theorem band_mask (y k : Nat) : Builtin.bitAnd (y : Int) (2 ^ k - 1) = ((y % 2 ^ k : Nat) : Int) := by
  have h0 : 0 < 2 ^ k := Nat.pos_of_ne_zero (by simp)
  have e : ((2 : Int) ^ k - 1) = ((2 ^ k - 1 : Nat) : Int) := by
    have : ((2 ^ k : Nat) : Int) = 2 ^ k := by simp
    omega
  rw [e]
  unfold Builtin.bitAnd
  simp only [Int.natCast_nonneg, decide_true]
  rw [Int.toNat_natCast, Int.toNat_natCast, Nat.and_two_pow_sub_one_eq_mod]
theorem sb_bd {lo li ho hi p q : Nat} {f g : F} (hf : Tok BB lo li p f) (hg : Tok BB ho hi q g) : ∀ y x, y < 2 ^ (lo + ho) → x < 2 ^ (li + hi) → (sbF (2 ^ lo) (2 ^ li) f g y x).Bd (2 ^ 120) := fun y x hy hx => by
  refine bd_mono (mul_bd (hf.bd _ _ (Nat.mod_lt _ (pow_pos' _)) (Nat.mod_lt _ (pow_pos' _))) (hg.bd _ _ ?_ ?_)) (by decide +kernel)
  · rw [Nat.pow_add] at hy; exact Nat.div_lt_of_lt_mul hy
  · rw [Nat.pow_add] at hx; exact Nat.div_lt_of_lt_mul hx
theorem sb_tok {lo li ho hi p q : Nat} {f g : F} (hf : Tok BB lo li p f) (hg : Tok BB ho hi q g) (h12 : lo + ho ≤ 12) (h13 : li + hi ≤ 12) (hpq : p + q ≤ 300) :
    Tok (2 ^ 120) (lo + ho) (li + hi) (oneF (2 ^ (lo + ho)) (2 ^ (li + hi)) (p + q) (sbF (2 ^ lo) (2 ^ li) f g)).1 (oneF (2 ^ (lo + ho)) (2 ^ (li + hi)) (p + q) (sbF (2 ^ lo) (2 ^ li) f g)).2 :=
  ⟨h12, h13, by have := oneF_le (m := 2 ^ (lo + ho)) (n := 2 ^ (li + hi)) (p := p + q) (f := sbF (2 ^ lo) (2 ^ li) f g); omega, oneF_ok.free, oneF_ok.bd _ (sb_bd hf hg)⟩
theorem beside_law {lo li ho hi p q : Nat} {f g : F} (hf : Tok BB lo li p f) (hg : Tok BB ho hi q g) (h12 : lo + ho ≤ 12) (h13 : li + hi ≤ 12) (hpq : p + q ≤ 300) :
    W (m__law_beside CN [tabD lo li p f, tabD ho hi q g, tabD (lo + ho) (li + hi) (oneF (2 ^ (lo + ho)) (2 ^ (li + hi)) (p + q) (sbF (2 ^ lo) (2 ^ li) f g)).1 (oneF (2 ^ (lo + ho)) (2 ^ (li + hi)) (p + q) (sbF (2 ^ lo) (2 ^ li) f g)).2] M) fun v M' => v = .bl true ∧ Le M M' := by
  have ht := sb_tok hf hg h12 h13 hpq
  have hent : ∀ y x, y < 2 ^ (lo + ho) → x < 2 ^ (li + hi) → _ := fun y x hy hx => entry_ok (W := WW) (P := p + q) (f := sbF (2 ^ lo) (2 ^ li) f g) hy hx (val_mul (x := f (y % 2 ^ lo) (x % 2 ^ li)) (y := g (y / 2 ^ lo) (x / 2 ^ li))).symm
  have hle := oneF_le (m := 2 ^ (lo + ho)) (n := 2 ^ (li + hi)) (p := p + q) (f := sbF (2 ^ lo) (2 ^ li) f g)
  generalize oneF (2 ^ (lo + ho)) (2 ^ (li + hi)) (p + q) (sbF (2 ^ lo) (2 ^ li) f g) = r at *
  obtain ⟨tp, t⟩ := r
  dsimp only at *
  have e3 : ((lo : Int) + (ho : Int)) = ((lo + ho : Nat) : Int) := by simp
  have e4 : ((li : Int) + (hi : Int)) = ((li + hi : Nat) : Int) := by simp
  unfold m__law_beside
  refine W_def ?_
  rw [WS_seq, WS_setN, W_op, W_ix0 (o := lo) (i := li) (p := p) (f := f) (by rfl), W_ix0 (o := ho) (i := hi) (p := q) (f := g) (by rfl), dAdd_i, W_ok, e3]
  dsimp only
  rw [WS_seq, WS_setN, W_op, W_ix1 (o := lo) (i := li) (p := p) (f := f) (by rfl), W_ix1 (o := ho) (i := hi) (p := q) (f := g) (by rfl), dAdd_i, W_ok, e4]
  dsimp only
  rw [WS_seq, WS_if, W_notT, W_tst, W_call, W_cons, W_var (by rfl), W_cons, W_var (by rfl), W_cons, W_var (by rfl)]
  simp only [W_nil]
  rw [W_lenF (by rfl)]
  refine W_mono (table_ok ht.ho ht.hi (by omega) ht.free fun y x hy hx => tok_pkB ht (by decide +kernel) hy hx) fun v M1 ⟨e, l1⟩ => ?_
  subst e
  refine ⟨true, rfl, ?_⟩
  rw [if_neg (by decide), WS_nil]
  dsimp only
  rw [WS_seq]
  refine WS_for (W_rng ((W_var (by rfl)).mpr ⟨lo + ho, rfl, h12, fun w hw => ?_⟩))
  refine ⟨_, fun _ => True, fun _ τ M' => (∃ x3 x4 x5 x6, τ = [some (tabD lo li p f), some (tabD ho hi q g), some (tabD (lo + ho) (li + hi) tp t), some (.int (lo + ho : Nat)), some (.int (li + hi : Nat)), x3, x4, x5, x6]) ∧ Le M M', hw _, fun _ _ _ _ => trivial, ⟨⟨_, _, _, _, rfl⟩, l1⟩, ?_, ?_⟩
  · rintro y hy τ M2 ⟨⟨x3, x4, x5, x6, rfl⟩, l2⟩
    simp only [List.length_map, List.length_range] at hy
    refine ⟨[some (tabD lo li p f), some (tabD ho hi q g), some (tabD (lo + ho) (li + hi) tp t), some (.int (lo + ho : Nat)), some (.int (li + hi : Nat)), some (.int y), x4, x5, x6], by simp [Tg.put], ?_⟩
    refine WS_for (W_rng ((W_var (by rfl)).mpr ⟨li + hi, rfl, h13, fun w hw => ?_⟩))
    refine ⟨_, fun _ => True, fun _ τ M' => (∃ x4 x5 x6, τ = [some (tabD lo li p f), some (tabD ho hi q g), some (tabD (lo + ho) (li + hi) tp t), some (.int (lo + ho : Nat)), some (.int (li + hi : Nat)), some (.int y), x4, x5, x6]) ∧ Le M M', hw _, fun _ _ _ _ => trivial, ⟨⟨_, _, _, rfl⟩, l2⟩, ?_, ?_⟩
    · rintro x hx τ M3 ⟨⟨x4, x5, x6, rfl⟩, l3⟩
      simp only [List.length_map, List.length_range] at hx
      have a1 : y % 2 ^ lo < 2 ^ lo := Nat.mod_lt _ (pow_pos' _)
      have a2 : x % 2 ^ li < 2 ^ li := Nat.mod_lt _ (pow_pos' _)
      have a3 : y / 2 ^ lo < 2 ^ ho := by rw [Nat.pow_add] at hy; exact Nat.div_lt_of_lt_mul hy
      have a4 : x / 2 ^ li < 2 ^ hi := by rw [Nat.pow_add] at hx; exact Nat.div_lt_of_lt_mul hx
      have pf := tok_pk hf a1 a2
      have pg := tok_pk hg a3 a4
      have d1 : ((y : Int) / 2 ^ lo) = ((y / 2 ^ lo : Nat) : Int) := by simp
      have d2 : ((x : Int) / 2 ^ li) = ((x / 2 ^ li : Nat) : Int) := by simp
      refine ⟨[some (tabD lo li p f), some (tabD ho hi q g), some (tabD (lo + ho) (li + hi) tp t), some (.int (lo + ho : Nat)), some (.int (li + hi : Nat)), some (.int y), some (.int x), x5, x6], by simp [Tg.put], ?_⟩
      rw [WS_seq, WS_setN, W_op, W_op, W_ix3 (o := lo) (i := li) (p := p) (f := f) (by rfl), W_op, W_var (by rfl), W_op, W_op, W_con, W_ix0 (o := lo) (i := li) (p := p) (f := f) (by rfl), shl_c (by have := hf.ho; omega), W_ok, W_con, dSub_i, W_ok, dAnd_i, W_ok, band_mask, dIx_g a1, W_ok]
      rw [W_op, W_var (by rfl), W_op, W_op, W_con, W_ix1 (o := lo) (i := li) (p := p) (f := f) (by rfl), shl_c (by have := hf.hi; omega), W_ok, W_con, dSub_i, W_ok, dAnd_i, W_ok, band_mask, dIx_r a2, W_ok]
      dsimp only
      rw [WS_seq, WS_setN, W_op, W_op, W_ix3 (o := ho) (i := hi) (p := q) (f := g) (by rfl), W_op, W_var (by rfl), W_ix0 (o := lo) (i := li) (p := p) (f := f) (by rfl), dShr_i, W_ok, d1, dIx_g a3, W_ok]
      rw [W_op, W_var (by rfl), W_ix1 (o := lo) (i := li) (p := p) (f := f) (by rfl), dShr_i, W_ok, d2, dIx_r a4, W_ok]
      dsimp only
      rw [WS_if, W_notT, W_tst, W_call, W_cons, W_tup, W_cons, W_ixx (o := lo + ho) (i := li + hi) (p := tp) (f := t) (y := y) (x := x) (by rfl) (by rfl) (by rfl) hy hx, W_cons, W_ix2 (o := lo + ho) (i := li + hi) (p := tp) (f := t) (by rfl)]
      simp only [W_nil]
      refine ⟨by simp, ?_⟩
      rw [W_cons, W_op]
      refine W_value ((W_var (d := (f (y % 2 ^ lo) (x % 2 ^ li)).D) (by rfl)).mpr ⟨_, rfl, pf, fun M4 l4 => ?_⟩)
      refine W_value ((W_var (d := (g (y / 2 ^ lo) (x / 2 ^ li)).D) (by rfl)).mpr ⟨_, rfl, pg, fun M5 l5 => ?_⟩)
      rw [dMul_i ((val_pk pf).sm (by decide)) ((val_pk pg).sm (by decide)), W_ok]
      have hd : Pk 3000 (val WW (f (y % 2 ^ lo) (x % 2 ^ li)) * val WW (g (y / 2 ^ lo) (x / 2 ^ li))) := (val_pk pf).mul (val_pk pg) (by decide)
      rw [W_cons, W_op, W_ix2 (o := lo) (i := li) (p := p) (f := f) (by rfl), W_ix2 (o := ho) (i := hi) (p := q) (f := g) (by rfl), dAdd_i, W_ok]
      simp only [W_nil]
      rw [W_lenF (by rfl), show ((p : Int) + (q : Int)) = ((p + q : Nat) : Int) by simp]
      refine W_mono (entry_law (tok_pkB ht (by decide +kernel) hy hx) (by omega) (by omega) hd (hent y x hy hx)) fun v M8 ⟨e, l8⟩ => ?_
      subst e
      refine ⟨true, rfl, ?_⟩
      rw [if_neg (by decide), WS_nil]
      exact ⟨⟨_, _, _, rfl⟩, ((l3.trans l4).trans l5).trans l8⟩
    · rintro τ M3 ⟨⟨x4, x5, x6, rfl⟩, l3⟩
      exact ⟨⟨_, _, _, _, rfl⟩, l3⟩
  · rintro τ M2 ⟨⟨x3, x4, x5, x6, rfl⟩, l2⟩
    dsimp only
    rw [WS_ret, W_con]
    exact ⟨rfl, l2⟩
end
end Kp

set_option Elab.async false
set_option linter.all false
set_option maxRecDepth 100000
set_option maxHeartbeats 4000000
set_option exponentiation.threshold 4000
/-! Kp13: the tape: draws -/
namespace Kp
open PySem PySem.Spec PyProof.Rows L2 Mp K29
open Kq (Le Gr Wo Cs lt_of_get seq_le seq_gr seq_adr wo_tup wo_lst startD_eq)
def TpO (c : Nat) (o : MO) : Prop := ∃ p q m : Nat, o = .lst [.adr c, .int p, .int q, .int m] ∧ m < 2305843009213693951
/-- what a draw leaves -/
def Tr (t c : Nat) (M M' : Sto) : Prop := Gr t M M' ∧ ∃ o, M'[t]? = some o ∧ TpO c o
structure Tape (t c : Nat) (cs : List Int) (M : Sto) : Prop where
  o : ∃ o, M[t]? = some o ∧ TpO c o
  ne : c ≠ t
  cell : M[c]? = some (.lst (cs.map D.int))
  log : ∀ z ∈ cs, z.natAbs.log2 ≤ 1048576
  len : cs.length < 100000
section
variable {CN : Str → Addr} {M : Sto} {t c : Nat} {cs : List Int}
theorem Tape.lt (h : Tape t c cs M) : t < M.length := by
  obtain ⟨o, e, _⟩ := h.o
  exact lt_of_get e
theorem Tape.tr (h : Tape t c cs M) : Tr t c M M := ⟨Gr.rfl, h.o⟩
theorem Tr.trans {M N O : Sto} (h : Tr t c M N) (k : Tr t c N O) : Tr t c M O := ⟨h.1.trans k.1, k.2⟩
theorem Tape.step {M' : Sto} (h : Tape t c cs M) (k : Tr t c M M') : Tape t c cs M' := ⟨k.2, h.ne, by rw [k.1.2 c (lt_of_get h.cell) h.ne, h.cell], h.log, h.len⟩
theorem Tape.le {M' : Sto} (h : Tape t c cs M) (k : Le M M') : Tr t c M M' := ⟨k.gr, by
  obtain ⟨o, e, z⟩ := h.o
  exact ⟨o, k.get e, z⟩⟩
/-- a change of another object -/
theorem Tr.setB {M' : Sto} {n : Nat} {o : MO} (h : Tape t c cs M) (k : Tr t c M M') (hn : M.length ≤ n) : Tr t c M (M'.set n o) := ⟨k.1.setB hn, by
  obtain ⟨o', e, z⟩ := k.2
  refine ⟨o', ?_, z⟩
  rw [get_setN (by have := h.lt; omega), e]⟩
theorem tIx0 {a b d e : D} (h : M[t]? = some (.lst [a, b, d, e])) : dIx (.adr t) (.int 0) M = .ok a M := dIx_s (xs := [a, b, d, e]) (j := 0) (by rw [seq_adr, h]) (by simp)
theorem tIx1 {a b d e : D} (h : M[t]? = some (.lst [a, b, d, e])) : dIx (.adr t) (.int 1) M = .ok b M := dIx_s (xs := [a, b, d, e]) (j := 1) (by rw [seq_adr, h]) (by simp)
theorem tIx2 {a b d e : D} (h : M[t]? = some (.lst [a, b, d, e])) : dIx (.adr t) (.int 2) M = .ok d M := dIx_s (xs := [a, b, d, e]) (j := 2) (by rw [seq_adr, h]) (by simp)
theorem tIx3 {a b d e : D} (h : M[t]? = some (.lst [a, b, d, e])) : dIx (.adr t) (.int 3) M = .ok e M := dIx_s (xs := [a, b, d, e]) (j := 3) (by rw [seq_adr, h]) (by simp)
theorem tSet1 {a b d e x : D} (h : M[t]? = some (.lst [a, b, d, e])) : dSet (.adr t) (.int 1) x M = .ok () (M.set t (.lst [a, x, d, e])) := by
  unfold dSet; simp only [h]; rfl
theorem tSet2 {a b d e x : D} (h : M[t]? = some (.lst [a, b, d, e])) : dSet (.adr t) (.int 2) x M = .ok () (M.set t (.lst [a, b, x, e])) := by
  unfold dSet; simp only [h]; rfl
theorem tSet3 {a b d e x : D} (h : M[t]? = some (.lst [a, b, d, e])) : dSet (.adr t) (.int 3) x M = .ok () (M.set t (.lst [a, b, d, x])) := by
  unfold dSet; simp only [h]; rfl
theorem pow18 : dPow (.int 10) (.int 18) M = .ok (.int (10 ^ 18)) M := rfl
theorem pow12 : dPow (.int 10) (.int 12) M = .ok (.int BB) M := rfl
theorem draw_loop {x2 x3 : Option D} {s : D} {C : Cs} (h : Tape t c cs M) (hC : ∀ x2 M', Tr t c M M' → C.nx [some (.adr t), some s, x2, x3] M') :
    WS (sWhile 1000000 (eAndT (eTB (eOp dEq (eOp dIx (eVar 0) (eCon (.int 2))) (eCon (.int 0)))) (eTB (eOp dLt (eOp dIx (eVar 0) (eCon (.int 1))) (eCall bLen (aCons (eOp dIx (eVar 0) (eCon (.int 0))) (aNil)))))) (sSeq (sSet (.nm 2) (eOp dIx (eOp dIx (eVar 0) (eCon (.int 0))) (eOp dIx (eVar 0) (eCon (.int 1))))) (sSeq (sSub (eVar 0) (eCon (.int 1)) (eOp dAdd (eOp dIx (eVar 0) (eCon (.int 1))) (eCon (.int 1)))) (sIf (eTB (eOp dGe (eCall bAbs (aCons (eVar 2) (aNil))) (eOp dPow (eCon (.int 10)) (eCon (.int 18))))) (sSub (eVar 0) (eCon (.int 2)) (eOp dAdd (eOp dMul (eCon (.int 2)) (eCall bAbs (aCons (eVar 2) (aNil)))) (eCall bInt (aCons (eOp dLt (eVar 2) (eCon (.int 0))) (aNil))))) (sNil)))) [some (.adr t), some s, x2, x3] M) C := by
  obtain ⟨o, ho, p, q, m, eo, hm⟩ := h.o
  refine WS_while (fun k τ M' => ∃ (x2 : Option D) (p q m : Nat), τ = [some (.adr t), some s, x2, x3] ∧ k = cs.length - p ∧ Gr t M M' ∧ M'[t]? = some (.lst [.adr c, .int p, .int q, .int m]) ∧ m < 2305843009213693951) (fun k τ M2 => ?_) 1000000 (cs.length - p) _ M (by have := h.len; omega) ⟨x2, p, q, m, rfl, rfl, Gr.rfl, by rw [ho, eo], hm⟩
  rintro ⟨x2, p, q, m, rfl, rfl, hg, ht, hm⟩
  have hT : Tape t c cs M2 := h.step ⟨hg, _, ht, p, q, m, rfl, hm⟩
  have hlen : bLen [.adr c] M2 = .ok (.int cs.length) M2 := by
    rw [bLen_s (xs := cs.map D.int) (by rw [seq_adr, hT.cell])]; simp
  rw [W_andT, W_tb, W_op, W_op, W_var (by rfl), W_con, tIx2 ht, W_ok, W_con, dEq_i, W_ok]
  refine ⟨_, rfl, ?_⟩
  by_cases hq : q = 0
  · subst hq
    rw [if_pos (by simp), W_tb, W_op, W_op, W_var (by rfl), W_con, tIx1 ht, W_ok, W_call, W_cons, W_op, W_var (by rfl), W_con, tIx0 ht, W_ok]
    simp only [W_nil]
    rw [hlen, W_ok, dLt_i, W_ok]
    refine ⟨_, rfl, ?_⟩
    by_cases hp : p < cs.length
    · have hp2 : decide ((p : Int) < (cs.length : Int)) = true := by simp [hp]
      rw [if_pos hp2, WS_seq, WS_setN, W_op, W_op, W_var (by rfl), W_con, tIx0 ht, W_ok, W_op, W_var (by rfl), W_con, tIx1 ht, W_ok]
      have hcell : dIx (.adr c) (.int p) M2 = .ok (.int cs[p]) M2 := by
        rw [dIx_s (xs := cs.map D.int) (j := p) (by rw [seq_adr, hT.cell]) (by simpa using hp)]; simp
      rw [hcell, W_ok]
      try dsimp only
      rw [WS_seq, WS_sub, W_op, W_op, W_var (by rfl), W_con, tIx1 ht, W_ok, W_con, dAdd_i, W_ok, W_var (by rfl), W_con, tSet1 ht, W_ok]
      try dsimp only
      have ht2 := get_set (o := MO.lst [.adr c, .int (p + 1 : Nat), .int (0 : Nat), .int m]) (lt_of_get ht)
      have e1 : ((p : Int) + 1) = ((p + 1 : Nat) : Int) := by simp
      rw [e1]
      have hlog := hT.log cs[p] (List.getElem_mem hp)
      rw [WS_if, W_tb, W_op, W_call, W_cons, W_var (d := .int cs[p]) (by rfl)]
      simp only [W_nil]
      have hab : ((if cs[p] < 0 then -cs[p] else cs[p]) : Int) = ((cs[p].natAbs : Nat) : Int) := by split <;> omega
      rw [bAbs_i, W_ok, hab, W_op, W_con, W_con, pow18, W_ok, dGe_i, W_ok]
      refine ⟨_, rfl, ?_⟩
      by_cases hbig : decide ((10 : Int) ^ 18 ≤ ((cs[p].natAbs : Nat) : Int)) = true
      · rw [if_pos hbig]
        rw [WS_sub, W_op, W_op, W_con, W_call, W_cons, W_var (d := .int cs[p]) (by rfl)]
        simp only [W_nil]
        rw [bAbs_i, W_ok, hab, dMul_l (by rw [Int.natAbs_natCast]; have : (2 : Int).natAbs.log2 = 1 := by decide
                                          omega), W_ok, W_call, W_cons, W_op, W_var (d := .int cs[p]) (by rfl), W_con, dLt_i, W_ok]
        simp only [W_nil]
        rw [bInt_b, W_ok, dAdd_i, W_ok, W_var (by rfl), W_con, tSet2 ht2, W_ok]
        try dsimp only
        obtain ⟨q2, hq2⟩ : ∃ q2 : Nat, 2 * ((cs[p].natAbs : Nat) : Int) + (if decide (cs[p] < 0) = true then 1 else 0) = (q2 : Int) := ⟨(2 * cs[p].natAbs + (if decide (cs[p] < 0) = true then 1 else 0) : Nat), by split <;> simp⟩
        rw [hq2]
        exact ⟨cs.length - (p + 1), by omega, _, p + 1, q2, m, rfl, rfl, (hg.trans Gr.set).trans Gr.set, get_set (lt_of_get ht2), hm⟩
      · rw [if_neg hbig, WS_nil]
        exact ⟨cs.length - (p + 1), by omega, _, p + 1, 0, m, rfl, rfl, hg.trans Gr.set, ht2, hm⟩
    · rw [if_neg (by simp; omega)]
      exact hC _ _ ⟨hg, _, ht, p, 0, m, rfl, hm⟩
  · rw [if_neg (by simp; omega), if_neg (by decide)]
    exact hC _ _ ⟨hg, _, ht, p, q, m, rfl, hm⟩
theorem draw_ok {s : Nat} (h : Tape t c cs M) (hs : 0 < s) (hs2 : s < 2 ^ 60) : W (m__law_draw CN [.adr t, .int s] M) fun v M' => (∃ r : Nat, v = .int r ∧ r < s) ∧ Gr t M M' ∧ (∃ o, M'[t]? = some o ∧ TpO c o) := by
  have sl : (s : Int).natAbs.log2 < 9000 := by
    rw [Int.natAbs_natCast]
    have := (Nat.log2_lt (n := s) (k := 60) (by omega)).mpr hs2
    omega
  unfold m__law_draw
  refine W_defT (P := fun v => ∃ r : Nat, v = .int r ∧ r < s) (I := TpO c) h.lt ?_
  rw [WS_seq]
  refine draw_loop h fun x2 M1 k1 => ?_
  obtain ⟨hg, o, ho, p, q, m, eo, hm⟩ := k1
  subst eo
  have hT : Tape t c cs M1 := h.step ⟨hg, _, ho, p, q, m, rfl, hm⟩
  try dsimp only
  rw [WS_seq, WS_if, W_tb, W_op, W_op, W_var (by rfl), W_con, tIx2 ho, W_ok, W_con, dGt_i, W_ok]
  refine ⟨_, rfl, ?_⟩
  have hsi : (0 : Int) < (s : Int) := by omega
  by_cases hq : 0 < q
  · rw [if_pos (by simp [hq]), WS_seq, WS_setN, W_op, W_call, W_cons, W_op, W_var (by rfl), W_con, tIx2 ho, W_ok]
    simp only [W_nil]
    rw [bInt_i, W_ok, W_var (by rfl), dMod_i hsi, W_ok]
    try dsimp only
    rw [WS_seq, WS_sub, W_op, W_op, W_var (by rfl), W_con, tIx2 ho, W_ok, W_var (by rfl), dFdiv_l hsi sl, W_ok, W_var (by rfl), W_con, tSet2 ho, W_ok]
    try dsimp only
    rw [WS_ret, W_var (by rfl)]
    refine ⟨⟨q % s, by simp, Nat.mod_lt _ hs⟩, hg.trans Gr.set, _, get_set (lt_of_get ho), p, q / s, m, by simp, hm⟩
  · rw [if_neg (by simp; omega), WS_nil]
    try dsimp only
    rw [WS_seq, WS_sub, W_op, W_call, W_cons, W_op, W_op, W_op, W_var (by rfl), W_con, tIx3 ho, W_ok, W_con, dMul_l (by
      rw [Int.natAbs_natCast]
      have h1 : m.log2 ≤ 61 := by
        rcases Nat.eq_zero_or_pos m with e | e
        · subst e; decide
        · exact Nat.le_of_lt ((Nat.log2_lt (by omega)).mpr (Nat.lt_trans hm (by decide)))
      have h2 : (71893564120937663 : Int).natAbs.log2 ≤ 61 := by decide +kernel
      omega), W_ok, W_con, dAdd_i, W_ok]
    simp only [W_nil]
    rw [bInt_i, W_ok, W_con, dMod_i (by decide), W_ok, W_var (by rfl), W_con, tSet3 ho, W_ok]
    try dsimp only
    obtain ⟨m2, hm2, hm3⟩ : ∃ m2 : Nat, ((m : Int) * 71893564120937663 + 5538172093417) % 2305843009213693951 = (m2 : Int) ∧ m2 < 2305843009213693951 := ⟨(m * 71893564120937663 + 5538172093417) % 2305843009213693951, by simp, Nat.mod_lt _ (by decide)⟩
    rw [hm2]
    have ho2 := get_set (o := MO.lst [.adr c, .int p, .int q, .int m2]) (lt_of_get ho)
    rw [WS_ret, W_op, W_call, W_cons, W_op, W_op, W_var (by rfl), W_con, tIx3 ho2, W_ok, W_con, dFdiv_z, W_ok]
    simp only [W_nil]
    rw [bInt_i, W_ok, W_var (by rfl), dMod_i hsi, W_ok]
    exact ⟨⟨m2 / 131101 % s, by simp, Nat.mod_lt _ hs⟩, hg.trans Gr.set, _, ho2, p, q, m2, rfl, hm3⟩
/-- a draw in an expression -/
theorem W_draw {τ : Mp.Env} {f : FE} {R : D → Sto → Prop} {j s : Nat} (hj : τ[j]? = some (some (.adr t))) (h : Tape t c cs M) (hf : W (f τ M) fun d M1 => d = .int s ∧ M1 = M ∧ 0 < s ∧ s < 2 ^ 60 ∧ ∀ (r : Nat) M2, r < s → Tr t c M M2 → R (.int r) M2) : W (eCall (lenF 2 (m__law_draw CN)) (aCons (eVar j) (aCons f aNil)) τ M) R := by
  rw [W_call, W_cons, W_var hj, W_cons]
  refine W_mono hf fun d M1 ⟨e, e2, h1, h2, q⟩ => ?_
  subst e e2
  simp only [W_nil]
  rw [W_lenF (by rfl)]
  refine W_mono (draw_ok h h1 h2) fun v M2 ⟨⟨r, e, hr⟩, k1, k2⟩ => ?_
  subst e
  exact q r M2 hr ⟨k1, k2⟩
theorem W_drawC {τ : Mp.Env} {R : D → Sto → Prop} {j s : Nat} (hj : τ[j]? = some (some (.adr t))) (h : Tape t c cs M) (h1 : 0 < s) (h2 : s < 2 ^ 60) (q : ∀ (r : Nat) M2, r < s → Tr t c M M2 → R (.int r) M2) : W (eCall (lenF 2 (m__law_draw CN)) (aCons (eVar j) (aCons (eCon (.int s)) aNil)) τ M) R :=
  W_draw hj h (W_con.mpr ⟨rfl, rfl, h1, h2, q⟩)
theorem signed_ok {n : Nat} (h : Tape t c cs M) (hn : n < 2 ^ 50) : W (m__law_signed CN [.adr t, .int n] M) fun v M' => (∃ r : Int, v = .int r ∧ -(n : Int) ≤ r ∧ r ≤ n) ∧ Gr t M M' ∧ (∃ o, M'[t]? = some o ∧ TpO c o) := by
  unfold m__law_signed
  refine W_defT (P := fun v => ∃ r : Int, v = .int r ∧ -(n : Int) ≤ r ∧ r ≤ n) (I := TpO c) h.lt ?_
  have hsm : Sm (n : Int) := by
    have h1 : (2 : Int) ^ 50 < 2 ^ 3000 := by decide +kernel
    have h2 : (n : Int) < 2 ^ 50 := by exact_mod_cast hn
    unfold Sm
    generalize (2 : Int) ^ 3000 = A at *
    generalize (2 : Int) ^ 50 = B at *
    omega
  have hs2 : Sm 2 := by decide +kernel
  rw [WS_ret, W_op]
  refine W_draw (s := 2 * n + 1) (by rfl) h ?_
  rw [W_op, W_op, W_con, W_var (by rfl), dMul_i hs2 hsm, W_ok, W_con, dAdd_i, W_ok]
  refine ⟨by simp, rfl, by omega, by omega, fun r M2 hr k => ?_⟩
  rw [W_var (by rfl), dSub_i, W_ok]
  exact ⟨⟨_, rfl, by omega, by omega⟩, k.1, k.2⟩
theorem W_signed {τ : Mp.Env} {R : D → Sto → Prop} {j n : Nat} (hj : τ[j]? = some (some (.adr t))) (h : Tape t c cs M) (hn : n < 2 ^ 50) (q : ∀ (r : Int) M2, -(n : Int) ≤ r → r ≤ n → Tr t c M M2 → R (.int r) M2) : W (eCall (lenF 2 (m__law_signed CN)) (aCons (eVar j) (aCons (eCon (.int n)) aNil)) τ M) R := by
  rw [W_call, W_cons, W_var hj, W_cons, W_con]
  simp only [W_nil]
  rw [W_lenF (by rfl)]
  refine W_mono (signed_ok h hn) fun v M2 ⟨⟨r, e, h1, h2⟩, k1, k2⟩ => ?_
  subst e
  exact q r M2 h1 h2 ⟨k1, k2⟩
end
end Kp

set_option Elab.async false
set_option linter.all false
set_option maxRecDepth 100000
set_option maxHeartbeats 4000000
set_option exponentiation.threshold 4000
/-! Kp14: units, small values, drawn tables -/
namespace Kp
open PySem PySem.Spec PyProof.Rows L2 Mp K29
open Kq (Le Gr Wo Cs lt_of_get seq_le seq_gr seq_adr wo_tup wo_lst startD_eq)
section
variable {CN : Str → Addr} {M : Sto} {t c : Nat} {cs : List Int}
def unC (a i : Nat) : Int := (1 - 2 * ((a : Int) / 4)) * (if (a : Int) % 4 = (i : Int) then 1 else 0)
def unQ (a : Nat) : Q := ⟨unC a 0, unC a 1, unC a 2, unC a 3⟩
theorem unC_bd {a : Nat} (ha : a < 8) (i : Nat) : -2 < unC a i ∧ unC a i < 2 := by
  unfold unC
  have : (a : Int) / 4 = 0 ∨ (a : Int) / 4 = 1 := by omega
  rcases this with e | e <;> rw [e] <;> split <;> simp
theorem unQ_bd {a : Nat} (ha : a < 8) : (unQ a).Bd BB := by
  have h : (2 : Int) ≤ BB := by decide
  have h0 := unC_bd ha 0; have h1 := unC_bd ha 1; have h2 := unC_bd ha 2; have h3 := unC_bd ha 3
  unfold Q.Bd unQ
  dsimp only
  generalize BB = B at *
  omega
theorem unit_ok {a : Nat} (ha : a < 8) : W (m__law_unit CN [.int a] M) fun v M' => v = (unQ a).D ∧ Le M M' := by
  have e4 : (a : Int) / 4 = 0 ∨ (a : Int) / 4 = 1 := by omega
  have s4 : Sm ((a : Int) / 4) := by rcases e4 with e | e <;> rw [e] <;> decide +kernel
  have s1 : Sm (1 - 2 * ((a : Int) / 4)) := by rcases e4 with e | e <;> rw [e] <;> decide +kernel
  have s2 : Sm 2 := by decide +kernel
  unfold m__law_unit
  refine W_def ?_
  rw [WS_ret, W_call, W_cons]
  refine W_lcR (by rfl) (W_iR1 (W_con.mpr ⟨4, rfl, by decide, fun w hw => ⟨_, fun i => .int (unC a i), hw _, by simp, fun i hi M1 l1 => ⟨_, rfl, ?_⟩, fun M1 l1 h1 => ?_⟩⟩))
  · simp only [List.length_map, List.length_range] at hi
    rw [W_op, W_op, W_con, W_op, W_con, W_op, W_var (d := .int a) (by rfl), W_con, dFdiv_4, W_ok, dMul_i s2 s4, W_ok, dSub_i, W_ok, W_call, W_cons, W_op, W_op, W_call, W_cons, W_var (d := .int a) (by rfl)]
    simp only [W_nil, bInt_i, W_ok, W_con]
    rw [dMod_i (by decide), W_ok, W_var (d := .int i) (by simp [wipeE]), dEq_i, W_ok, bInt_b, W_ok]
    have e : (if decide ((a : Int) % 4 = (i : Int)) = true then (1 : Int) else 0) = if (a : Int) % 4 = (i : Int) then 1 else 0 := by simp
    rw [e, dMul_i s1 (by split <;> decide +kernel), W_ok]
    exact ⟨rfl, Le.rfl⟩
  · simp only [W_nil]
    rw [bTuple_s (xs := [.int (unC a 0), .int (unC a 1), .int (unC a 2), .int (unC a 3)]) (by rw [seq_adr, h1]; rfl), W_ok]
    exact ⟨rfl, l1⟩
/-- a comprehension over four places whose items are drawn -/
theorem W_lc4 {τ : Mp.Env} {x : Nat} {te : FE} {R : D → Sto → Prop} (h : Tape t c cs M) (P : Int → Prop)
    (step : ∀ (i : Nat) M1, i < 4 → Tape t c cs M1 → ∀ R : D → Sto → Prop, (∀ (r : Int) M2, P r → Tr t c M1 M2 → R (.int r) M2) → W (te ((wipeE τ [x]).set x (some (.int i))) M1) R)
    (done : ∀ (q : Q) M2, P q.a → P q.b → P q.c → P q.d → Tr t c M M2 → R q.D M2) : W (eCall bTuple (aCons (eLc (Mp.iR1 (eCon (.int 4))) (.nm x) yes te [x]) aNil) τ M) R := by
  rw [W_call, W_cons]
  refine W_lc (by simp [Tg.inn]) (W_iR1 (W_con.mpr ⟨4, rfl, by decide, fun w hw => ?_⟩))
  refine ⟨_, fun _ => True, fun i ys M1 => (∃ ns : List Int, ys = ns.map D.int ∧ ∀ r ∈ ns, P r) ∧ Tr t c M M1, hw _, by simp, fun _ _ _ _ => trivial, ⟨⟨[], rfl, by simp⟩, h.le Le.app⟩, ?_, ?_⟩
  · rintro i hi ys M1 hl hn ⟨⟨ns, e, hP⟩, k⟩
    simp only [List.length_map, List.length_range] at hi
    refine ⟨_, rfl, ?_⟩
    have e2 : ((List.range 4).map fun i : Nat => D.int i)[i]'(by simpa using hi) = D.int (i : Nat) := by simp
    rw [e2]
    refine step i M1 hi (h.step k) _ fun r M2 hr k2 => ?_
    have hne : M.length ≠ t := by have := h.lt; omega
    have hn2 : M2[M.length]? = some (.lst ys) := by rw [k2.1.2 _ (lt_of_get hn) hne, hn]
    refine ⟨hn2, ⟨ns ++ [r], by rw [e]; simp, fun z hz => ?_⟩, Tr.setB h (k.trans k2) (Nat.le_refl _)⟩
    rcases List.mem_append.mp hz with hz | hz
    · exact hP z hz
    · rw [List.mem_singleton.mp hz]; exact hr
  · rintro ys M1 hl hn ⟨⟨ns, e, hP⟩, k⟩
    simp only [List.length_map, List.length_range] at hl
    have hl2 : ns.length = 4 := by rw [← hl, e]; simp
    simp only [W_nil]
    match ns, hl2 with
    | [r0, r1, r2, r3], _ =>
      subst e
      rw [bTuple_s (xs := [.int r0, .int r1, .int r2, .int r3]) (by rw [seq_adr, hn]; rfl), W_ok]
      exact done ⟨r0, r1, r2, r3⟩ M1 (hP _ (by simp)) (hP _ (by simp)) (hP _ (by simp)) (hP _ (by simp)) k
theorem bd_of {q : Q} {n : Int} (h : n < BB) (ha : -n ≤ q.a ∧ q.a ≤ n) (hb : -n ≤ q.b ∧ q.b ≤ n) (hc : -n ≤ q.c ∧ q.c ≤ n) (hd : -n ≤ q.d ∧ q.d ≤ n) : q.Bd BB := by
  unfold Q.Bd
  generalize BB = B at *
  omega
theorem q0_bd : q0.Bd BB := by unfold Q.Bd q0; decide
theorem small_ok {h : Nat} (ht : Tape t c cs M) : W (m__law_small CN [.adr t, .int h] M) fun v M' => (∃ q : Q, v = q.D ∧ q.Bd BB) ∧ Gr t M M' ∧ (∃ o, M'[t]? = some o ∧ TpO c o) := by
  have dn : ∀ (n : Nat), (n : Int) < BB → ∀ (q : Q) M2, (-(n : Int) ≤ q.a ∧ q.a ≤ n) → (-(n : Int) ≤ q.b ∧ q.b ≤ n) → (-(n : Int) ≤ q.c ∧ q.c ≤ n) → (-(n : Int) ≤ q.d ∧ q.d ≤ n) → Tr t c M M2 → (∃ q' : Q, q.D = q'.D ∧ q'.Bd BB) ∧ Gr t M M2 ∧ (∃ o, M2[t]? = some o ∧ TpO c o) := fun n hn q M2 h1 h2 h3 h4 k => ⟨⟨q, rfl, bd_of hn h1 h2 h3 h4⟩, k.1, k.2⟩
  have bb : BB - 1 = ((10 ^ 12 - 1 : Nat) : Int) := by decide
  unfold m__law_small
  refine W_defT (P := fun v => ∃ q : Q, v = q.D ∧ q.Bd BB) (I := TpO c) ht.lt ?_
  rw [WS_seq, WS_if, W_tb, W_op, W_var (by rfl), W_con, dEq_i, W_ok]
  refine ⟨_, rfl, ?_⟩
  by_cases h0 : h = 0
  · rw [if_pos (by simp [h0]), WS_ret]
    refine W_lc4 (x := 2) ht (fun r => -((3 : Nat) : Int) ≤ r ∧ r ≤ (3 : Nat)) (fun i M1 hi hT R q => ?_) (dn 3 (by decide))
    exact W_signed (n := 3) (by rfl) hT (by decide) fun r M2 h1 h2 k => q r M2 ⟨h1, h2⟩ k
  · rw [if_neg (by simp; omega), WS_nil]
    try dsimp only
    rw [WS_seq, WS_if, W_tb, W_op, W_var (by rfl), W_con, dEq_i, W_ok]
    refine ⟨_, rfl, ?_⟩
    by_cases h1 : h = 1
    · rw [if_pos (by simp [h1]), WS_ret, W_call, W_cons]
      refine W_drawC (s := 8) (by rfl) ht (by decide) (by decide) fun r M2 hr k => ?_
      simp only [W_nil]
      rw [W_lenF (by rfl)]
      refine W_mono (unit_ok hr) fun v M3 ⟨e, l⟩ => ?_
      have k2 := k.trans ((ht.step k).le l)
      exact ⟨⟨_, e, unQ_bd hr⟩, k2.1, k2.2⟩
    · rw [if_neg (by simp; omega), WS_nil]
      try dsimp only
      rw [WS_seq, WS_if, W_tb, W_op, W_var (by rfl), W_con, dEq_i, W_ok]
      refine ⟨_, rfl, ?_⟩
      by_cases h2 : h = 2
      · rw [if_pos (by simp [h2]), WS_ret]
        refine W_lc4 (x := 2) ht (fun r => -((10 ^ 12 - 1 : Nat) : Int) ≤ r ∧ r ≤ (10 ^ 12 - 1 : Nat)) (fun i M1 hi hT R q => ?_) (dn (10 ^ 12 - 1) (by decide))
        rw [W_call, W_cons, W_var (by rfl), W_cons, W_op, W_op, W_con, W_con, pow12, W_ok, W_con, dSub_i, W_ok, bb]
        simp only [W_nil]
        rw [W_lenF (by rfl)]
        refine W_mono (signed_ok hT (by decide)) fun v M2 ⟨⟨r, e, h1, h2⟩, k1, k2⟩ => ?_
        subst e
        exact q r M2 ⟨h1, h2⟩ ⟨k1, k2⟩
      · rw [if_neg (by simp; omega), WS_nil]
        try dsimp only
        rw [WS_seq, WS_if, W_tb, W_op, W_var (by rfl), W_con, dEq_i, W_ok]
        refine ⟨_, rfl, ?_⟩
        by_cases h3 : h = 3
        · rw [if_pos (by simp [h3]), WS_ret]
          refine W_lc4 (x := 2) ht (fun r => -((16 : Nat) : Int) ≤ r ∧ r ≤ (16 : Nat)) (fun i M1 hi hT R q => ?_) (dn 16 (by decide))
          rw [W_op]
          refine W_signed (n := 2) (by rfl) hT (by decide) fun r M2 h1 h2 k => ?_
          rw [W_op, W_con]
          refine W_drawC (s := 4) (by rfl) (hT.step k) (by decide) (by decide) fun s M3 hs k3 => ?_
          rw [shl_c (by omega), W_ok]
          have hr : r = -2 ∨ r = -1 ∨ r = 0 ∨ r = 1 ∨ r = 2 := by omega
          have hs' : s = 0 ∨ s = 1 ∨ s = 2 ∨ s = 3 := by omega
          have e1 : Sm r := by rcases hr with e | e | e | e | e <;> rw [e] <;> decide +kernel
          have e2 : Sm (2 ^ s) := by rcases hs' with e | e | e | e <;> rw [e] <;> decide +kernel
          rw [dMul_i e1 e2, W_ok]
          refine q _ M3 ?_ (k.trans k3)
          rcases hr with e | e | e | e | e <;> rcases hs' with e' | e' | e' | e' <;> rw [e, e'] <;> decide
        · rw [if_neg (by simp; omega), WS_nil]
          try dsimp only
          rw [WS_seq, WS_if, W_tb, W_op]
          refine W_drawC (s := 3) (by rfl) ht (by decide) (by decide) fun r M2 hr k => ?_
          rw [W_con, dGt_i, W_ok]
          refine ⟨_, rfl, ?_⟩
          by_cases hr0 : 0 < r
          · rw [if_pos (by simp [hr0]), WS_ret, W_tup, W_cons, W_con, W_cons, W_con, W_cons, W_con, W_cons, W_con]
            simp only [W_nil]
            exact ⟨by simp, ⟨q0, rfl, q0_bd⟩, k.1, k.2⟩
          · rw [if_neg (by simp; omega), WS_nil]
            try dsimp only
            rw [WS_ret]
            refine W_lc4 (x := 2) (ht.step k) (fun r => -((1 : Nat) : Int) ≤ r ∧ r ≤ (1 : Nat)) (fun i M1 hi hT R q => ?_) fun q M3 h1 h2 h3 h4 k3 => dn 1 (by decide) q M3 h1 h2 h3 h4 (k.trans k3)
            exact W_signed (n := 1) (by rfl) hT (by decide) fun r M2 h1 h2 k => q r M2 ⟨h1, h2⟩ k
end
end Kp

set_option Elab.async false
set_option linter.all false
set_option maxRecDepth 100000
set_option maxHeartbeats 4000000
set_option exponentiation.threshold 4000
/-! Kp15: formed, drawn -/
namespace Kp
open PySem PySem.Spec PyProof.Rows L2 Mp K29
open Kq (Le Gr Wo Cs lt_of_get seq_le seq_gr seq_adr wo_tup wo_lst startD_eq)
section
variable {CN : Str → Addr} {M : Sto} {t c : Nat} {cs : List Int}
theorem all_map {n : Nat} (p : Nat → Bool) : ((List.range n).map p).all id = (List.range n).all p := by simp [List.all_map, Function.comp_def]
theorem bAll_v {a n : Nat} {p : Nat → Bool} (h : M[a]? = some (.lst ((List.range n).map fun i => D.bl (p i)))) : bAll [.adr a] M = .ok (.bl ((List.range n).all p)) M := by
  have e : (List.range n).map (fun i => D.bl (p i)) = ((List.range n).map p).map D.bl := by simp
  rw [e] at h
  rw [bAll_s h, all_map]
theorem formed_cond {τ : Mp.Env} {m n : Nat} {f : F} {R : Bool → Sto → Prop} (hm : m < 16777216) (hn : n < 16777216) (h3 : τ[3]? = some (some (gridD m n f))) (h4 : 4 < τ.length) (h6 : 6 < τ.length) (q : ∀ M2, Le M M2 → R (allF m n Q.hasR f) M2) :
    W (eTst (eCall bAll (aCons (eLc (iVal (eVar 3)) (.nm 4) (yes) (eCall bAll (aCons (eLc (iVal (eVar 4)) (.nm 6) (yes) (eCall (lenF 1 (m__law_has_r CN)) (aCons (eVar 6) (aNil))) [6]) (aNil))) [4]) (aNil))) τ M) R := by
  rw [W_tst, W_call, W_cons]
  refine W_lcR (by rfl) (W_iVal ((W_var h3).mpr ⟨_, rfl, fun w hw => ⟨_, fun y => .bl ((List.range n).all fun x => (f y x).hasR), hw _ fun M' _ => rfl, by simp; omega, fun y hy M1 l1 => ⟨_, rfl, ?_⟩, fun M1 l1 h1 => ?_⟩⟩))
  · simp only [List.length_map, List.length_range] at hy
    rw [W_call, W_cons]
    refine W_lcR (by rfl) (W_iVal ((W_var (d := rowD n (f y)) ?_).mpr ⟨_, rfl, fun w2 hw2 => ⟨_, fun x => .bl (f y x).hasR, hw2 _ fun M' _ => rfl, by simp; omega, fun x hx M2 l2 => ⟨_, rfl, ?_⟩, fun M2 l2 h2 => ?_⟩⟩))
    · simp [wipeE, h4]
    · simp only [List.length_map, List.length_range] at hx
      rw [W_call, W_cons, W_var (d := (f y x).D) (by simp [wipeE, h6])]
      simp only [W_nil]
      rw [W_lenF (by rfl)]
      exact has_r_ok
    · simp only [W_nil, List.length_map, List.length_range] at h2 ⊢
      rw [bAll_v h2, W_ok]
      exact ⟨rfl, l2⟩
  · simp only [W_nil, List.length_map, List.length_range] at h1 ⊢
    rw [bAll_v h1, W_ok]
    exact ⟨_, rfl, q M1 l1⟩
theorem formed_loop {p m n : Nat} {f : F} {x y : D} {x4 x5 x6 x7 : Option D} {C : Cs} (hm : m < 16777216) (hn : n < 16777216) (hp : p < 100000) (hC : ∀ x4 x5 M', Le M M' → C.nx [some x, some y, some (.int (formF m n p f).1), some (gridD m n (formF m n p f).2), x4, x5, x6, x7] M') :
    WS (sWhile 1000000 (eAndT (eTB (eOp dGt (eVar 2) (eCon (.int 0)))) (eTst (eCall bAll (aCons (eLc (iVal (eVar 3)) (.nm 4) (yes) (eCall bAll (aCons (eLc (iVal (eVar 4)) (.nm 6) (yes) (eCall (lenF 1 (m__law_has_r CN)) (aCons (eVar 6) (aNil))) [6]) (aNil))) [4]) (aNil))))) (sSeq (sSet (.nm 5) (eLst (aNil))) (sSeq (sFor (iVal (eVar 3)) (.nm 4) (sExp (eApp (eVar 5) (aCons (eCall bTuple (aCons (eLc (iVal (eVar 4)) (.nm 7) (yes) (eTup (aCons (eOp dFdiv (eOp dSub (eOp dIx (eVar 7) (eCon (.int 1))) (eOp dIx (eVar 7) (eCon (.int 3)))) (eCon (.int 2))) (aCons (eOp dFdiv (eOp dAdd (eOp dIx (eVar 7) (eCon (.int 0))) (eOp dIx (eVar 7) (eCon (.int 2)))) (eCon (.int 2))) (aCons (eOp dFdiv (eOp dAdd (eOp dIx (eVar 7) (eCon (.int 1))) (eOp dIx (eVar 7) (eCon (.int 3)))) (eCon (.int 2))) (aCons (eOp dFdiv (eOp dSub (eOp dIx (eVar 7) (eCon (.int 2))) (eOp dIx (eVar 7) (eCon (.int 0)))) (eCon (.int 2))) (aNil)))))) [7]) (aNil))) (aNil))))) (sSeq (sSet (.nm 3) (eCall bTuple (aCons (eVar 5) (aNil)))) (sSet (.nm 2) (eOp dSub (eVar 2) (eCon (.int 1))))))) [some x, some y, some (.int p), some (gridD m n f), x4, x5, x6, x7] M) C := by
  generalize hr : formF m n p f = r at hC
  refine WS_while (fun k τ M' => ∃ (q : Nat) (g : F) (x4 x5 : Option D), τ = [some x, some y, some (.int q), some (gridD m n g), x4, x5, x6, x7] ∧ q = k ∧ formF m n q g = r ∧ Le M M') (fun k τ M2 => ?_) 1000000 p _ M (by omega) ⟨p, f, x4, x5, rfl, rfl, hr, Le.rfl⟩
  rintro ⟨q, g, x4, x5, rfl, rfl, hq, l2⟩
  rw [W_andT, W_tb, W_op, W_var (by rfl), W_con, dGt_i, W_ok]
  refine ⟨_, rfl, ?_⟩
  by_cases hq0 : q = 0
  · subst hq0
    have hq' : (0, g) = r := by simpa [formF] using hq
    subst hq'
    rw [if_neg (by simp), if_neg (by decide)]
    exact hC x4 x5 M2 l2
  · rw [if_pos (by simp; omega)]
    refine formed_cond (f := g) hm hn (by rfl) (by simp) (by simp) fun M3 l3 => ?_
    cases hf : allF m n Q.hasR g with
    | false =>
      rw [if_neg (by decide)]
      rw [formF_id (.inr hf)] at hq
      subst hq
      exact hC x4 x5 M3 (l2.trans l3)
    | true =>
      rw [if_pos rfl]
      obtain ⟨q', rfl⟩ : ∃ q', q = q' + 1 := ⟨q - 1, by omega⟩
      have hq' : formF m n q' (fun y x => (g y x).byR) = r := by simpa [formF, hf] using hq
      rw [WS_seq, WS_setN, W_lst]
      simp only [W_nil]
      refine ⟨by simp, ?_⟩
      rw [WS_seq]
      have l4 : Le M3 (M3 ++ [MO.lst []]) := Le.app
      refine WS_for (W_iVal ((W_var (d := gridD m n g) (by rfl)).mpr ⟨_, rfl, fun w hw => ?_⟩))
      refine ⟨_, fun _ => True, fun i τ M' => (∃ x4, τ = [some x, some y, some (.int (q' + 1 : Nat)), some (gridD m n g), x4, some (.adr M3.length), x6, x7]) ∧ M'[M3.length]? = some (.lst ((List.range i).map fun y => rowD n fun x => (g y x).byR)) ∧ Le M3 M', hw _ fun M' _ => rfl, fun _ _ _ _ => trivial, ⟨⟨_, rfl⟩, by simp, l4⟩, ?_, ?_⟩
      · rintro i hi τ M4 ⟨⟨x4, rfl⟩, h4, l5⟩
        simp only [List.length_map, List.length_range] at hi
        refine ⟨[some x, some y, some (.int (q' + 1 : Nat)), some (gridD m n g), some (rowD n (g i)), some (.adr M3.length), x6, x7], by simp [Tg.put], ?_⟩
        rw [WS_exp]
        refine W_app ((W_var (by rfl)).mpr ⟨_, rfl, ⟨_, by rw [seq_adr, h4]⟩, ?_⟩)
        rw [W_cons, W_call, W_cons]
        refine W_lcR (by rfl) (W_iVal ((W_var (d := rowD n (g i)) (by rfl)).mpr ⟨_, rfl, fun w2 hw2 => ⟨_, fun x => (g i x).byR.D, hw2 _ fun M' _ => rfl, by simp; omega, fun z hz M5 l6 => ⟨_, rfl, ?_⟩, fun M5 l6 h5 => ?_⟩⟩))
        · simp only [List.length_map, List.length_range] at hz
          rw [W_tup]
          simp [wipeE, Q.D, Q.byR]
        · simp only [W_nil, List.length_map, List.length_range] at h5 ⊢
          rw [bTuple_s (xs := (List.range n).map fun x => (g i x).byR.D) (by rw [seq_adr, h5]), W_ok]
          have h6 := l6.get h4
          refine ⟨_, _, rfl, h6, by simp; omega, ⟨_, rfl⟩, ?_, (l5.trans l6).set (Nat.le_refl _)⟩
          rw [get_set (lt_of_get h6), List.range_succ, List.map_append]
          rfl
      · rintro τ M4 ⟨⟨x4, rfl⟩, h4, l5⟩
        simp only [List.length_map, List.length_range] at h4
        try dsimp only
        rw [WS_seq, WS_setN, W_call, W_cons, W_var (by rfl)]
        simp only [W_nil]
        rw [bTuple_s (xs := (List.range m).map fun y => rowD n fun x => (g y x).byR) (by rw [seq_adr, h4]), W_ok]
        try dsimp only
        rw [WS_setN, W_op, W_var (d := .int (q' + 1 : Nat)) (by rfl), W_con, dSub_i, W_ok]
        have e : (((q' + 1 : Nat) : Int) - 1) = ((q' : Nat) : Int) := by omega
        rw [e]
        exact ⟨q', by omega, q', fun y x => (g y x).byR, _, _, rfl, rfl, hq', (l2.trans l3).trans l5⟩
theorem formed_ok {p m n : Nat} {f : F} {x y : D} (hm : m < 16777216) (hn : n < 16777216) (hp : p < 100000) : W (m__law_formed CN [x, y, .int p, gridD m n f] M) fun v M' => v = .tup [x, y, .int (formF m n p f).1, gridD m n (formF m n p f).2] ∧ Le M M' := by
  unfold m__law_formed
  refine W_def ?_
  rw [WS_seq]
  refine formed_loop hm hn hp fun x4 x5 M2 l2 => ?_
  try dsimp only
  rw [WS_ret, W_tup, W_cons, W_var (by rfl), W_cons, W_var (by rfl), W_cons, W_var (by rfl), W_cons, W_var (by rfl)]
  simp only [W_nil]
  exact ⟨by simp, by simp [l2]⟩
end
end Kp

set_option Elab.async false
set_option linter.all false
set_option maxRecDepth 100000
set_option maxHeartbeats 4000000
set_option exponentiation.threshold 4000
/-! Kp16: drawn -/
namespace Kp
open PySem PySem.Spec PyProof.Rows L2 Mp K29
open Kq (Le Gr Wo Cs lt_of_get seq_le seq_gr seq_adr wo_tup wo_lst startD_eq)
section
variable {CN : Str → Addr} {M : Sto} {t c : Nat} {cs : List Int}
/-- a row with one more item -/
theorem row_push {j : Nat} {f : Nat → Q} {q : Q} : ((List.range j).map fun x => (f x).D) ++ [q.D] = (List.range (j + 1)).map fun x => (if x = j then q else f x).D := by
  rw [List.range_succ, List.map_append]
  congr 1
  · refine List.map_congr_left fun x hx => ?_
    have := List.mem_range.mp hx
    rw [if_neg (by omega)]
  · simp
theorem grid_push {n j : Nat} {f : F} {g : Nat → Q} : ((List.range j).map fun y => rowD n (f y)) ++ [rowD n g] = (List.range (j + 1)).map fun y => rowD n (if y = j then g else f y) := by
  rw [List.range_succ, List.map_append]
  congr 1
  · refine List.map_congr_left fun x hx => ?_
    have := List.mem_range.mp hx
    rw [if_neg (by omega)]
  · simp
theorem ixH {a b : Nat} {r : Nat} (h : r < 7) (hb : b ≤ 60) (ha : a ≤ 60) : ∃ p : Nat, dIx (.tup [.int 0, .int 0, .int 1, .int 2, .int 60, .int a, .int b]) (.int r) M = .ok (.int p) M ∧ p ≤ 60 := by
  have : r = 0 ∨ r = 1 ∨ r = 2 ∨ r = 3 ∨ r = 4 ∨ r = 5 ∨ r = 6 := by omega
  rcases this with e | e | e | e | e | e | e <;> subst e
  · exact ⟨0, rfl, by omega⟩
  · exact ⟨0, rfl, by omega⟩
  · exact ⟨1, rfl, by omega⟩
  · exact ⟨2, rfl, by omega⟩
  · exact ⟨60, rfl, by omega⟩
  · exact ⟨a, rfl, ha⟩
  · exact ⟨b, rfl, hb⟩
theorem drawn_ok {o i : Nat} (ht : Tape t c cs M) (ho : o ≤ 12) (hi : i ≤ 12) : W (m__law_drawn CN [.adr t, .int o, .int i] M) fun v M' => (∃ p f, v = tabD o i p f ∧ Tok BB o i p f ∧ p ≤ 60) ∧ Gr t M M' ∧ (∃ o, M'[t]? = some o ∧ TpO c o) := by
  have so := pow_sm ho
  have si := pow_sm hi
  unfold m__law_drawn
  refine W_defT (P := fun v => ∃ p f, v = tabD o i p f ∧ Tok BB o i p f ∧ p ≤ 60) (I := TpO c) ht.lt ?_
  rw [WS_seq, WS_setN]
  refine W_drawC (s := 7) (by rfl) ht (by decide) (by decide) fun hab M1 hh k1 => ?_
  try dsimp only
  have T1 := ht.step k1
  rw [WS_seq, WS_setN, W_op, W_tup, W_cons, W_con, W_cons, W_con, W_cons, W_con, W_cons, W_con, W_cons, W_con, W_cons]
  refine W_drawC (s := 8) (by rfl) T1 (by decide) (by decide) fun r8 M2 h8 k2 => ?_
  have T2 := T1.step k2
  rw [W_cons, W_call, W_cons, W_var (by rfl), W_cons, W_var (by rfl)]
  simp only [W_nil]
  rw [max_i, W_ok]
  refine ⟨by simp, ?_⟩
  refine W_drawC (s := 7) (by rfl) T2 (by decide) (by decide) fun r7 M3 h7 k3 => ?_
  have T3 := T2.step k3
  obtain ⟨p, hp, hp60⟩ := ixH (M := M3) (a := r8) (b := max o i) h7 (by omega) (by omega)
  rw [hp, W_ok]
  try dsimp only
  rw [WS_seq, WS_setN]
  refine W_draw (s := 2 ^ i) (by rfl) T3 ?_
  rw [W_op, W_con, W_var (by rfl), shl_c (by omega), W_ok]
  refine ⟨by simp, rfl, pow_pos' _, by omega, fun sh M4 hs k4 => ?_⟩
  have T4 := T3.step k4
  have K4 := ((k1.trans k2).trans k3).trans k4
  try dsimp only
  rw [WS_seq, WS_setN, W_lst]
  simp only [W_nil]
  refine ⟨by simp, ?_⟩
  rw [WS_seq]
  have l5 : Le M4 (M4 ++ [MO.lst []]) := Le.app
  have hL : t < M4.length := T4.lt
  refine WS_for (W_rng ((W_var (d := .int o) (by rfl)).mpr ⟨o, rfl, ho, fun w hw => ?_⟩))
  refine ⟨_, fun _ => True, fun y τ M' => (∃ x7 x8 x9, τ = [some (.adr t), some (.int o), some (.int i), some (.int hab), some (.int p), some (.int sh), some (.adr M4.length), x7, x8, x9]) ∧ Tr t c M4 M' ∧ ∃ f : F, M'[M4.length]? = some (.lst ((List.range y).map fun y => rowD (2 ^ i) (f y))) ∧ ∀ a b, a < y → b < 2 ^ i → (f a b).Bd BB, hw _, fun _ _ _ _ => trivial, ⟨⟨_, _, _, rfl⟩, T4.le l5, fun _ _ => q0, by simp, fun a b ha => by omega⟩, ?_, ?_⟩
  · rintro y hy τ M5 ⟨⟨x7, x8, x9, rfl⟩, k5, f, hf, hfb⟩
    simp only [List.length_map, List.length_range] at hy
    have T5 := T4.step k5
    refine ⟨[some (.adr t), some (.int o), some (.int i), some (.int hab), some (.int p), some (.int sh), some (.adr M4.length), some (.int y), x8, x9], by simp [Tg.put], ?_⟩
    rw [WS_seq, WS_setN, W_lst]
    simp only [W_nil]
    refine ⟨by simp, ?_⟩
    rw [WS_seq]
    have l6 : Le M5 (M5 ++ [MO.lst []]) := Le.app
    have hne : M4.length < M5.length := lt_of_get hf
    refine WS_for (W_rng ((W_var (d := .int i) (by rfl)).mpr ⟨i, rfl, hi, fun w hw => ?_⟩))
    refine ⟨_, fun _ => True, fun x τ M' => (∃ x9, τ = [some (.adr t), some (.int o), some (.int i), some (.int hab), some (.int p), some (.int sh), some (.adr M4.length), some (.int y), some (.adr M5.length), x9]) ∧ Tr t c M5 M' ∧ ∃ g : Nat → Q, M'[M5.length]? = some (.lst ((List.range x).map fun x => (g x).D)) ∧ ∀ b, b < x → (g b).Bd BB, hw _, fun _ _ _ _ => trivial, ⟨⟨_, rfl⟩, T5.le l6, fun _ => q0, by simp, fun b hb => by omega⟩, ?_, ?_⟩
    · rintro x hx τ M6 ⟨⟨x9, rfl⟩, k6, g, hg, hgb⟩
      simp only [List.length_map, List.length_range] at hx
      have T6 := T5.step k6
      refine ⟨[some (.adr t), some (.int o), some (.int i), some (.int hab), some (.int p), some (.int sh), some (.adr M4.length), some (.int y), some (.adr M5.length), some (.int x)], by simp [Tg.put], ?_⟩
      -- the item is put behind the row
      have fin : ∀ (q : Q) (M7 : Sto), q.Bd BB → Tr t c M6 M7 → M7[M5.length]? = some (.lst ((List.range x).map fun x => (g x).D)) → (∃ x9, [some (D.adr t), some (.int o), some (.int i), some (.int hab), some (.int p), some (.int sh), some (.adr M4.length), some (.int y), some (.adr M5.length), some (.int x)] = [some (.adr t), some (.int o), some (.int i), some (.int hab), some (.int p), some (.int sh), some (.adr M4.length), some (.int y), some (.adr M5.length), x9]) ∧ Tr t c M5 (M7.set M5.length (.lst (((List.range x).map fun x => (g x).D) ++ [q.D]))) ∧ ∃ g' : Nat → Q, (M7.set M5.length (.lst (((List.range x).map fun x => (g x).D) ++ [q.D])))[M5.length]? = some (.lst ((List.range (x + 1)).map fun x => (g' x).D)) ∧ ∀ b, b < x + 1 → (g' b).Bd BB := fun q M7 hq k7 h7 => ⟨⟨_, rfl⟩, Tr.setB T5 (k6.trans k7) (Nat.le_refl _), fun b => if b = x then q else g b, by
        rw [get_set (lt_of_get h7)]
        exact congrArg (fun l => some (MO.lst l)) row_push, fun b hb => by
        by_cases h : b = x
        · simp [h, hq]
        · simp [h]; exact hgb b (by omega)⟩
      have keep : ∀ M7, Tr t c M6 M7 → M7[M5.length]? = some (.lst ((List.range x).map fun x => (g x).D)) := fun M7 k7 => by
        rw [k7.1.2 _ (lt_of_get hg) (by have := T5.lt; omega), hg]
      rw [WS_if, W_tb, W_op, W_var (d := .int hab) (by rfl), W_con, dLt_i, W_ok]
      refine ⟨_, rfl, ?_⟩
      by_cases h5 : hab < 5
      · rw [if_pos (by simp; omega), WS_exp]
        refine W_app ((W_var (by rfl)).mpr ⟨_, rfl, ⟨_, by rw [seq_adr, hg]⟩, ?_⟩)
        rw [W_cons, W_call, W_cons, W_var (by rfl), W_cons, W_var (by rfl)]
        simp only [W_nil]
        rw [W_lenF (by rfl)]
        refine W_mono (small_ok T6) fun v M7 ⟨⟨q, e, hq⟩, a7, b7⟩ => ?_
        subst e
        have h7 := keep M7 ⟨a7, b7⟩
        exact ⟨_, _, rfl, h7, by simp; omega, fin q M7 hq ⟨a7, b7⟩ h7⟩
      · rw [if_neg (by simp; omega), WS_if, W_andT, W_tb, W_op, W_var (d := .int hab) (by rfl), W_con, dEq_i, W_ok]
        refine ⟨_, rfl, ?_⟩
        have els : WS (sExp (eApp (eVar 8) (aCons (eTup (aCons (eCon (.int 0)) (aCons (eCon (.int 0)) (aCons (eCon (.int 0)) (aCons (eCon (.int 0)) (aNil)))))) (aNil))) [some (.adr t), some (.int o), some (.int i), some (.int hab), some (.int p), some (.int sh), some (.adr M4.length), some (.int y), some (.adr M5.length), some (.int x)] M6) { nx := fun τ M' => (∃ x9, τ = [some (.adr t), some (.int o), some (.int i), some (.int hab), some (.int p), some (.int sh), some (.adr M4.length), some (.int y), some (.adr M5.length), x9]) ∧ Tr t c M5 M' ∧ ∃ g : Nat → Q, M'[M5.length]? = some (.lst ((List.range (x + 1)).map fun x => (g x).D)) ∧ ∀ b, b < x + 1 → (g b).Bd BB, bk := fun _ _ => False, rt := fun _ _ => False } := by
          rw [WS_exp]
          refine W_app ((W_var (by rfl)).mpr ⟨_, rfl, ⟨_, by rw [seq_adr, hg]⟩, ?_⟩)
          rw [W_cons, W_tup, W_cons, W_con, W_cons, W_con, W_cons, W_con, W_cons, W_con]
          simp only [W_nil]
          exact ⟨by simp, _, _, rfl, hg, by simp; omega, fin q0 M6 q0_bd T6.tr hg⟩
        by_cases h55 : hab = 5
        · rw [if_pos (by simp [h55]), W_tb, W_op, W_var (d := .int y) (by rfl), W_op, W_var (d := .int x) (by rfl), W_var (d := .int sh) (by rfl), dXor_i, W_ok, dEq_i, W_ok]
          refine ⟨_, rfl, ?_⟩
          split
          · rw [WS_exp]
            refine W_app ((W_var (by rfl)).mpr ⟨_, rfl, ⟨_, by rw [seq_adr, hg]⟩, ?_⟩)
            rw [W_cons, W_call, W_cons]
            refine W_drawC (s := 8) (by rfl) T6 (by decide) (by decide) fun r M7 hr k7 => ?_
            simp only [W_nil]
            rw [W_lenF (by rfl)]
            refine W_mono (unit_ok hr) fun v M8 ⟨e, l8⟩ => ?_
            subst e
            have k8 := k7.trans ((T6.step k7).le l8)
            have h8 := keep M8 k8
            exact ⟨_, _, rfl, h8, by simp; omega, fin (unQ r) M8 (unQ_bd hr) k8 h8⟩
          · refine WS_weak ?_ ?_ ?_ els <;> first | exact fun _ _ h => h | exact fun _ _ h => h.elim
        · rw [if_neg (by simp; omega), if_neg (by decide)]
          refine WS_weak ?_ ?_ ?_ els <;> first | exact fun _ _ h => h | exact fun _ _ h => h.elim
    · rintro τ M6 ⟨⟨x9, rfl⟩, k6, g, hg, hgb⟩
      simp only [List.length_map, List.length_range] at hg hgb
      try dsimp only
      have T6 := T5.step k6
      have hf6 : M6[M4.length]? = some (.lst ((List.range y).map fun y => rowD (2 ^ i) (f y))) := by
        rw [k6.1.2 _ (lt_of_get hf) (by omega), hf]
      rw [WS_exp]
      refine W_app ((W_var (by rfl)).mpr ⟨_, rfl, ⟨_, by rw [seq_adr, hf6]⟩, ?_⟩)
      rw [W_cons, W_call, W_cons, W_var (by rfl)]
      simp only [W_nil]
      rw [bTuple_s (xs := (List.range (2 ^ i)).map fun x => (g x).D) (by rw [seq_adr, hg]), W_ok]
      refine ⟨_, _, rfl, hf6, by simp; omega, ⟨_, _, _, rfl⟩, Tr.setB T4 (k5.trans k6) (Nat.le_refl _), fun a b => if a = y then g b else f a b, ?_, fun a b ha hb => ?_⟩
      · rw [get_set (lt_of_get hf6)]
        have e : D.tup ((List.range (2 ^ i)).map fun x => (g x).D) = rowD (2 ^ i) g := rfl
        rw [e, grid_push]
        congr 2
        refine List.map_congr_left fun a ha => ?_
        by_cases hay : a = y <;> simp [hay]
      · by_cases hay : a = y
        · simp [hay, hgb b hb]
        · simp [hay]; exact hfb a b (by omega) hb
  · rintro τ M5 ⟨⟨x7, x8, x9, rfl⟩, k5, f, hf, hfb⟩
    simp only [List.length_map, List.length_range] at hf hfb
    try dsimp only
    have T5 := T4.step k5
    rw [WS_ret, W_call, W_cons, W_var (d := .int o) (by rfl), W_cons, W_var (d := .int i) (by rfl), W_cons, W_var (d := .int p) (by rfl), W_cons, W_call, W_cons, W_var (by rfl)]
    simp only [W_nil]
    rw [bTuple_s (xs := (List.range (2 ^ o)).map fun y => rowD (2 ^ i) (f y)) (by rw [seq_adr, hf]), W_ok, W_lenF (by rfl)]
    refine W_mono (formed_ok (f := f) so si (by omega)) fun v M6 ⟨e, l6⟩ => ?_
    have K6 := (K4.trans k5).trans (T5.le l6)
    obtain ⟨⟨k, ek, _⟩, fr, bd⟩ := formF_ok (m := 2 ^ o) (n := 2 ^ i) p f
    exact ⟨⟨_, _, e, ⟨ho, hi, by omega, fr, bd BB hfb⟩, by omega⟩, K6.1, K6.2⟩
end
end Kp

set_option Elab.async false
set_option linter.all false
set_option maxRecDepth 100000
set_option maxHeartbeats 4000000
set_option exponentiation.threshold 4000
/-! Kp17: nought, products -/
namespace Kp
open PySem PySem.Spec PyProof.Rows L2 Mp K29
open Kq (Le Gr Wo Cs lt_of_get seq_le seq_gr seq_adr wo_tup wo_lst startD_eq)
section
variable {CN : Str → Addr} {M : Sto} {t c : Nat} {cs : List Int}
theorem W_perm {F : FD} {d1 d2 : D} {R : D → Sto → Prop} : W ((fun ds M => lenF 2 (fun ds M => lenF 2 F (permL [1, 0] ds) M) ds M) [d1, d2] M) R ↔ W (F [d2, d1] M) R := Iff.rfl
theorem W_perm1 {F : FD} {d1 : D} {R : D → Sto → Prop} : W ((fun ds M => lenF 1 (fun ds M => lenF 1 F (permL [0] ds) M) ds M) [d1] M) R ↔ W (F [d1] M) R := Iff.rfl
theorem gridD_congr {m n : Nat} {f g : F} (h : Eqv m n f g) : gridD m n f = gridD m n g := by
  unfold gridD rowD
  congr 1
  refine List.map_congr_left fun y hy => ?_
  congr 1
  exact List.map_congr_left fun x hx => by rw [h y x (List.mem_range.mp hy) (List.mem_range.mp hx)]
theorem tabD_congr {o i p p' : Nat} {f g : F} (e : p = p') (h : Eqv (2 ^ o) (2 ^ i) f g) : tabD o i p f = tabD o i p' g := by
  unfold tabD; rw [e, gridD_congr h]
def noF : F := fun _ _ => q0
theorem nought_ok {o i : Nat} (ho : o ≤ 12) (hi : i ≤ 12) : W (m__law_nought CN [.int o, .int i] M) fun v M' => v = tabD o i 0 noF ∧ Le M M' := by
  have so := pow_sm ho
  have si := pow_sm hi
  unfold m__law_nought
  refine W_def ?_
  rw [WS_ret, W_tup, W_cons, W_var (d := .int o) (by rfl), W_cons, W_var (d := .int i) (by rfl), W_cons, W_con, W_cons, W_call, W_cons, W_op, W_lst, W_cons, W_call, W_cons, W_op, W_lst, W_cons, W_tup, W_cons, W_con, W_cons, W_con, W_cons, W_con, W_cons, W_con]
  simp only [W_nil]
  refine ⟨by simp, by simp, ?_⟩
  rw [W_op, W_con, W_var (d := .int i) (by rfl), shl_c (by omega), W_ok]
  have e1 : ((2 : Int) ^ i) = ((2 ^ i : Nat) : Int) := by simp
  have e2 : ((2 : Int) ^ o) = ((2 ^ o : Nat) : Int) := by simp
  rw [e1, dMul_L (a := M.length) (xs := [.tup [.int 0, .int 0, .int 0, .int 0]]) (by simp) (by omega) (by simp; omega), rep_one, W_ok]
  generalize hM1 : M ++ [MO.lst [D.tup [.int 0, .int 0, .int 0, .int 0]]] ++ [MO.lst ((List.range (2 ^ i)).map fun _ => D.tup [.int 0, .int 0, .int 0, .int 0])] = M1
  have l1 : Le M M1 := by rw [← hM1]; exact Le.app.trans Le.app
  have er : bTuple [.adr (M ++ [MO.lst [D.tup [.int 0, .int 0, .int 0, .int 0]]]).length] M1 = .ok (rowD (2 ^ i) fun _ => q0) M1 := by
    rw [← hM1, bTuple_s (xs := (List.range (2 ^ i)).map fun _ => D.tup [.int 0, .int 0, .int 0, .int 0]) (by rw [seq_adr, get_app])]; rfl
  rw [er, W_ok]
  refine ⟨by simp, ?_⟩
  rw [W_op, W_con, W_var (d := .int o) (by rfl), shl_c (by omega), W_ok, e2, dMul_L (a := M1.length) (xs := [rowD (2 ^ i) fun _ => q0]) (by simp) (by omega) (by simp; omega), rep_one, W_ok]
  have eg : bTuple [.adr (M1 ++ [MO.lst [rowD (2 ^ i) fun _ => q0]]).length] (M1 ++ [MO.lst [rowD (2 ^ i) fun _ => q0]] ++ [MO.lst ((List.range (2 ^ o)).map fun _ => rowD (2 ^ i) fun _ => q0)]) = .ok (gridD (2 ^ o) (2 ^ i) noF) (M1 ++ [MO.lst [rowD (2 ^ i) fun _ => q0]] ++ [MO.lst ((List.range (2 ^ o)).map fun _ => rowD (2 ^ i) fun _ => q0)]) := by
    rw [bTuple_s (xs := (List.range (2 ^ o)).map fun _ => rowD (2 ^ i) fun _ => q0) (by rw [seq_adr, get_app])]; rfl
  rw [eg, W_ok]
  exact ⟨by simp, rfl, (l1.trans Le.app).trans Le.app⟩
theorem no_tok {o i : Nat} (ho : o ≤ 12) (hi : i ≤ 12) : Tok BB o i 0 noF := ⟨ho, hi, by omega, .inl rfl, fun _ _ _ _ => q0_bd⟩
def negF (f : F) : F := fun y x => (f y x).neg
theorem hasR_neg {x : Q} : x.neg.hasR = x.hasR := by
  rw [Bool.eq_iff_iff, hasR_iff, hasR_iff]; simp only [Q.neg]; omega
theorem neg_tok {B : Int} {o i p : Nat} {f : F} (h : Tok B o i p f) : Tok B o i p (negF f) := ⟨h.ho, h.hi, h.hp, by
  have e : allF (2 ^ o) (2 ^ i) Q.hasR (negF f) = allF (2 ^ o) (2 ^ i) Q.hasR f := by
    rw [Bool.eq_iff_iff, allF_iff, allF_iff]
    simp only [negF, hasR_neg]
  rw [e]; exact h.free, fun y x hy hx => neg_bd (h.bd y x hy hx)⟩
theorem mirF_mirF (f : F) : mirF (mirF f) = f := funext fun y => funext fun x => mir_mir
theorem chF_mir {k : Nat} {f g : F} : chF k (mirF g) (mirF f) = mirF (chF k f g) := funext fun y => funext fun x => by
  show sumQ k (fun m => (mirF f y m).mul (mirF g m x)) = (sumQ k fun m => (g x m).mul (f m y)).mir
  rw [sumQ_mir]
  exact sumQ_congr k fun m _ => (mir_mul).symm
theorem add_comm' (x y : Q) : x.add y = y.add x := by ext <;> simp only [Q.add] <;> omega
theorem adF_comm {p q : Nat} {f g : F} : adF q p g f = adF p q f g := funext fun y => funext fun x => by
  unfold adF; rw [Nat.max_comm, add_comm']
theorem adF_neg {p : Nat} {f : F} : adF p p f (negF f) = noF := funext fun y => funext fun x => by
  unfold adF noF negF
  rw [Nat.max_self, Nat.sub_self]
  show (f y x).add (f y x).neg = q0
  ext <;> simp only [Q.add, Q.neg, q0] <;> omega
theorem oneF_no {m n p : Nat} : oneF m n p noF = (0, noF) := by
  have e : isNF m n noF = true := isNF_iff.mpr fun _ _ _ _ => rfl
  unfold oneF
  split
  · rfl
  · next h =>
    have : p = 0 := by
      rcases Nat.eq_zero_or_pos p with z | z
      · exact z
      · exact absurd ⟨z, e⟩ h
    subst this; rfl
theorem pow12' {M : Sto} : dSub (.int 0) (.int BB) M = .ok (.int (0 - BB)) M := rfl
/-- whether all values are small: true or false -/
theorem W_smallc {τ : Mp.Env} {o i p : Nat} {f : F} {R : Bool → Sto → Prop} (h3 : τ[3]? = some (some (tabD o i p f))) (ho : o ≤ 12) (hi : i ≤ 12) (h9 : 9 < τ.length) (h10 : 10 < τ.length) (q : ∀ b M', Le M M' → R b M') :
    W (eTst (eCall bAll (aCons (eLc (iVal (eOp dIx (eVar 3) (eCon (.int 3)))) (.nm 9) (yes) (eCall bAll (aCons (eLc (iVal (eVar 9)) (.nm 10) (yes) (eAnd (eOp dLt (eCall bMax (aCons (eVar 10) (aNil))) (eOp dPow (eCon (.int 10)) (eCon (.int 12)))) (eOp dGt (eCall bMin (aCons (eVar 10) (aNil))) (eOp dSub (eCon (.int 0)) (eOp dPow (eCon (.int 10)) (eCon (.int 12)))))) [10]) (aNil))) [9]) (aNil))) τ M) R := by
  have so := pow_sm ho
  have si := pow_sm hi
  rw [W_tst, W_call, W_cons]
  refine W_lcR (by rfl) (W_iVal ((W_ix3 h3).mpr ⟨_, rfl, fun w hw => ⟨_, fun y => .bl ((List.range (2 ^ i)).all fun x => (decide (maxI (f y x).a [(f y x).b, (f y x).c, (f y x).d] < BB) && decide (0 - BB < minI (f y x).a [(f y x).b, (f y x).c, (f y x).d]))), hw _ fun M' _ => rfl, by simp; omega, fun y hy M1 l1 => ⟨_, rfl, ?_⟩, fun M1 l1 h1 => ?_⟩⟩))
  · simp only [List.length_map, List.length_range] at hy
    rw [W_call, W_cons]
    refine W_lcR (by rfl) (W_iVal ((W_var (d := rowD (2 ^ i) (f y)) ?_).mpr ⟨_, rfl, fun w2 hw2 => ⟨_, fun x => .bl (decide (maxI (f y x).a [(f y x).b, (f y x).c, (f y x).d] < BB) && decide (0 - BB < minI (f y x).a [(f y x).b, (f y x).c, (f y x).d])), hw2 _ fun M' _ => rfl, by simp; omega, fun x hx M2 l2 => ⟨_, rfl, ?_⟩, fun M2 l2 h2 => ?_⟩⟩))
    · simp [wipeE, h9]
    · simp only [List.length_map, List.length_range] at hx
      have emax : ∀ M : Sto, bMax [(f y x).D] M = .ok (.int (maxI (f y x).a [(f y x).b, (f y x).c, (f y x).d])) M := fun _ => rfl
      have emin : ∀ M : Sto, bMin [(f y x).D] M = .ok (.int (minI (f y x).a [(f y x).b, (f y x).c, (f y x).d])) M := fun _ => rfl
      rw [W_and, W_op, W_call, W_cons, W_var (d := (f y x).D) (by simp [wipeE, h10])]
      simp only [W_nil]
      rw [emax, W_ok, W_op, W_con, W_con, pow12, W_ok, dLt_i, W_ok]
      refine ⟨_, rfl, ?_⟩
      by_cases hh : maxI (f y x).a [(f y x).b, (f y x).c, (f y x).d] < BB
      · rw [if_pos (decide_eq_true hh), W_op, W_call, W_cons, W_var (d := (f y x).D) (by simp [wipeE, h10])]
        simp only [W_nil]
        rw [emin, W_ok, W_op, W_con, W_op, W_con, W_con, pow12, W_ok, pow12', W_ok, dGt_i, W_ok, decide_eq_true hh]
        exact ⟨rfl, Le.rfl⟩
      · rw [if_neg (by rw [decide_eq_false hh]; decide), decide_eq_false hh]
        exact ⟨rfl, Le.rfl⟩
    · simp only [W_nil, List.length_map, List.length_range] at h2 ⊢
      rw [bAll_v h2, W_ok]
      exact ⟨rfl, l2⟩
  · simp only [W_nil, List.length_map, List.length_range] at h1 ⊢
    rw [bAll_v h1, W_ok]
    exact ⟨_, rfl, q _ M1 l1⟩
end
end Kp

set_option Elab.async false
set_option linter.all false
set_option maxRecDepth 100000
set_option maxHeartbeats 4000000
set_option exponentiation.threshold 4000
/-! Kp18: products -/
namespace Kp
open PySem PySem.Spec PyProof.Rows L2 Mp K29
open Kq (Le Gr Wo Cs lt_of_get seq_le seq_gr seq_adr wo_tup wo_lst startD_eq)
section
variable {CN : Str → Addr} {M : Sto} {t c0 : Nat} {cs : List Int}
/-- 'not f(..)' of what is true: nothing is done -/
theorem W_ntrue {τ : Mp.Env} {f : FE} {R : Bool → Sto → Prop} (h : W (f τ M) fun v M' => v = .bl true ∧ R false M') : W (eNotT (eTst f) τ M) R := by
  rw [W_notT, W_tst]
  refine W_mono h fun v M' ⟨e, q⟩ => ?_
  subst e
  exact ⟨true, rfl, q⟩
theorem W_lcDn {τ : Mp.Env} {x : Nat} {q : Q} {R : D → Sto → Prop} {j : Nat} (hj : τ[j]? = some (some q.D)) (hx : x < τ.length) (h : ∀ M', Le M M' → R q.neg.D M') : W (eCall bTuple (aCons (eLc (iVal (eVar j)) (.nm x) (yes) (eOp dSub (eCon (.int 0)) (eVar x)) [x]) (aNil)) τ M) R := by
  rw [W_call, W_cons]
  refine W_lcR (by simp [Tg.inn]) (W_iVal ((W_var hj).mpr ⟨[.int q.a, .int q.b, .int q.c, .int q.d], rfl, fun w hw => ⟨_, fun i => [D.int q.neg.a, .int q.neg.b, .int q.neg.c, .int q.neg.d].getD i .non, hw _ fun M' _ => rfl, by simp, fun i hi M1 l1 => ⟨_, rfl, ?_⟩, fun M1 l1 h1 => ?_⟩⟩))
  · simp only [List.length_cons, List.length_nil] at hi
    have hv : ((wipeE τ [x]).set x (some ([D.int q.a, .int q.b, .int q.c, .int q.d][i]'(by simpa using hi))))[x]? = some (some ([D.int q.a, .int q.b, .int q.c, .int q.d][i]'(by simpa using hi))) := by
      simp [wipeE, hx]
    rw [W_op, W_con, W_var hv]
    have hi4 : i = 0 ∨ i = 1 ∨ i = 2 ∨ i = 3 := by omega
    rcases hi4 with e | e | e | e <;> subst e <;> simp [Q.neg]
  · simp only [W_nil]
    rw [bTuple_s (xs := [.int q.neg.a, .int q.neg.b, .int q.neg.c, .int q.neg.d]) (by rw [seq_adr, h1]; rfl), W_ok]
    exact h M1 l1
theorem products_ok {a b c p q : Nat} {f g : F} (ht : Tape t c0 cs M) (hf : Tok BB b a p f) (hg : Tok BB c b q g) (hp : p ≤ 60) (hq : q ≤ 60) : W (m__law_products CN [.adr t, tabD b a p f, tabD c b q g] M) fun v M' => v = .bl true ∧ Gr t M M' ∧ (∃ o, M'[t]? = some o ∧ TpO c0 o) := by
  have hpq : p + q ≤ 300 := by omega
  have hct := ch_tok hf hg hpq
  have hch : ∀ M, W (m_chained CN [tabD b a p f, tabD c b q g] M) _ := fun M => chained_ok hf hg BB_3000
  have hcl : ∀ M, W (m__law_chain CN _ M) _ := fun M => chain_law (CN := CN) hf hg hpq
  have hch2 : ∀ M, W (m_chained CN [tabD b c q (mirF g), tabD a b p (mirF f)] M) _ := fun M => chained_ok (mir_tok hg) (mir_tok hf) BB_3000
  have hmm := oneF_mir (m := 2 ^ c) (n := 2 ^ a) (p := p + q) (f := chF (2 ^ b) f g)
  rw [chF_mir, Nat.add_comm q p] at hch2
  have hch3 : ∀ M, W (m_chained CN [tabD b c q (mirF g), tabD a b p (mirF f)] M) fun v M' => v = tabD a c (oneF (2 ^ c) (2 ^ a) (p + q) (chF (2 ^ b) f g)).1 (mirF (oneF (2 ^ c) (2 ^ a) (p + q) (chF (2 ^ b) f g)).2) ∧ Le M M' := fun M => W_mono (hch2 M) fun v M' ⟨e, l⟩ => ⟨by rw [e]; exact tabD_congr hmm.1 hmm.2, l⟩
  clear hch2 hmm
  generalize oneF (2 ^ c) (2 ^ a) (p + q) (chF (2 ^ b) f g) = r at *
  obtain ⟨rp', rf⟩ := r
  dsimp only at *
  unfold m__law_products
  refine W_defT (P := fun v => v = .bl true) (I := TpO c0) ht.lt ?_
  rw [WS_seq, WS_setN, W_call, W_cons, W_var (by rfl), W_cons, W_var (by rfl)]
  simp only [W_nil]
  rw [W_lenF (by rfl)]
  refine W_mono (hch M) fun v M1 ⟨e, l1⟩ => ?_
  subst e
  try dsimp only
  rw [WS_seq, WS_if, W_orT]
  refine W_ntrue ?_
  rw [W_call, W_cons, W_var (by rfl), W_cons, W_var (by rfl), W_cons, W_var (by rfl)]
  simp only [W_nil]
  rw [W_lenF (by rfl)]
  refine W_mono (hcl M1) fun v M2 ⟨e, l2⟩ => ⟨e, ?_⟩
  rw [if_neg (by decide)]
  refine W_ntrue ?_
  rw [W_call, W_cons, W_call, W_cons, W_var (by rfl), W_cons, W_var (by rfl)]
  simp only [W_nil]
  rw [W_perm]
  refine W_mono (hch M2) fun v M3 ⟨e, l3⟩ => ?_
  subst e
  rw [W_cons, W_var (by rfl)]
  simp only [W_nil]
  rw [W_lenF (by rfl)]
  refine W_mono (same_tab hg.ho hf.hi) fun v M4 ⟨e, l4⟩ => ⟨e, ?_⟩
  rw [if_neg (by decide), WS_nil]
  try dsimp only
  rw [WS_seq, WS_setN, W_call, W_cons, W_var (by rfl)]
  simp only [W_nil]
  rw [W_lenF (by rfl)]
  refine W_mono (mirrored_tok hf) fun v M5 ⟨e, l5⟩ => ?_
  subst e
  try dsimp only
  rw [WS_seq, WS_setN, W_call, W_cons, W_var (by rfl)]
  simp only [W_nil]
  rw [W_perm1]
  refine W_mono (mirrored_tok (CN := CN) (M := M5) hg) fun v M6 ⟨e, l6⟩ => ?_
  subst e
  try dsimp only
  rw [WS_seq, WS_if, W_orT]
  refine W_ntrue ?_
  rw [W_call, W_cons, W_var (by rfl), W_cons, W_var (by rfl)]
  simp only [W_nil]
  rw [W_lenF (by rfl)]
  refine W_mono (over_law hf (by decide) (by omega)) fun v M7 ⟨e, l7⟩ => ⟨e, ?_⟩
  rw [if_neg (by decide)]
  refine W_ntrue ?_
  rw [W_call, W_cons, W_var (by rfl), W_cons, W_var (by rfl)]
  simp only [W_nil]
  rw [W_lenF (by rfl)]
  refine W_mono (over_law hg (by decide) (by omega)) fun v M8 ⟨e, l8⟩ => ⟨e, ?_⟩
  rw [if_neg (by decide), WS_nil]
  try dsimp only
  rw [WS_seq, WS_if]
  refine W_ntrue ?_
  rw [W_call, W_cons, W_call, W_cons, W_var (by rfl)]
  simp only [W_nil]
  rw [W_lenF (by rfl)]
  refine W_mono (mirrored_tok (mir_tok hf)) fun v M9 ⟨e, l9⟩ => ?_
  rw [mirF_mirF] at e
  subst e
  rw [W_cons, W_var (by rfl)]
  simp only [W_nil]
  rw [W_lenF (by rfl)]
  refine W_mono (same_tab hf.ho hf.hi) fun v M10 ⟨e, l10⟩ => ⟨e, ?_⟩
  rw [if_neg (by decide), WS_nil]
  try dsimp only
  have L10 : Le M M10 := ((((((((l1.trans l2).trans l3).trans l4).trans l5).trans l6).trans l7).trans l8).trans l9).trans l10
  rw [WS_seq, WS_if, W_andT, W_tb, W_op, W_ix2 (o := c) (i := a) (p := rp') (f := rf) (by rfl), W_con, dLe_i, W_ok]
  refine ⟨_, rfl, ?_⟩
  -- behind the question of small values
  have rest : ∀ M11, Le M10 M11 → WS (sSeq (sIf (eAndT (eTB (eOp dEq (eOp dIx (eVar 1) (eCon (.int 0))) (eOp dIx (eVar 2) (eCon (.int 0))))) (eAndT (eTB (eOp dEq (eOp dIx (eVar 1) (eCon (.int 1))) (eOp dIx (eVar 2) (eCon (.int 1))))) (eNotT (eTst (eCall (lenF 3 (m__law_sum CN)) (aCons (eVar 1) (aCons (eVar 2) (aCons (eCall (lenF 2 (m_added CN)) (aCons (eVar 1) (aCons (eVar 2) (aNil)))) (aNil))))))))) (sRet (eCon (.bl false))) (sNil)) (sSeq (sSet (.nm 6) (eCall (lenF 3 (m__law_drawn CN)) (aCons (eVar 0) (aCons (eOp dIx (eVar 1) (eCon (.int 0))) (aCons (eOp dIx (eVar 1) (eCon (.int 1))) (aNil)))))) (sSeq (sSet (.nm 7) (eTup (aCons (eOp dIx (eVar 1) (eCon (.int 0))) (aCons (eOp dIx (eVar 1) (eCon (.int 1))) (aCons (eOp dIx (eVar 1) (eCon (.int 2))) (aCons (eCall bTuple (aCons (eLc (iVal (eOp dIx (eVar 1) (eCon (.int 3)))) (.nm 9) (yes) (eCall bTuple (aCons (eLc (iVal (eVar 9)) (.nm 10) (yes) (eCall bTuple (aCons (eLc (iVal (eVar 10)) (.nm 11) (yes) (eOp dSub (eCon (.int 0)) (eVar 11)) [11]) (aNil))) [10]) (aNil))) [9]) (aNil))) (aNil))))))) (sSeq (sFor (iVal (eTup (aCons (eVar 6) (aCons (eVar 1) (aCons (eVar 7) (aNil)))))) (.nm 8) (sSeq (sSet (.nm 3) (eCall (lenF 2 (m_added CN)) (aCons (eVar 1) (aCons (eVar 8) (aNil))))) (sIf (eOrT (eNotT (eTst (eCall (lenF 3 (m__law_sum CN)) (aCons (eVar 1) (aCons (eVar 8) (aCons (eVar 3) (aNil))))))) (eNotT (eTst (eCall (lenF 2 (m__law_same CN 12)) (aCons (eCall (fun ds M => lenF 2 (fun ds M => lenF 2 (m_added CN) (permL [1, 0] ds) M) ds M) (aCons (eVar 1) (aCons (eVar 8) (aNil)))) (aCons (eVar 3) (aNil))))))) (sRet (eCon (.bl false))) (sNil)))) (sRet (eCall (lenF 2 (m__law_same CN 12)) (aCons (eCall (lenF 2 (m_added CN)) (aCons (eVar 1) (aCons (eVar 7) (aNil)))) (aCons (eCall (lenF 2 (m__law_nought CN)) (aCons (eOp dIx (eVar 1) (eCon (.int 0))) (aCons (eOp dIx (eVar 1) (eCon (.int 1))) (aNil)))) (aNil))))))))
      [some (.adr t), some (tabD b a p f), some (tabD c b q g), some (tabD c a rp' rf), some (tabD a b p (mirF f)), some (tabD b c q (mirF g)), none, none, none, none, none, none] M11)
      { nx := fun _ M' => D.non = .bl true ∧ Gr t M M' ∧ (∃ o, M'[t]? = some o ∧ TpO c0 o), bk := fun _ _ => False, rt := fun d M' => d = .bl true ∧ Gr t M M' ∧ (∃ o, M'[t]? = some o ∧ TpO c0 o) } := by
    intro M11 l11
    have L11 := L10.trans l11
    clear hch hcl hch3 hct l1 l2 l3 l4 l5 l6 l7 l8 l9 l10
    rw [WS_seq, WS_if, W_andT, W_tb, W_op, W_ix0 (o := b) (i := a) (p := p) (f := f) (by rfl), W_ix0 (o := c) (i := b) (p := q) (f := g) (by rfl), dEq_i, W_ok]
    refine ⟨_, rfl, ?_⟩
    have rest2 : ∀ M12, Le M11 M12 → WS (sSeq (sSet (.nm 6) (eCall (lenF 3 (m__law_drawn CN)) (aCons (eVar 0) (aCons (eOp dIx (eVar 1) (eCon (.int 0))) (aCons (eOp dIx (eVar 1) (eCon (.int 1))) (aNil)))))) (sSeq (sSet (.nm 7) (eTup (aCons (eOp dIx (eVar 1) (eCon (.int 0))) (aCons (eOp dIx (eVar 1) (eCon (.int 1))) (aCons (eOp dIx (eVar 1) (eCon (.int 2))) (aCons (eCall bTuple (aCons (eLc (iVal (eOp dIx (eVar 1) (eCon (.int 3)))) (.nm 9) (yes) (eCall bTuple (aCons (eLc (iVal (eVar 9)) (.nm 10) (yes) (eCall bTuple (aCons (eLc (iVal (eVar 10)) (.nm 11) (yes) (eOp dSub (eCon (.int 0)) (eVar 11)) [11]) (aNil))) [10]) (aNil))) [9]) (aNil))) (aNil))))))) (sSeq (sFor (iVal (eTup (aCons (eVar 6) (aCons (eVar 1) (aCons (eVar 7) (aNil)))))) (.nm 8) (sSeq (sSet (.nm 3) (eCall (lenF 2 (m_added CN)) (aCons (eVar 1) (aCons (eVar 8) (aNil))))) (sIf (eOrT (eNotT (eTst (eCall (lenF 3 (m__law_sum CN)) (aCons (eVar 1) (aCons (eVar 8) (aCons (eVar 3) (aNil))))))) (eNotT (eTst (eCall (lenF 2 (m__law_same CN 12)) (aCons (eCall (fun ds M => lenF 2 (fun ds M => lenF 2 (m_added CN) (permL [1, 0] ds) M) ds M) (aCons (eVar 1) (aCons (eVar 8) (aNil)))) (aCons (eVar 3) (aNil))))))) (sRet (eCon (.bl false))) (sNil)))) (sRet (eCall (lenF 2 (m__law_same CN 12)) (aCons (eCall (lenF 2 (m_added CN)) (aCons (eVar 1) (aCons (eVar 7) (aNil)))) (aCons (eCall (lenF 2 (m__law_nought CN)) (aCons (eOp dIx (eVar 1) (eCon (.int 0))) (aCons (eOp dIx (eVar 1) (eCon (.int 1))) (aNil)))) (aNil)))))))
        [some (.adr t), some (tabD b a p f), some (tabD c b q g), some (tabD c a rp' rf), some (tabD a b p (mirF f)), some (tabD b c q (mirF g)), none, none, none, none, none, none] M12)
        { nx := fun _ M' => D.non = .bl true ∧ Gr t M M' ∧ (∃ o, M'[t]? = some o ∧ TpO c0 o), bk := fun _ _ => False, rt := fun d M' => d = .bl true ∧ Gr t M M' ∧ (∃ o, M'[t]? = some o ∧ TpO c0 o) } := by
      intro M12 l12
      have K12 := ht.le (L11.trans l12)
      have T12 := ht.step K12
      have sb := pow_sm hf.ho
      have sa := pow_sm hf.hi
      rw [WS_seq, WS_setN, W_call, W_cons, W_var (by rfl), W_cons, W_ix0 (o := b) (i := a) (p := p) (f := f) (by rfl), W_cons, W_ix1 (o := b) (i := a) (p := p) (f := f) (by rfl)]
      simp only [W_nil]
      rw [W_lenF (by rfl)]
      refine W_mono (drawn_ok T12 hf.ho hf.hi) fun v M13 ⟨⟨p2, f2, e, hf2, hp2⟩, a13, b13⟩ => ?_
      subst e
      have K13 := K12.trans ⟨a13, b13⟩
      have T13 := ht.step K13
      try dsimp only
      rw [WS_seq, WS_setN, W_tup, W_cons, W_ix0 (o := b) (i := a) (p := p) (f := f) (by rfl), W_cons, W_ix1 (o := b) (i := a) (p := p) (f := f) (by rfl), W_cons, W_ix2 (o := b) (i := a) (p := p) (f := f) (by rfl), W_cons, W_call, W_cons]
      refine W_lcR (by rfl) (W_iVal ((W_ix3 (o := b) (i := a) (p := p) (f := f) (by rfl)).mpr ⟨_, rfl, fun w hw => ⟨_, fun y => rowD (2 ^ a) (negF f y), hw _ fun M' _ => rfl, by simp; omega, fun y hy M14 l14 => ⟨_, rfl, ?_⟩, fun M14 l14 h14 => ?_⟩⟩))
      · simp only [List.length_map, List.length_range] at hy
        rw [W_call, W_cons]
        refine W_lcR (by rfl) (W_iVal ((W_var (d := rowD (2 ^ a) (f y)) (by simp [wipeE])).mpr ⟨_, rfl, fun w2 hw2 => ⟨_, fun x => (negF f y x).D, hw2 _ fun M' _ => rfl, by simp; omega, fun x hx M15 l15 => ⟨_, rfl, ?_⟩, fun M15 l15 h15 => ?_⟩⟩))
        · simp only [List.length_map, List.length_range] at hx
          exact W_lcDn (q := f y x) (by simp [wipeE]) (by simp [wipeE]) fun M' l => ⟨rfl, l⟩
        · simp only [W_nil, List.length_map, List.length_range] at h15 ⊢
          rw [bTuple_s (xs := (List.range (2 ^ a)).map fun x => (negF f y x).D) (by rw [seq_adr, h15]), W_ok]
          exact ⟨rfl, l15⟩
      · simp only [W_nil, List.length_map, List.length_range] at h14 ⊢
        rw [bTuple_s (xs := (List.range (2 ^ b)).map fun y => rowD (2 ^ a) (negF f y)) (by rw [seq_adr, h14]), W_ok]
        refine ⟨by simp, ?_⟩
        have eT : D.tup [.int b, .int a, .int p, .tup ((List.range (2 ^ b)).map fun y => rowD (2 ^ a) (negF f y))] = tabD b a p (negF f) := rfl
        rw [eT]
        have K14 := K13.trans (T13.le l14)
        have T14 := ht.step K14
        try dsimp only
        rw [WS_seq]
        refine WS_for (W_iVal ?_)
        rw [W_tup, W_cons, W_var (by rfl), W_cons, W_var (by rfl), W_cons, W_var (by rfl)]
        simp only [W_nil]
        refine ⟨by simp, _, rfl, fun w2 hw2 => ?_⟩
        have hxs : ∀ i, i < 3 → ∃ p' f', [tabD b a p2 f2, tabD b a p f, tabD b a p (negF f)][i]? = some (tabD b a p' f') ∧ Tok BB b a p' f' ∧ p' ≤ 60 := fun i hi => by
          match i, hi with
          | 0, _ => exact ⟨_, _, rfl, hf2, hp2⟩
          | 1, _ => exact ⟨_, _, rfl, hf, hp⟩
          | 2, _ => exact ⟨_, _, rfl, neg_tok hf, hp⟩
        refine ⟨_, fun _ => True, fun i τ M' => (∃ x3 x8, τ = [some (.adr t), some (tabD b a p f), some (tabD c b q g), x3, some (tabD a b p (mirF f)), some (tabD b c q (mirF g)), some (tabD b a p2 f2), some (tabD b a p (negF f)), x8, none, none, none]) ∧ Le M14 M', hw2 _ fun M' _ => rfl, fun _ _ _ _ => trivial, ⟨⟨_, _, rfl⟩, Le.rfl⟩, ?_, ?_⟩
        · rintro i hi τ M15 ⟨⟨x3, x8, rfl⟩, l15⟩
          simp only [List.length_cons, List.length_nil] at hi
          obtain ⟨p', f', e', hf', hp'⟩ := hxs i (by omega)
          have e2 : [tabD b a p2 f2, tabD b a p f, tabD b a p (negF f)][i]'(by simpa using hi) = tabD b a p' f' := by
            rw [List.getElem?_eq_getElem (by simpa using hi)] at e'
            exact Option.some.inj e'
          rw [e2]
          refine ⟨[some (.adr t), some (tabD b a p f), some (tabD c b q g), x3, some (tabD a b p (mirF f)), some (tabD b c q (mirF g)), some (tabD b a p2 f2), some (tabD b a p (negF f)), some (tabD b a p' f'), none, none, none], by simp [Tg.put], ?_⟩
          rw [WS_seq, WS_setN, W_call, W_cons, W_var (by rfl), W_cons, W_var (by rfl)]
          simp only [W_nil]
          rw [W_lenF (by rfl)]
          refine W_mono (added_ok hf hf' (by decide +kernel) (by decide)) fun v M16 ⟨e, l16⟩ => ?_
          subst e
          try dsimp only
          rw [WS_if, W_orT]
          refine W_ntrue ?_
          rw [W_call, W_cons, W_var (by rfl), W_cons, W_var (by rfl), W_cons, W_var (by rfl)]
          simp only [W_nil]
          rw [W_lenF (by rfl)]
          refine W_mono (sum_law hf hf' (by omega) (by omega)) fun v M17 ⟨e, l17⟩ => ⟨e, ?_⟩
          rw [if_neg (by decide)]
          refine W_ntrue ?_
          rw [W_call, W_cons, W_call, W_cons, W_var (by rfl), W_cons, W_var (by rfl)]
          simp only [W_nil]
          rw [W_perm]
          refine W_mono (added_ok hf' hf (by decide +kernel) (by decide)) fun v M18 ⟨e, l18⟩ => ?_
          rw [adF_comm, Nat.max_comm] at e
          subst e
          rw [W_cons, W_var (by rfl)]
          simp only [W_nil]
          rw [W_lenF (by rfl)]
          refine W_mono (same_tab hf.ho hf.hi) fun v M19 ⟨e, l19⟩ => ⟨e, ?_⟩
          rw [if_neg (by decide), WS_nil]
          exact ⟨⟨_, _, rfl⟩, (((l15.trans l16).trans l17).trans l18).trans l19⟩
        · rintro τ M15 ⟨⟨x3, x8, rfl⟩, l15⟩
          try dsimp only
          rw [WS_ret, W_call, W_cons, W_call, W_cons, W_var (by rfl), W_cons, W_var (by rfl)]
          simp only [W_nil]
          rw [W_lenF (by rfl)]
          refine W_mono (added_ok hf (neg_tok hf) (by decide +kernel) (by decide)) fun v M16 ⟨e, l16⟩ => ?_
          rw [adF_neg, oneF_no] at e
          subst e
          rw [W_cons, W_call, W_cons, W_ix0 (o := b) (i := a) (p := p) (f := f) (by rfl), W_cons, W_ix1 (o := b) (i := a) (p := p) (f := f) (by rfl)]
          simp only [W_nil]
          rw [W_lenF (by rfl)]
          refine W_mono (nought_ok hf.ho hf.hi) fun v M17 ⟨e, l17⟩ => ?_
          subst e
          rw [W_lenF (by rfl)]
          refine W_mono (same_tab hf.ho hf.hi) fun v M18 ⟨e, l18⟩ => ?_
          have K18 := K14.trans (T14.le (((l15.trans l16).trans l17).trans l18))
          exact ⟨e, K18.1, K18.2⟩
    by_cases hbc : b = c
    · subst hbc
      rw [if_pos (by simp), W_andT, W_tb, W_op, W_ix1 (o := b) (i := a) (p := p) (f := f) (by rfl), W_ix1 (o := b) (i := b) (p := q) (f := g) (by rfl), dEq_i, W_ok]
      refine ⟨_, rfl, ?_⟩
      by_cases hab : a = b
      · subst hab
        rw [if_pos (by simp)]
        refine W_ntrue ?_
        rw [W_call, W_cons, W_var (by rfl), W_cons, W_var (by rfl), W_cons, W_call, W_cons, W_var (by rfl), W_cons, W_var (by rfl)]
        simp only [W_nil]
        rw [W_lenF (by rfl)]
        refine W_mono (added_ok hf hg (by decide +kernel) (by decide)) fun v M12 ⟨e, l12⟩ => ?_
        subst e
        rw [W_lenF (by rfl)]
        refine W_mono (sum_law hf hg (by omega) (by omega)) fun v M13 ⟨e, l13⟩ => ⟨e, ?_⟩
        rw [if_neg (by decide), WS_nil]
        exact rest2 M13 (l12.trans l13)
      · rw [if_neg (by simp; omega), if_neg (by decide), WS_nil]
        exact rest2 M11 Le.rfl
    · rw [if_neg (by simp; omega), if_neg (by decide), WS_nil]
      exact rest2 M11 Le.rfl
  by_cases h60 : rp' ≤ 60
  · rw [if_pos (by simp; omega)]
    refine W_smallc (o := c) (i := a) (p := rp') (f := rf) (by rfl) hg.ho hf.hi (by simp [startD]) (by simp [startD]) fun bb M11 l11 => ?_
    cases bb with
    | false =>
      rw [if_neg (by decide), WS_nil]
      exact rest M11 l11
    | true =>
      rw [if_pos rfl, WS_if]
      refine W_ntrue ?_
      rw [W_call, W_cons, W_call, W_cons, W_var (by rfl)]
      simp only [W_nil]
      rw [W_lenF (by rfl)]
      refine W_mono (mirrored_tok hct) fun v M12 ⟨e, l12⟩ => ?_
      subst e
      rw [W_cons, W_call, W_cons, W_var (by rfl), W_cons, W_var (by rfl)]
      simp only [W_nil]
      rw [W_lenF (by rfl)]
      refine W_mono (hch3 M12) fun v M13 ⟨e, l13⟩ => ?_
      subst e
      rw [W_lenF (by rfl)]
      refine W_mono (same_tab hf.hi hg.ho) fun v M14 ⟨e, l14⟩ => ⟨e, ?_⟩
      rw [if_neg (by decide), WS_nil]
      exact rest M14 (((l11.trans l12).trans l13).trans l14)
  · rw [if_neg (by simp; omega), if_neg (by decide), WS_nil]
    exact rest M10 Le.rfl
end
end Kp

set_option Elab.async false
set_option linter.all false
set_option maxRecDepth 100000
set_option maxHeartbeats 4000000
set_option exponentiation.threshold 4000
/-! Kp19: what is no table; refused calls -/
namespace Kp
open PySem PySem.Spec PyProof.Rows L2 Mp K29
open Kq (Le Gr Wo Cs lt_of_get seq_le seq_gr seq_adr wo_tup wo_lst startD_eq)
section
variable {CN : Str → Addr} {M : Sto} {t c0 : Nat} {cs : List Int}
theorem _root_.Kq.Gr.get {n : Nat} {M M' : Sto} (h : Gr n M M') {k : Nat} {o : MO} (ne : k ≠ n) (e : M[k]? = some o) : M'[k]? = some o := by
  rw [h.2 k (lt_of_get e) ne, e]
/-- no table, whatever becomes of the object at n and of what is new -/
def BadN (CN : Str → Addr) (n : Nat) (M : Sto) (d : D) : Prop := ∀ M', Gr n M M' → W (m_is_table CN [d] M') fun v M'' => v = .bl false ∧ Le M' M''
theorem BadN.gr {n : Nat} {d : D} {M' : Sto} (h : BadN CN n M d) (g : Gr n M M') : BadN CN n M' d := fun M'' g2 => h M'' (g.trans g2)
theorem bad_no4 {n : Nat} {d : D} (h : ∀ M', Gr n M M' → Kd M' d) (h4 : isTn 4 d = false) : BadN CN n M d := fun M' g => is_table_no4 (h M' g) h4
theorem bad_rows {n o i p : Nat} {r : D} (h : ∀ M', Gr n M M' → Kd3 M' r) (hr : isRows o i r = false) : BadN CN n M (.tup [.int o, .int i, .int p, r]) := fun M' g => by
  refine W_mono (is_table_4 (CN := CN) (M := M') (o := .int o) (i := .int i) (p := .int p) trivial trivial trivial (h M' g) (fun a b _ _ _ ea eb hx => ?_)) fun v M'' ⟨e, l⟩ => ⟨?_, l⟩
  · have ea' : a = o := by have := D.int.inj ea; omega
    have eb' : b = i := by have := D.int.inj eb; omega
    subst ea' eb'
    rw [hr] at hx; cases hx
  · rw [e]
    simp [hr]
theorem bad_num {n o i : Nat} {p r : D} (hp : ∀ M', Gr n M M' → Kd M' p) (h : ∀ M', Gr n M M' → Kd3 M' r) (hn : isN p = false) : BadN CN n M (.tup [.int o, .int i, p, r]) := fun M' g => by
  refine W_mono (is_table_4 (CN := CN) (M := M') (o := .int o) (i := .int i) (p := p) trivial trivial (hp M' g) (h M' g) (fun a b _ _ hx _ _ _ => ?_)) fun v M'' ⟨e, l⟩ => ⟨?_, l⟩
  · rw [hn] at hx; cases hx
  · rw [e]
    simp [hn]
def dblF (f : F) : F := fun y x => ⟨2 * (f y x).a, 2 * (f y x).b, 2 * (f y x).c, 2 * (f y x).d⟩
theorem hasR_dbl {m n : Nat} {f : F} : allF m n Q.hasR (dblF f) = true := allF_iff.mpr fun y x _ _ => by
  rw [hasR_iff]; simp only [dblF]; omega
theorem bad_twice {n o i p : Nat} {f : F} (ho : o ≤ 12) (hi : i ≤ 12) : BadN CN n M (.tup [.int o, .int i, .int (p + 2 : Nat), gridD (2 ^ o) (2 ^ i) (dblF f)]) := fun M' g => by
  refine W_mono (is_table_4 (CN := CN) (M := M') (o := .int o) (i := .int i) (p := .int (p + 2 : Nat)) trivial trivial trivial (kd_grid (pow_sm ho) (pow_sm hi)) (fun a b _ _ _ _ _ _ => .inr ⟨_, rfl, by omega, 2 ^ o, 2 ^ i, dblF f, pow_sm ho, pow_sm hi, gridV_D, hasR_dbl⟩)) fun v M'' ⟨e, l⟩ => ⟨?_, l⟩
  rw [e]
  have : decide (((p + 2 : Nat) : Int) = 0) = false := by simp; omega
  simp [this]
  intros; omega
/-! refused calls -/
theorem WX_def {n : Nat} {fs : FS} {ds : List D} {C : Addr} {w : Str} (h : ∃ τ M', fs (startD n ds) M = .ex C [("at", .int (-1)), ("word", .str w)] τ M' ∧ Le M M') : WX C [("at", .int (-1)), ("word", .str w)] M (mdef n fs ds M) := by
  obtain ⟨τ, M', e, l⟩ := h
  unfold mdef
  rw [e]
  show WX _ _ M (fin M.length (.exn C [("at", .int (-1)), ("word", .str w)] M'))
  unfold fin
  dsimp only
  split
  · exact ⟨_, rfl, l.take⟩
  · exact ⟨_, rfl, l⟩
theorem need_seq {τ : Mp.Env} {w : Str} {A : FE} {g : FS} (h : W (A τ M) fun v M' => v = .bl false ∧ Le M M') : ∃ τ' M', sSeq (sExp (eCall (lenF 2 (m_need CN)) (aCons A (aCons (eCon (.str w)) (aNil))))) g τ M = .ex (CN "NotUsable") [("at", .int (-1)), ("word", .str w)] τ' M' ∧ Le M M' := by
  obtain ⟨v, M1, e, ev, l1⟩ := W_iff.mp h
  subst ev
  obtain ⟨M2, e2, l2⟩ := need_f (CN := CN) (w := w) (M := M1)
  refine ⟨τ, M2, ?_, l1.trans l2⟩
  have e3 : eCall (lenF 2 (m_need CN)) (aCons A (aCons (eCon (.str w)) (aNil))) τ M = .exn (CN "NotUsable") [("at", .int (-1)), ("word", .str w)] M2 := by
    unfold eCall aCons aNil eCon
    rw [e]
    simp only [Res.bind]
    rw [show lenF 2 (m_need CN) [.bl false, .str w] M1 = m_need CN [.bl false, .str w] M1 from rfl, e2]
  unfold sSeq sExp liftE
  rw [e3]
  rfl
theorem rdRef_at {C : Addr} {d1 d2 : D} {G : D → D → Sto → Res D} : Lx.rdRef C "word" "at" G (.exn C [("at", d2), ("word", d1)] M) = G d1 d2 M := by
  unfold Lx.rdRef
  exact if_pos ⟨rfl, rfl, rfl⟩
theorem g_refused {w : Str} : g__law_refused CN (.str w) (.int (-1)) ((Lx.slots2 3 w).set 2 none) M = m__law_same CN 12 [.tup [.str w, .int (-1)], .tup [.str w, .int (-1)]] M := by
  unfold g__law_refused
  have e : eTup (aCons (eVar 1) (aCons (eUn dNeg (eCon (.int 1))) aNil)) ((Lx.slots2 3 w).set 2 none) M = .ok (.tup [.str w, .int (-1)]) M := by rfl
  rw [e, Res.bind_ok]
theorem refused_ok {w : Str} (hw : eqP (.str w) (.str w) = some true) {fb : FE} {τ : Mp.Env} (h : WX (CN "NotUsable") [("at", .int (-1)), ("word", .str w)] M (fb τ M)) : W (rd__law_refused CN w fb τ M) fun v M' => v = .bl true ∧ Le M M' := by
  obtain ⟨M1, e, l1⟩ := h
  have key : W (m__law_same CN 12 [.tup [.str w, .int (-1)], .tup [.str w, .int (-1)]] M1) fun v M' => v = .bl true ∧ Le M1 M' :=
    same_n (k := 10 + 1) (by decide) (Pl.tup (by simp) (by
      intro e he
      simp only [List.mem_cons, List.not_mem_nil, or_false] at he
      rcases he with rfl | rfl
      · exact hw
      · exact pl_int _))
  obtain ⟨v, M2, e2, ev, l2⟩ := W_iff.mp key
  refine W_iff.mpr ⟨v, M2, ?_, ev, l1.trans l2⟩
  unfold rd__law_refused
  rw [e]
  rw [rdRef_at, g_refused, e2]
  rfl
theorem w_second : eqP (.str "second") (.str "second") = some true := by decide +kernel
theorem w_high : eqP (.str "high") (.str "high") = some true := by decide +kernel
theorem w_other : eqP (.str "other") (.str "other") = some true := by decide +kernel
theorem chained_bad {x d : D} (h : W (eAnd (eCall (lenF 1 (m_is_table CN)) (aCons (eVar 1) (aNil))) (eOp dEq (eOp dIx (eVar 1) (eCon (.int 1))) (eOp dIx (eVar 0) (eCon (.int 0)))) [some x, some d, none, none] M) fun v M' => v = .bl false ∧ Le M M') : WX (CN "NotUsable") [("at", .int (-1)), ("word", .str "second")] M (m_chained CN [x, d] M) := by
  unfold m_chained
  exact WX_def (need_seq h)
theorem side_bad {x d : D} (h : W (eCall (lenF 1 (m_is_table CN)) (aCons (eVar 1) (aNil)) [some x, some d, none, none, none, none, none] M) fun v M' => v = .bl false ∧ Le M M') : WX (CN "NotUsable") [("at", .int (-1)), ("word", .str "high")] M (m_side_by_side CN [x, d] M) := by
  unfold m_side_by_side
  exact WX_def (need_seq h)
theorem added_bad {x d : D} (h : W (eAnd (eCall (lenF 1 (m_is_table CN)) (aCons (eVar 1) (aNil))) (eOp dEq (eSl (eVar 1) (oNone) (oSome (eCon (.int 2)))) (eSl (eVar 0) (oNone) (oSome (eCon (.int 2))))) [some x, some d, none, none, none, none, none, none] M) fun v M' => v = .bl false ∧ Le M M') : WX (CN "NotUsable") [("at", .int (-1)), ("word", .str "other")] M (m_added CN [x, d] M) := by
  unfold m_added
  exact WX_def (need_seq h)
theorem chained_bad1 {n : Nat} {x d : D} (h : BadN CN n M d) : WX (CN "NotUsable") [("at", .int (-1)), ("word", .str "second")] M (m_chained CN [x, d] M) := chained_bad (by
  rw [W_and, W_call, W_cons, W_var (by rfl)]
  simp only [W_nil]
  rw [W_lenF (by rfl)]
  refine W_mono (h M Gr.rfl) fun v M' ⟨e, l⟩ => ⟨false, e, ?_⟩
  rw [if_neg (by decide)]
  exact ⟨by trivial, l⟩)
theorem side_bad1 {n : Nat} {x d : D} (h : BadN CN n M d) : WX (CN "NotUsable") [("at", .int (-1)), ("word", .str "high")] M (m_side_by_side CN [x, d] M) := side_bad (by
  rw [W_call, W_cons, W_var (by rfl)]
  simp only [W_nil]
  rw [W_lenF (by rfl)]
  exact h M Gr.rfl)
theorem added_bad1 {n : Nat} {x d : D} (h : BadN CN n M d) : WX (CN "NotUsable") [("at", .int (-1)), ("word", .str "other")] M (m_added CN [x, d] M) := added_bad (by
  rw [W_and, W_call, W_cons, W_var (by rfl)]
  simp only [W_nil]
  rw [W_lenF (by rfl)]
  refine W_mono (h M Gr.rfl) fun v M' ⟨e, l⟩ => ⟨false, e, ?_⟩
  rw [if_neg (by decide)]
  exact ⟨by trivial, l⟩)
theorem chained_bad2 {B B' : Int} {b a p c b' q : Nat} {f g : F} (hg : Tok B' c b' q g) (ne : b' ≠ b) : WX (CN "NotUsable") [("at", .int (-1)), ("word", .str "second")] M (m_chained CN [tabD b a p f, tabD c b' q g] M) := chained_bad (by
  rw [W_and, W_call, W_cons, W_var (by rfl)]
  simp only [W_nil]
  rw [W_lenF (by rfl)]
  refine W_mono (is_table_t hg.ho hg.hi hg.free) fun v M' ⟨e, l⟩ => ⟨true, e, ?_⟩
  rw [if_pos rfl, W_op, W_ix1 (o := c) (i := b') (p := q) (f := g) (by rfl), W_ix0 (o := b) (i := a) (p := p) (f := f) (by rfl), dEq_i, W_ok]
  exact ⟨by simp; omega, l⟩)
theorem added_bad2 {B' : Int} {o i p o' i' q : Nat} {f g : F} (hg : Tok B' o' i' q g) (ne : o' ≠ o ∨ i' ≠ i) : WX (CN "NotUsable") [("at", .int (-1)), ("word", .str "other")] M (m_added CN [tabD o i p f, tabD o' i' q g] M) := added_bad (by
  rw [W_and, W_call, W_cons, W_var (by rfl)]
  simp only [W_nil]
  rw [W_lenF (by rfl)]
  refine W_mono (is_table_t hg.ho hg.hi hg.free) fun v M' ⟨e, l⟩ => ⟨true, e, ?_⟩
  rw [if_pos rfl, W_op, W_sl, W_var (by rfl)]
  simp only [W_oN, W_oS, W_con]
  refine ⟨2, rfl, ?_⟩
  rw [tabD_seq, dSl_2, W_ok, W_sl, W_var (by rfl)]
  simp only [W_oN, W_oS, W_con]
  refine ⟨2, rfl, ?_⟩
  rw [tabD_seq, dSl_2, W_ok, dEq_2, W_ok]
  refine ⟨?_, l⟩
  have : ¬ ((o' : Int) = o ∧ (i' : Int) = i) := by omega
  simp [this])
end
end Kp

set_option Elab.async false
set_option linter.all false
set_option maxRecDepth 100000
set_option maxHeartbeats 4000000
set_option exponentiation.threshold 4000
/-! Kp20: bent tables -/
namespace Kp
open PySem PySem.Spec PyProof.Rows L2 Mp K29
open Kq (Le Gr Wo Cs lt_of_get seq_le seq_gr seq_adr wo_tup wo_lst startD_eq)
section
variable {CN : Str → Addr} {M : Sto} {t c0 : Nat} {cs : List Int}
theorem cut_take {xs : List D} {k : Nat} : Mp.cutD xs none (some (k : Int)) = xs.take k := by
  unfold Mp.cutD
  rw [HT.sIx_none, HT.sIx_nat]
  simp [List.take_eq_take_iff]
theorem cut_drop {xs : List D} {k : Nat} : Mp.cutD xs (some (k : Int)) none = xs.drop k := by
  unfold Mp.cutD
  rw [HT.sIx_none, HT.sIx_nat]
  rcases Nat.lt_or_ge k xs.length with h | h
  · rw [Nat.min_eq_left (by omega)]
    exact List.take_of_length_le (by simp)
  · rw [Nat.min_eq_right h, List.drop_eq_nil_of_le h, List.drop_length]; simp
theorem bList_t {xs : List D} : bList [.tup xs] M = .ok (.adr M.length) (M ++ [.lst xs]) := rfl
theorem dAdd_t {a b : List D} (h : a.length + b.length ≤ 16777216) : dAdd (.tup a) (.tup b) M = .ok (.tup (a ++ b)) M := by
  unfold dAdd; simp only; rw [if_pos h]
theorem dSl_t {xs : List D} {lo hi : Option Int} : dSl (.tup xs) lo hi M = .ok (.tup (Mp.cutD xs lo hi)) M := rfl
theorem dSet_n {n k : Nat} {xs : List D} {d : D} (h : M[n]? = some (.lst xs)) (hk : k < xs.length) : dSet (.adr n) (.int k) d M = .ok () (M.set n (.lst (xs.set k d))) := by
  unfold dSet
  simp only [h]
  have e : ixN xs.length (k : Int) = some k := by
    unfold ixN
    rw [if_pos (by omega), if_pos (by omega)]
    simp
  rw [e]
theorem ixV {r : Nat} (h : r < 3) : ∃ v : D, dIx (.tup [.bl true, .non, .str "1"]) (.int r) M = .ok v M ∧ isI v = false ∧ (∀ n, v ≠ .adr n) := by
  have : r = 0 ∨ r = 1 ∨ r = 2 := by omega
  rcases this with e | e | e <;> subst e
  · exact ⟨.bl true, rfl, rfl, fun _ z => nomatch z⟩
  · exact ⟨.non, rfl, rfl, fun _ z => nomatch z⟩
  · exact ⟨.str "1", rfl, rfl, fun _ z => nomatch z⟩
theorem kd_na {v : D} (h : ∀ n, v ≠ .adr n) : Kd M v := by
  cases v with
  | adr n => exact absurd rfl (h n)
  | _ => trivial
theorem W_lcDbl {τ : Mp.Env} {x : Nat} {q : Q} {R : D → Sto → Prop} {j : Nat} (hb : q.Bd BB) (hj : τ[j]? = some (some q.D)) (hx : x < τ.length) (h : ∀ M', Le M M' → R (D.tup [.int (2 * q.a), .int (2 * q.b), .int (2 * q.c), .int (2 * q.d)]) M') : W (eCall bTuple (aCons (eLc (iVal (eVar j)) (.nm x) (yes) (eOp dMul (eCon (.int 2)) (eVar x)) [x]) (aNil)) τ M) R := by
  have hs := bd_Sm hb BB_3000
  obtain ⟨s1, s2, s3, s4⟩ := hs
  have t2 : Sm 2 := by decide +kernel
  rw [W_call, W_cons]
  refine W_lcR (by simp [Tg.inn]) (W_iVal ((W_var hj).mpr ⟨[.int q.a, .int q.b, .int q.c, .int q.d], rfl, fun w hw => ⟨_, fun i => [D.int (2 * q.a), .int (2 * q.b), .int (2 * q.c), .int (2 * q.d)].getD i .non, hw _ fun M' _ => rfl, by simp, fun i hi M1 l1 => ⟨_, rfl, ?_⟩, fun M1 l1 h1 => ?_⟩⟩))
  · simp only [List.length_cons, List.length_nil] at hi
    have hv : ((wipeE τ [x]).set x (some ([D.int q.a, .int q.b, .int q.c, .int q.d][i]'(by simpa using hi))))[x]? = some (some ([D.int q.a, .int q.b, .int q.c, .int q.d][i]'(by simpa using hi))) := by
      simp [wipeE, hx]
    rw [W_op, W_con, W_var hv]
    have hi4 : i = 0 ∨ i = 1 ∨ i = 2 ∨ i = 3 := by omega
    rcases hi4 with e | e | e | e <;> subst e
    · show W (dMul (.int 2) (.int q.a) M1) _
      rw [dMul_i t2 s1, W_ok]; exact ⟨rfl, Le.rfl⟩
    · show W (dMul (.int 2) (.int q.b) M1) _
      rw [dMul_i t2 s2, W_ok]; exact ⟨rfl, Le.rfl⟩
    · show W (dMul (.int 2) (.int q.c) M1) _
      rw [dMul_i t2 s3, W_ok]; exact ⟨rfl, Le.rfl⟩
    · show W (dMul (.int 2) (.int q.d) M1) _
      rw [dMul_i t2 s4, W_ok]; exact ⟨rfl, Le.rfl⟩
  · simp only [W_nil]
    rw [bTuple_s (xs := [.int (2 * q.a), .int (2 * q.b), .int (2 * q.c), .int (2 * q.d)]) (by rw [seq_adr, h1]; rfl), W_ok]
    exact h M1 l1
/-- a list of what is no table -/
def FL (CN : Str → Addr) (n : Nat) (M : Sto) (k : Nat) : Prop := ∃ ds, M[n]? = some (.lst ds) ∧ ds.length = k ∧ ∀ d ∈ ds, BadN CN n M d
theorem app_step {τ : Mp.Env} {j n k : Nat} {e : FE} {C : Cs} {M0 : Sto} (hj : τ[j]? = some (some (.adr n))) (h : FL CN n M k) (hk : k < 100) (T : Tape t c0 cs M0) (hn : M0.length ≤ n) (g : Tr t c0 M0 M)
    (he : W (e τ M) fun d M1 => Le M M1 ∧ BadN CN n M1 d) (hC : ∀ M2, FL CN n M2 (k + 1) → Tr t c0 M0 M2 → Gr n M M2 → C.nx τ M2) : WS (sExp (eApp (eVar j) (aCons e aNil)) τ M) C := by
  obtain ⟨ds, h1, h2, h3⟩ := h
  rw [WS_exp]
  refine W_app ((W_var hj).mpr ⟨n, rfl, ⟨ds, by rw [seq_adr, h1]⟩, ?_⟩)
  rw [W_cons]
  refine W_mono he fun d M1 ⟨l1, hb⟩ => ?_
  simp only [W_nil]
  have h4 := l1.get h1
  refine ⟨d, ds, rfl, h4, by omega, hC _ ⟨ds ++ [d], get_set (lt_of_get h4), by simp [h2], fun x hx => ?_⟩ ?_ (l1.gr.trans Gr.set)⟩
  · rcases List.mem_append.mp hx with hx | hx
    · exact (h3 x hx).gr (l1.gr.trans Gr.set)
    · rw [List.mem_singleton.mp hx]; exact hb.gr Gr.set
  · exact Tr.setB T (g.trans ((T.step g).le l1)) hn
theorem kd3_rows {xs : List D} (hl : xs.length < 2 ^ 60) (h : ∀ e ∈ xs, Kd2 M e) : Kd3 M (.tup xs) := ⟨trivial, fun ds e => by cases e; exact ⟨hl, h⟩⟩
theorem kd2_vals {xs : List D} (hl : xs.length < 2 ^ 60) (h : ∀ e ∈ xs, Kd1 M e) : Kd2 M (.tup xs) := ⟨trivial, fun ds e => by cases e; exact ⟨hl, h⟩⟩
theorem kd1_cells {xs : List D} (hl : xs.length < 2 ^ 60) (h : ∀ e ∈ xs, Kd M e) : Kd1 M (.tup xs) := ⟨trivial, fun ds e => by cases e; exact ⟨hl, h⟩⟩
theorem kd2_adr {k : Nat} {xs : List D} (h : M[k]? = some (.lst xs)) : Kd2 M (.adr k) := ⟨⟨xs, h⟩, fun _ z => nomatch z⟩
theorem kd3_adr {k : Nat} {xs : List D} (h : M[k]? = some (.lst xs)) : Kd3 M (.adr k) := ⟨⟨xs, h⟩, fun _ z => nomatch z⟩
/-- one row of a grid exchanged -/
theorem kd3_one {m n k : Nat} {f : F} {x : D} (hm : m < 16777216) (hn : n < 16777216) (hx : Kd2 M x) : Kd3 M (.tup (((List.range m).map fun y => rowD n (f y)).take k ++ [x] ++ ((List.range m).map fun y => rowD n (f y)).drop (k + 1))) := by
  refine kd3_rows ?_ fun e he => ?_
  · simp; omega
  · have hr : ∀ e ∈ (List.range m).map fun y => rowD n (f y), Kd2 M e := fun e he => by
      obtain ⟨j, _, rfl⟩ := List.mem_map.mp he
      exact kd_row hn
    rcases List.mem_append.mp he with he | he
    · rcases List.mem_append.mp he with he | he
      · exact hr e (List.mem_of_mem_take he)
      · rw [List.mem_singleton.mp he]; exact hx
    · exact hr e (List.mem_of_mem_drop he)
theorem rows_one {o i k : Nat} {xs : List D} {x : D} (hx : isRow i x = false) : isRows o i (.tup (xs.take k ++ [x] ++ xs.drop (k + 1))) = false := by
  simp [isRows, hx]
theorem row_one {i k : Nat} {xs : List D} {x : D} (hx : isEx x = false) : isRow i (.tup (xs.take k ++ [x] ++ xs.drop (k + 1))) = false := by
  simp [isRow, hx]
theorem ex_one {xs : List D} {k : Nat} {v : D} (hk : k < xs.length) (hv : isI v = false) : isEx (.tup (xs.set k v)) = false := by
  have : (xs.set k v).all isI = false := by
    rw [Bool.eq_false_iff]
    intro h
    have := List.all_eq_true.mp h v (List.mem_iff_getElem.mpr ⟨k, by simpa using hk, by simp⟩)
    rw [hv] at this; cases this
  simp [isEx, this]
theorem pow40 : dPow (.int 10) (.int 40) M = .ok (.int (10 ^ 40)) M := rfl
theorem rows_40 {o i : Nat} {f : F} (ho : o ≤ 12) : isRows (10 ^ 40) i (gridD (2 ^ o) (2 ^ i) f) = false := by
  have h : 2 ^ o < 2 ^ (10 ^ 40) := Nat.pow_lt_pow_right (by decide) (Nat.lt_of_le_of_lt ho (by decide))
  generalize (10 : Nat) ^ 40 = K at *
  simp only [isRows, gridD, List.length_map, List.length_range]
  rw [decide_eq_false (by omega), Bool.false_and]
end
end Kp

set_option Elab.async false
set_option linter.all false
set_option maxRecDepth 100000
set_option maxHeartbeats 8000000
set_option exponentiation.threshold 4000
/-! Kp21: bent -/
namespace Kp
open PySem PySem.Spec PyProof.Rows L2 Mp K29
open Kq (Le Gr Wo Cs lt_of_get seq_le seq_gr seq_adr wo_tup wo_lst startD_eq)
section
variable {CN : Str → Addr} {M : Sto} {t c0 : Nat} {cs : List Int}
theorem W_tup4 {τ : Mp.Env} {e0 e1 e2 e3 : FE} {R : D → Sto → Prop} (h : W (e0 τ M) fun d0 M => W (e1 τ M) fun d1 M => W (e2 τ M) fun d2 M => W (e3 τ M) fun d3 M => R (.tup [d0, d1, d2, d3]) M) : W (eTup (aCons e0 (aCons e1 (aCons e2 (aCons e3 aNil)))) τ M) R := by
  rw [W_tup, W_cons]
  refine W_mono h fun d0 M h => ?_
  rw [W_cons]
  refine W_mono h fun d1 M h => ?_
  rw [W_cons]
  refine W_mono h fun d2 M h => ?_
  rw [W_cons]
  refine W_mono h fun d3 M h => ?_
  rw [W_nil]
  exact ⟨by simp, h⟩
theorem bent_ok {o i p : Nat} {f : F} (ht : Tape t c0 cs M) (hf : Tok BB o i p f) : W (m__law_bent CN [.adr t, tabD o i p f] M) fun v M' => ∃ n ds, v = .adr n ∧ seqOf v M' = some ds ∧ (∀ d ∈ ds, BadN CN n M' d) ∧ Tr t c0 M M' := by
  have so := pow_sm hf.ho
  have si := pow_sm hf.hi
  have po := pow_pos' o
  have pi := pow_pos' i
  unfold m__law_bent
  refine W_defLT (P := fun v M' => ∃ n ds, v = .adr n ∧ seqOf v M' = some ds ∧ (∀ d ∈ ds, BadN CN n M' d) ∧ Tr t c0 M M') ?_
  rw [WS_seq, WS_setN]
  refine W_draw (s := 2 ^ o) (by rfl) ht ?_
  rw [W_call, W_cons, W_ix3 (o := o) (i := i) (p := p) (f := f) (by rfl)]
  simp only [W_nil]
  rw [bLen_g, W_ok]
  refine ⟨rfl, rfl, po, by omega, fun down M1 hd k1 => ?_⟩
  have T1 := ht.step k1
  try dsimp only
  rw [WS_seq, WS_setN]
  refine W_draw (s := 2 ^ i) (by rfl) T1 ?_
  rw [W_call, W_cons, W_op, W_ix3 (o := o) (i := i) (p := p) (f := f) (by rfl), W_var (d := .int down) (by rfl), dIx_g hd, W_ok]
  simp only [W_nil]
  rw [bLen_r, W_ok]
  refine ⟨rfl, rfl, pi, by omega, fun acr M2 ha k2 => ?_⟩
  have T2 := T1.step k2
  try dsimp only
  rw [WS_seq, WS_setN]
  refine W_drawC (s := 4) (by rfl) T2 (by decide) (by decide) fun spot M3 hs k3 => ?_
  have T3 := T2.step k3
  have K3 := (k1.trans k2).trans k3
  try dsimp only
  rw [WS_seq, WS_setN, W_op, W_ix3 (o := o) (i := i) (p := p) (f := f) (by rfl), W_var (d := .int down) (by rfl), dIx_g hd, W_ok]
  try dsimp only
  rw [WS_seq, WS_setN, W_call, W_cons, W_op, W_var (d := rowD (2 ^ i) (f down)) (by rfl), W_var (d := .int acr) (by rfl), dIx_r ha, W_ok]
  simp only [W_nil]
  have eq : bList [(f down acr).D] M3 = .ok (.adr M3.length) (M3 ++ [MO.lst [.int (f down acr).a, .int (f down acr).b, .int (f down acr).c, .int (f down acr).d]]) := rfl
  rw [eq, W_ok]
  have l4 : Le M3 (M3 ++ [MO.lst [.int (f down acr).a, .int (f down acr).b, .int (f down acr).c, .int (f down acr).d]]) := Le.app
  have g4 : (M3 ++ [MO.lst [.int (f down acr).a, .int (f down acr).b, .int (f down acr).c, .int (f down acr).d]])[M3.length]? = some (MO.lst [.int (f down acr).a, .int (f down acr).b, .int (f down acr).c, .int (f down acr).d]) := get_app
  generalize M3 ++ [MO.lst [.int (f down acr).a, .int (f down acr).b, .int (f down acr).c, .int (f down acr).d]] = M4 at l4 g4
  have K4 := K3.trans (T3.le l4)
  have T4 := ht.step K4
  have n3 : M.length ≤ M3.length := K3.1.1
  have tl := T3.lt
  try dsimp only
  rw [WS_seq, WS_sub, W_op, W_tup, W_cons, W_con, W_cons, W_con, W_cons, W_con]
  simp only [W_nil]
  refine ⟨by simp, ?_⟩
  refine W_drawC (s := 3) (by rfl) T4 (by decide) (by decide) fun r3 M5 h3 k5 => ?_
  have g5 : M5[M3.length]? = some (MO.lst [.int (f down acr).a, .int (f down acr).b, .int (f down acr).c, .int (f down acr).d]) := by
    rw [k5.1.2 _ (lt_of_get g4) (by omega), g4]
  obtain ⟨v, ev, hv, hna⟩ := ixV (M := M5) h3
  rw [ev, W_ok, W_var (by rfl), W_var (d := .int spot) (by rfl), dSet_n g5 (by simpa using hs), W_ok]
  have K6 : Tr t c0 M (M5.set M3.length (MO.lst ([D.int (f down acr).a, .int (f down acr).b, .int (f down acr).c, .int (f down acr).d].set spot v))) := Tr.setB ht (K4.trans k5) n3
  have g6 := get_set (o := .lst ([D.int (f down acr).a, .int (f down acr).b, .int (f down acr).c, .int (f down acr).d].set spot v)) (lt_of_get g5)
  have hex : isEx (.tup ([D.int (f down acr).a, .int (f down acr).b, .int (f down acr).c, .int (f down acr).d].set spot v)) = false := ex_one (by simpa using hs) hv
  have hkd : ∀ M : Sto, Kd1 M (.tup ([D.int (f down acr).a, .int (f down acr).b, .int (f down acr).c, .int (f down acr).d].set spot v)) := fun M => kd1_cells (by simp) fun e he => by
    rcases List.mem_or_eq_of_mem_set he with h | h
    · simp only [List.mem_cons, List.not_mem_nil, or_false] at h
      rcases h with h | h | h | h <;> rw [h] <;> trivial
    · rw [h]; exact kd_na hna
  generalize [D.int (f down acr).a, .int (f down acr).b, .int (f down acr).c, .int (f down acr).d].set spot v = cells at K6 g6 hex hkd
  generalize M5.set M3.length (MO.lst cells) = M6 at K6 g6
  have T6 := ht.step K6
  try dsimp only
  rw [WS_seq, WS_setN, W_call, W_cons]
  refine W_lcR (by rfl) (W_iVal ((W_ix3 (o := o) (i := i) (p := p) (f := f) (by rfl)).mpr ⟨_, rfl, fun w hw => ⟨_, fun y => rowD (2 ^ i) (dblF f y), hw _ fun M' _ => rfl, by simp; omega, fun y hy M7 l7 => ⟨_, rfl, ?_⟩, fun M7 l7 h7 => ?_⟩⟩))
  · simp only [List.length_map, List.length_range] at hy
    rw [W_call, W_cons]
    refine W_lcR (by rfl) (W_iVal ((W_var (d := rowD (2 ^ i) (f y)) (by simp [wipeE])).mpr ⟨_, rfl, fun w2 hw2 => ⟨_, fun x => (dblF f y x).D, hw2 _ fun M' _ => rfl, by simp; omega, fun x hx M8 l8 => ⟨_, rfl, ?_⟩, fun M8 l8 h8 => ?_⟩⟩))
    · simp only [List.length_map, List.length_range] at hx
      exact W_lcDbl (q := f y x) (hf.bd y x hy hx) (by simp [wipeE]) (by simp [wipeE]) fun M' l => ⟨rfl, l⟩
    · simp only [W_nil, List.length_map, List.length_range] at h8 ⊢
      rw [bTuple_s (xs := (List.range (2 ^ i)).map fun x => (dblF f y x).D) (by rw [seq_adr, h8]), W_ok]
      exact ⟨rfl, l8⟩
  · simp only [W_nil, List.length_map, List.length_range] at h7 ⊢
    rw [bTuple_s (xs := (List.range (2 ^ o)).map fun y => rowD (2 ^ i) (dblF f y)) (by rw [seq_adr, h7]), W_ok]
    have eT : D.tup ((List.range (2 ^ o)).map fun y => rowD (2 ^ i) (dblF f y)) = gridD (2 ^ o) (2 ^ i) (dblF f) := rfl
    rw [eT]
    clear h7
    have g7 := l7.get g6
    have K7 := K6.trans (T6.le l7)
    have T7 := ht.step K7
    try dsimp only
    have e1 : ((acr : Int) + 1) = ((acr + 1 : Nat) : Int) := by simp
    have e2 : ((down : Int) + 1) = ((down + 1 : Nat) : Int) := by simp
    rw [WS_seq, WS_setN, W_op, W_op, W_sl, W_var (d := rowD (2 ^ i) (f down)) (by rfl), W_oN, W_oS, W_var (d := .int acr) (by rfl)]
    refine ⟨_, rfl, ?_⟩
    rw [show rowD (2 ^ i) (f down) = .tup ((List.range (2 ^ i)).map fun x => (f down x).D) from rfl, dSl_t, cut_take, W_ok, W_tup, W_cons, W_call, W_cons, W_var (by rfl)]
    simp only [W_nil]
    rw [bTuple_s (xs := cells) (by rw [seq_adr, g7]), W_ok]
    refine ⟨by simp, ?_⟩
    rw [dAdd_t (by simp; omega), W_ok, W_sl, W_var (d := rowD (2 ^ i) (f down)) (by rfl), W_oS, W_op, W_var (d := .int acr) (by rfl), W_con, dAdd_i, W_ok, e1]
    refine ⟨_, rfl, ?_⟩
    rw [W_oN, show rowD (2 ^ i) (f down) = .tup ((List.range (2 ^ i)).map fun x => (f down x).D) from rfl, dSl_t, cut_drop, W_ok, dAdd_t (by simp; omega), W_ok]
    have hsp : isRow i (.tup (((List.range (2 ^ i)).map fun x => (f down x).D).take acr ++ [.tup cells] ++ ((List.range (2 ^ i)).map fun x => (f down x).D).drop (acr + 1))) = false := row_one hex
    have ksp : ∀ M : Sto, Kd2 M (.tup (((List.range (2 ^ i)).map fun x => (f down x).D).take acr ++ [.tup cells] ++ ((List.range (2 ^ i)).map fun x => (f down x).D).drop (acr + 1))) := fun M => kd2_vals (by simp; omega) fun e he => by
      have hr : ∀ e ∈ (List.range (2 ^ i)).map fun x => (f down x).D, Kd1 M e := fun e he => by
        obtain ⟨j, _, rfl⟩ := List.mem_map.mp he
        exact kd_q _
      rcases List.mem_append.mp he with he | he
      · rcases List.mem_append.mp he with he | he
        · exact hr e (List.mem_of_mem_take he)
        · rw [List.mem_singleton.mp he]; exact hkd M
      · exact hr e (List.mem_of_mem_drop he)
    generalize D.tup (((List.range (2 ^ i)).map fun x => (f down x).D).take acr ++ [.tup cells] ++ ((List.range (2 ^ i)).map fun x => (f down x).D).drop (acr + 1)) = spo at hsp ksp
    try dsimp only
    rw [WS_seq, WS_setN, W_lst, W_cons, W_con, W_cons, W_con, W_cons, W_con, W_cons, W_con, W_cons, W_tup]
    simp only [W_nil]
    refine ⟨by simp, ?_⟩
    rw [W_cons, W_call, W_cons, W_var (d := tabD o i p f) (by rfl)]
    simp only [W_nil]
    rw [show tabD o i p f = .tup [.int o, .int i, .int p, gridD (2 ^ o) (2 ^ i) f] from rfl, bList_t, W_ok]
    have l8 : Le M7 (M7 ++ [MO.lst [.int o, .int i, .int p, gridD (2 ^ o) (2 ^ i) f]]) := Le.app
    have g8 : (M7 ++ [MO.lst [.int o, .int i, .int p, gridD (2 ^ o) (2 ^ i) f]])[M7.length]? = some (MO.lst [.int o, .int i, .int p, gridD (2 ^ o) (2 ^ i) f]) := get_app
    have n8 : (M7 ++ [MO.lst [.int o, .int i, .int p, gridD (2 ^ o) (2 ^ i) f]]).length = M7.length + 1 := by simp
    generalize M7 ++ [MO.lst [.int o, .int i, .int p, gridD (2 ^ o) (2 ^ i) f]] = M8 at l8 g8 n8
    have K8 := K7.trans (T7.le l8)
    have T8 := ht.step K8
    rw [W_cons, W_sl, W_var (d := tabD o i p f) (by rfl), W_oN, W_oS, W_con]
    refine ⟨3, rfl, ?_⟩
    rw [show dSl (tabD o i p f) none (some 3) M8 = .ok (.tup [.int o, .int i, .int p]) M8 from rfl, W_ok, W_cons, W_op, W_var (d := tabD o i p f) (by rfl), W_tup, W_cons, W_con]
    simp only [W_nil]
    refine ⟨by simp, ?_⟩
    rw [show dAdd (tabD o i p f) (.tup [.int 0]) M8 = .ok (.tup [.int o, .int i, .int p, gridD (2 ^ o) (2 ^ i) f, .int 0]) M8 from rfl, W_ok, W_cons]
    refine W_tup4 ?_
    rw [W_ix0 (o := o) (i := i) (p := p) (f := f) (by rfl), W_ix1 (o := o) (i := i) (p := p) (f := f) (by rfl), W_op, W_ix2 (o := o) (i := i) (p := p) (f := f) (by rfl), W_con, dAdd_i, W_ok, W_var (d := gridD (2 ^ o) (2 ^ i) (dblF f)) (by rfl), show ((p : Int) + 2) = ((p + 2 : Nat) : Int) by simp]
    simp only [W_nil]
    refine ⟨by simp, ?_⟩
    have bad0 : ∀ n M', Gr n M8 M' → n = M8.length → ∀ d ∈ [D.non, .bl true, .int 0, .str "table", .tup [], .adr M7.length, .tup [.int o, .int i, .int p], .tup [.int o, .int i, .int p, gridD (2 ^ o) (2 ^ i) f, .int 0], .tup [.int o, .int i, .int (p + 2 : Nat), gridD (2 ^ o) (2 ^ i) (dblF f)]], BadN CN n M' d := fun n M' gr en d hd => by
      simp only [List.mem_cons, List.not_mem_nil, or_false] at hd
      rcases hd with rfl | rfl | rfl | rfl | rfl | rfl | rfl | rfl | rfl
      · exact bad_no4 (fun _ _ => trivial) rfl
      · exact bad_no4 (fun _ _ => trivial) rfl
      · exact bad_no4 (fun _ _ => trivial) rfl
      · exact bad_no4 (fun _ _ => trivial) rfl
      · exact bad_no4 (fun _ _ => trivial) rfl
      · exact bad_no4 (fun M'' g => ⟨_, (gr.trans g).get (by omega) g8⟩) rfl
      · exact bad_no4 (fun _ _ => trivial) rfl
      · exact bad_no4 (fun _ _ => trivial) rfl
      · exact bad_twice hf.ho hf.hi
    have l9 : Le M8 (M8 ++ [MO.lst [D.non, .bl true, .int 0, .str "table", .tup [], .adr M7.length, .tup [.int o, .int i, .int p], .tup [.int o, .int i, .int p, gridD (2 ^ o) (2 ^ i) f, .int 0], .tup [.int o, .int i, .int (p + 2 : Nat), gridD (2 ^ o) (2 ^ i) (dblF f)]]]) := Le.app
    have F9 : FL CN M8.length (M8 ++ [MO.lst [D.non, .bl true, .int 0, .str "table", .tup [], .adr M7.length, .tup [.int o, .int i, .int p], .tup [.int o, .int i, .int p, gridD (2 ^ o) (2 ^ i) f, .int 0], .tup [.int o, .int i, .int (p + 2 : Nat), gridD (2 ^ o) (2 ^ i) (dblF f)]]]) 9 := ⟨_, get_app, rfl, bad0 _ _ l9.gr rfl⟩
    clear bad0
    generalize M8 ++ [MO.lst [D.non, .bl true, .int 0, .str "table", .tup [], .adr M7.length, .tup [.int o, .int i, .int p], .tup [.int o, .int i, .int p, gridD (2 ^ o) (2 ^ i) f, .int 0], .tup [.int o, .int i, .int (p + 2 : Nat), gridD (2 ^ o) (2 ^ i) (dblF f)]]] = M9 at l9 F9
    have K9 := K8.trans (T8.le l9)
    have n9 : M.length ≤ M8.length := K8.1.1
    have kg : ∀ M : Sto, Kd3 M (gridD (2 ^ o) (2 ^ i) f) := fun M => kd_grid so si
    try dsimp only
    -- the appends
    rw [WS_seq]
    refine app_step (by rfl) F9 (by decide) ht n9 K9 (W_tup4 ?_) fun M10 F10 K10 _ => ?_
    · rw [W_ix0 (o := o) (i := i) (p := p) (f := f) (by rfl), W_ix1 (o := o) (i := i) (p := p) (f := f) (by rfl), W_un, W_con, dNeg_i, W_ok, W_ix3 (o := o) (i := i) (p := p) (f := f) (by rfl)]
      exact ⟨Le.rfl, bad_num (fun _ _ => trivial) (fun M' _ => kg M') rfl⟩
    try dsimp only
    rw [WS_seq]
    refine app_step (by rfl) F10 (by decide) ht n9 K10 (W_tup4 ?_) fun M11 F11 K11 _ => ?_
    · rw [W_ix0 (o := o) (i := i) (p := p) (f := f) (by rfl), W_ix1 (o := o) (i := i) (p := p) (f := f) (by rfl), W_con, W_ix3 (o := o) (i := i) (p := p) (f := f) (by rfl)]
      exact ⟨Le.rfl, bad_num (fun _ _ => trivial) (fun M' _ => kg M') rfl⟩
    try dsimp only
    rw [WS_seq]
    refine app_step (by rfl) F11 (by decide) ht n9 K11 (W_tup4 ?_) fun M12 F12 K12 _ => ?_
    · rw [W_ix0 (o := o) (i := i) (p := p) (f := f) (by rfl), W_ix1 (o := o) (i := i) (p := p) (f := f) (by rfl), W_ix2 (o := o) (i := i) (p := p) (f := f) (by rfl), W_call, W_cons, W_ix3 (o := o) (i := i) (p := p) (f := f) (by rfl)]
      simp only [W_nil]
      rw [show gridD (2 ^ o) (2 ^ i) f = .tup ((List.range (2 ^ o)).map fun y => rowD (2 ^ i) (f y)) from rfl, bList_t, W_ok]
      refine ⟨Le.app, bad_rows (fun M' g => kd3_adr (g.get ?_ get_app)) rfl⟩
      obtain ⟨ds, h, _⟩ := F11
      have := lt_of_get h
      omega
    try dsimp only
    rw [WS_seq]
    refine app_step (by rfl) F12 (by decide) ht n9 K12 (W_tup4 ?_) fun M13 F13 K13 _ => ?_
    · rw [W_ix0 (o := o) (i := i) (p := p) (f := f) (by rfl), W_ix1 (o := o) (i := i) (p := p) (f := f) (by rfl), W_ix2 (o := o) (i := i) (p := p) (f := f) (by rfl), W_sl, W_ix3 (o := o) (i := i) (p := p) (f := f) (by rfl), W_oS, W_con]
      refine ⟨1, rfl, ?_⟩
      rw [W_oN, show gridD (2 ^ o) (2 ^ i) f = .tup ((List.range (2 ^ o)).map fun y => rowD (2 ^ i) (f y)) from rfl, dSl_t, show Mp.cutD ((List.range (2 ^ o)).map fun y => rowD (2 ^ i) (f y)) (some 1) none = ((List.range (2 ^ o)).map fun y => rowD (2 ^ i) (f y)).drop 1 from cut_drop (k := 1), W_ok]
      refine ⟨Le.rfl, bad_rows (fun M' g => kd3_rows (by simp; omega) fun e he => ?_) ?_⟩
      · obtain ⟨j, _, rfl⟩ := List.mem_map.mp (List.mem_of_mem_drop he)
        exact kd_row si
      · simp [isRows] <;> (intros; omega)
    try dsimp only
    rw [WS_seq]
    refine app_step (by rfl) F13 (by decide) ht n9 K13 (W_tup4 ?_) fun M14 F14 K14 _ => ?_
    · rw [W_ix0 (o := o) (i := i) (p := p) (f := f) (by rfl), W_ix1 (o := o) (i := i) (p := p) (f := f) (by rfl), W_ix2 (o := o) (i := i) (p := p) (f := f) (by rfl), W_op, W_ix3 (o := o) (i := i) (p := p) (f := f) (by rfl), W_sl, W_ix3 (o := o) (i := i) (p := p) (f := f) (by rfl), W_oN, W_oS, W_con]
      refine ⟨1, rfl, ?_⟩
      rw [show gridD (2 ^ o) (2 ^ i) f = .tup ((List.range (2 ^ o)).map fun y => rowD (2 ^ i) (f y)) from rfl, dSl_t, show Mp.cutD ((List.range (2 ^ o)).map fun y => rowD (2 ^ i) (f y)) none (some 1) = ((List.range (2 ^ o)).map fun y => rowD (2 ^ i) (f y)).take 1 from cut_take (k := 1), W_ok, dAdd_t (by simp; omega), W_ok]
      refine ⟨Le.rfl, bad_rows (fun M' g => kd3_rows (by simp; omega) fun e he => ?_) ?_⟩
      · rcases List.mem_append.mp he with he | he
        · obtain ⟨j, _, rfl⟩ := List.mem_map.mp he
          exact kd_row si
        · obtain ⟨j, _, rfl⟩ := List.mem_map.mp (List.mem_of_mem_take he)
          exact kd_row si
      · simp [isRows] <;> (intros; omega)
    try dsimp only
    rw [WS_seq]
    refine app_step (by rfl) F14 (by decide) ht n9 K14 (W_tup4 ?_) fun M15 F15 K15 _ => ?_
    · rw [W_ix0 (o := o) (i := i) (p := p) (f := f) (by rfl), W_ix1 (o := o) (i := i) (p := p) (f := f) (by rfl), W_ix2 (o := o) (i := i) (p := p) (f := f) (by rfl), W_op, W_op, W_sl, W_ix3 (o := o) (i := i) (p := p) (f := f) (by rfl), W_oN, W_oS, W_var (d := .int down) (by rfl)]
      refine ⟨_, rfl, ?_⟩
      rw [show gridD (2 ^ o) (2 ^ i) f = .tup ((List.range (2 ^ o)).map fun y => rowD (2 ^ i) (f y)) from rfl, dSl_t, cut_take, W_ok, W_tup, W_cons, W_var (d := spo) (by rfl)]
      simp only [W_nil]
      refine ⟨by simp, ?_⟩
      rw [dAdd_t (by simp; omega), W_ok, W_sl, W_ix3 (o := o) (i := i) (p := p) (f := f) (by rfl), W_oS, W_op, W_var (d := .int down) (by rfl), W_con, dAdd_i, W_ok, e2]
      refine ⟨_, rfl, ?_⟩
      rw [W_oN, show gridD (2 ^ o) (2 ^ i) f = .tup ((List.range (2 ^ o)).map fun y => rowD (2 ^ i) (f y)) from rfl, dSl_t, cut_drop, W_ok, dAdd_t (by simp; omega), W_ok]
      exact ⟨Le.rfl, bad_rows (fun M' g => kd3_one so si (ksp M')) (rows_one hsp)⟩
    try dsimp only
    rw [WS_seq]
    refine app_step (by rfl) F15 (by decide) ht n9 K15 (W_tup4 ?_) fun M16 F16 K16 _ => ?_
    · rw [W_ix0 (o := o) (i := i) (p := p) (f := f) (by rfl), W_ix1 (o := o) (i := i) (p := p) (f := f) (by rfl), W_ix2 (o := o) (i := i) (p := p) (f := f) (by rfl), W_op, W_op, W_sl, W_ix3 (o := o) (i := i) (p := p) (f := f) (by rfl), W_oN, W_oS, W_var (d := .int down) (by rfl)]
      refine ⟨_, rfl, ?_⟩
      rw [show gridD (2 ^ o) (2 ^ i) f = .tup ((List.range (2 ^ o)).map fun y => rowD (2 ^ i) (f y)) from rfl, dSl_t, cut_take, W_ok, W_tup, W_cons, W_sl, W_var (d := rowD (2 ^ i) (f down)) (by rfl), W_oS, W_con]
      refine ⟨1, rfl, ?_⟩
      rw [W_oN, show rowD (2 ^ i) (f down) = .tup ((List.range (2 ^ i)).map fun x => (f down x).D) from rfl, dSl_t, show Mp.cutD ((List.range (2 ^ i)).map fun x => (f down x).D) (some 1) none = ((List.range (2 ^ i)).map fun x => (f down x).D).drop 1 from cut_drop (k := 1), W_ok]
      simp only [W_nil]
      refine ⟨by simp, ?_⟩
      rw [dAdd_t (by simp; omega), W_ok, W_sl, W_ix3 (o := o) (i := i) (p := p) (f := f) (by rfl), W_oS, W_op, W_var (d := .int down) (by rfl), W_con, dAdd_i, W_ok, e2]
      refine ⟨_, rfl, ?_⟩
      rw [W_oN, show gridD (2 ^ o) (2 ^ i) f = .tup ((List.range (2 ^ o)).map fun y => rowD (2 ^ i) (f y)) from rfl, dSl_t, cut_drop, W_ok, dAdd_t (by simp; omega), W_ok]
      refine ⟨Le.rfl, bad_rows (fun M' g => kd3_one so si (kd2_vals (by simp; omega) fun e he => ?_)) (rows_one ?_)⟩
      · obtain ⟨j, _, rfl⟩ := List.mem_map.mp (List.mem_of_mem_drop he)
        exact kd_q _
      · simp [isRow] <;> (intros; omega)
    try dsimp only
    rw [WS_seq]
    refine app_step (by rfl) F16 (by decide) ht n9 K16 (W_tup4 ?_) fun M17 F17 K17 _ => ?_
    · rw [W_ix0 (o := o) (i := i) (p := p) (f := f) (by rfl), W_ix1 (o := o) (i := i) (p := p) (f := f) (by rfl), W_ix2 (o := o) (i := i) (p := p) (f := f) (by rfl), W_op, W_op, W_sl, W_ix3 (o := o) (i := i) (p := p) (f := f) (by rfl), W_oN, W_oS, W_var (d := .int down) (by rfl)]
      refine ⟨_, rfl, ?_⟩
      rw [show gridD (2 ^ o) (2 ^ i) f = .tup ((List.range (2 ^ o)).map fun y => rowD (2 ^ i) (f y)) from rfl, dSl_t, cut_take, W_ok, W_tup, W_cons, W_call, W_cons, W_var (d := rowD (2 ^ i) (f down)) (by rfl)]
      simp only [W_nil]
      rw [show rowD (2 ^ i) (f down) = .tup ((List.range (2 ^ i)).map fun x => (f down x).D) from rfl, bList_t, W_ok]
      refine ⟨by simp, ?_⟩
      rw [dAdd_t (by simp; omega), W_ok, W_sl, W_ix3 (o := o) (i := i) (p := p) (f := f) (by rfl), W_oS, W_op, W_var (d := .int down) (by rfl), W_con, dAdd_i, W_ok, e2]
      refine ⟨_, rfl, ?_⟩
      rw [W_oN, show gridD (2 ^ o) (2 ^ i) f = .tup ((List.range (2 ^ o)).map fun y => rowD (2 ^ i) (f y)) from rfl, dSl_t, cut_drop, W_ok, dAdd_t (by simp; omega), W_ok]
      refine ⟨Le.app, bad_rows (fun M' g => kd3_one so si (kd2_adr (g.get ?_ get_app))) (rows_one rfl)⟩
      obtain ⟨ds, h, _⟩ := F16
      have := lt_of_get h
      omega
    try dsimp only
    rw [WS_seq]
    refine app_step (by rfl) F17 (by decide) ht n9 K17 (W_tup4 ?_) fun M18 F18 K18 _ => ?_
    · rw [W_op, W_con, W_con, pow40, W_ok, W_ix1 (o := o) (i := i) (p := p) (f := f) (by rfl), W_ix2 (o := o) (i := i) (p := p) (f := f) (by rfl), W_ix3 (o := o) (i := i) (p := p) (f := f) (by rfl)]
      refine ⟨Le.rfl, ?_⟩
      have := bad_rows (CN := CN) (n := M8.length) (M := M17) (o := 10 ^ 40) (i := i) (p := p) (r := gridD (2 ^ o) (2 ^ i) f) (fun M' _ => kg M') (rows_40 hf.ho)
      have e : ((10 ^ 40 : Nat) : Int) = 10 ^ 40 := by norm_cast
      rw [e] at this
      exact this
    try dsimp only
    rw [WS_ret, W_var (by rfl)]
    obtain ⟨ds, h1, _, h3⟩ := F18
    refine ⟨?_, M8.length, ds, rfl, by rw [seq_adr, h1], h3, K18⟩
    simp [D.low]; omega
end
end Kp

set_option Elab.async false
set_option linter.all false
set_option maxRecDepth 100000
set_option maxHeartbeats 8000000
set_option exponentiation.threshold 4000
/-! Kp22: refusals -/
namespace Kp
open PySem PySem.Spec PyProof.Rows L2 Mp K29
open Kq (Le Gr Wo Cs lt_of_get seq_le seq_gr seq_adr wo_tup wo_lst startD_eq)
section
theorem call2 {F : FD} {τ : Mp.Env} {M : Sto} {i j : Nat} {d1 d2 : D} (h1 : τ[i]? = some (some d1)) (h2 : τ[j]? = some (some d2)) : eCall (lenF 2 F) (aCons (eVar i) (aCons (eVar j) aNil)) τ M = F [d1, d2] M := by
  simp [eCall, aCons, aNil, eVar, h1, h2, Res.bind, lenF]
theorem call2p {F : FD} {τ : Mp.Env} {M : Sto} {i j : Nat} {d1 d2 : D} (h1 : τ[i]? = some (some d1)) (h2 : τ[j]? = some (some d2)) : eCall (fun ds M => lenF 2 (fun ds M => lenF 2 F (permL [1, 0] ds) M) ds M) (aCons (eVar i) (aCons (eVar j) aNil)) τ M = F [d2, d1] M := by
  simp [eCall, aCons, aNil, eVar, h1, h2, Res.bind, lenF, permL]
end
section
variable {CN : Str → Addr} {M : Sto} {t c0 : Nat} {cs : List Int}
/-- a call that is refused, as a question -/
theorem W_ref {w : Str} (hw : eqP (.str w) (.str w) = some true) {fb : FE} {τ : Mp.Env} {R : Bool → Sto → Prop} {r : Res D} (e : fb τ M = r) (h : WX (CN "NotUsable") [("at", .int (-1)), ("word", .str w)] M r) (q : ∀ M', Le M M' → R false M') : W (eNotT (eTst (rd__law_refused CN w fb)) τ M) R := by
  subst e
  exact W_ntrue (W_mono (refused_ok hw h) fun v M' ⟨e, l⟩ => ⟨e, q M' l⟩)
def Mis (b a : Nat) (d : D) : Prop := ∃ o' i' q g, d = tabD o' i' q g ∧ Tok BB o' i' q g ∧ (o' ≠ b ∨ i' ≠ a)
theorem refusals_ok {a b c p q : Nat} {f g : F} (ht : Tape t c0 cs M) (hf : Tok BB b a p f) (hg : Tok BB c b q g) : W (m__law_refusals CN [.adr t, tabD b a p f, tabD c b q g] M) fun v M' => v = .bl true ∧ Gr t M M' ∧ (∃ o, M'[t]? = some o ∧ TpO c0 o) := by
  have hb12 := hf.ho
  have ha12 := hf.hi
  unfold m__law_refusals
  refine W_defT (P := fun v => v = .bl true) (I := TpO c0) ht.lt ?_
  rw [WS_seq]
  refine WS_for (W_iVal ?_)
  rw [W_call, W_cons, W_var (d := .adr t) (by rfl), W_cons, W_var (d := tabD c b q g) (by rfl)]
  simp only [W_nil]
  rw [W_lenF (by rfl)]
  refine W_mono (bent_ok ht hg) fun v M1 ⟨n1, ds1, e, hs1, hb1, k1⟩ => ⟨ds1, hs1, fun w hw => ?_⟩
  subst e
  refine ⟨_, Le M1, fun i τ M' => (∃ x8, τ = [some (.adr t), some (tabD b a p f), some (tabD c b q g), none, none, none, none, none, x8]) ∧ Le M1 M', hw _ fun M' l => seq_le l hs1, fun _ _ _ h => h.2, ⟨⟨_, rfl⟩, Le.rfl⟩, ?_, ?_⟩
  · rintro i hi τ M2 ⟨⟨x8, rfl⟩, l2⟩
    refine ⟨[some (.adr t), some (tabD b a p f), some (tabD c b q g), none, none, none, none, none, some ds1[i]], by simp [Tg.put], ?_⟩
    have hbad := hb1 _ (List.getElem_mem hi)
    rw [WS_seq, WS_if]
    refine W_ref w_second (call2 (d1 := tabD b a p f) (d2 := ds1[i]) (by rfl) (by rfl)) (chained_bad1 (hbad.gr l2.gr)) fun M3 l3 => ?_
    rw [if_neg (by decide), WS_nil]
    try dsimp only
    rw [WS_if]
    refine W_ref w_high (call2p (d1 := ds1[i]) (d2 := tabD b a p f) (by rfl) (by rfl)) (side_bad1 (hbad.gr (l2.trans l3).gr)) fun M4 l4 => ?_
    rw [if_neg (by decide), WS_nil]
    exact ⟨⟨_, rfl⟩, (l2.trans l3).trans l4⟩
  · rintro τ M2 ⟨⟨x8, rfl⟩, l2⟩
    have K2 := k1.trans ((ht.step k1).le l2)
    have T2 := ht.step K2
    try dsimp only
    rw [WS_seq]
    refine WS_for (W_iVal ?_)
    rw [W_call, W_cons, W_var (d := .adr t) (by rfl), W_cons, W_var (d := tabD b a p f) (by rfl)]
    simp only [W_nil]
    rw [W_lenF (by rfl)]
    refine W_mono (bent_ok T2 hf) fun v M3 ⟨n3, ds3, e, hs3, hb3, k3⟩ => ⟨ds3, hs3, fun w hw => ?_⟩
    subst e
    refine ⟨_, Le M3, fun i τ M' => (∃ x8, τ = [some (.adr t), some (tabD b a p f), some (tabD c b q g), none, none, none, none, none, x8]) ∧ Le M3 M', hw _ fun M' l => seq_le l hs3, fun _ _ _ h => h.2, ⟨⟨_, rfl⟩, Le.rfl⟩, ?_, ?_⟩
    · rintro i hi τ M4 ⟨⟨x8, rfl⟩, l4⟩
      refine ⟨[some (.adr t), some (tabD b a p f), some (tabD c b q g), none, none, none, none, none, some ds3[i]], by simp [Tg.put], ?_⟩
      have hbad := hb3 _ (List.getElem_mem hi)
      rw [WS_if]
      refine W_ref w_other (call2 (d1 := tabD b a p f) (d2 := ds3[i]) (by rfl) (by rfl)) (added_bad1 (hbad.gr l4.gr)) fun M5 l5 => ?_
      rw [if_neg (by decide), WS_nil]
      exact ⟨⟨_, rfl⟩, l4.trans l5⟩
    · rintro τ M4 ⟨⟨x8, rfl⟩, l4⟩
      have K4 := (K2.trans k3).trans ((T2.step k3).le l4)
      have T4 := ht.step K4
      try dsimp only
      rw [WS_seq, WS_setN, W_ix0 (o := b) (i := a) (p := p) (f := f) (by rfl)]
      try dsimp only
      rw [WS_seq, WS_setN, W_ix1 (o := b) (i := a) (p := p) (f := f) (by rfl)]
      try dsimp only
      obtain ⟨up, hup, hup2⟩ : ∃ up : Nat, (up = if b < 6 then b + 1 else 5) ∧ up ≤ 12 ∧ up ≠ b := ⟨_, rfl, by split <;> omega⟩
      obtain ⟨out, hout, hout2⟩ : ∃ out : Nat, (out = if a < 6 then a + 1 else 5) ∧ out ≤ 12 ∧ out ≠ a := ⟨_, rfl, by split <;> omega⟩
      have eup : ∀ {R : D → Sto → Prop} {M : Sto}, R (.int up) M → W (eIf (eTB (eOp dLt (eVar 3) (eCon (.int 6)))) (eOp dAdd (eVar 3) (eCon (.int 1))) (eCon (.int 5)) [some (.adr t), some (tabD b a p f), some (tabD c b q g), some (.int b), some (.int a), none, none, none, x8] M) R := fun {R M} h => by
        rw [W_if, W_tb, W_op, W_var (d := .int b) (by rfl), W_con, dLt_i, W_ok]
        refine ⟨_, rfl, ?_⟩
        by_cases h6 : b < 6
        · rw [if_pos (by simp; omega), W_op, W_var (d := .int b) (by rfl), W_con, dAdd_i, W_ok]
          rw [if_pos h6] at hup
          rw [show ((b : Int) + 1) = (up : Int) by omega]; exact h
        · rw [if_neg (by simp; omega), W_con]
          rw [if_neg h6] at hup
          rw [show (5 : Int) = (up : Int) by omega]; exact h
      have eout : ∀ {R : D → Sto → Prop} {M : Sto}, R (.int out) M → W (eIf (eTB (eOp dLt (eVar 4) (eCon (.int 6)))) (eOp dAdd (eVar 4) (eCon (.int 1))) (eCon (.int 5)) [some (.adr t), some (tabD b a p f), some (tabD c b q g), some (.int b), some (.int a), some (.int up), none, none, x8] M) R := fun {R M} h => by
        rw [W_if, W_tb, W_op, W_var (d := .int a) (by rfl), W_con, dLt_i, W_ok]
        refine ⟨_, rfl, ?_⟩
        by_cases h6 : a < 6
        · rw [if_pos (by simp; omega), W_op, W_var (d := .int a) (by rfl), W_con, dAdd_i, W_ok]
          rw [if_pos h6] at hout
          rw [show ((a : Int) + 1) = (out : Int) by omega]; exact h
        · rw [if_neg (by simp; omega), W_con]
          rw [if_neg h6] at hout
          rw [show (5 : Int) = (out : Int) by omega]; exact h
      rw [WS_seq, WS_setN]
      refine eup ?_
      try dsimp only
      rw [WS_seq, WS_setN]
      refine eout ?_
      try dsimp only
      rw [WS_seq]
      refine WS_for (W_iVal ?_)
      rw [W_tup, W_cons, W_call, W_cons, W_con, W_cons, W_var (d := .int up) (by rfl)]
      simp only [W_nil]
      rw [W_lenF (by rfl)]
      refine W_mono (nought_ok (o := 0) (i := up) (by omega) hup2.1) fun v M5 ⟨e, l5⟩ => ?_
      subst e
      have T5 := T4.step (T4.le l5)
      rw [W_cons, W_call, W_cons, W_var (d := .adr t) (by rfl), W_cons, W_con, W_cons, W_var (d := .int up) (by rfl)]
      simp only [W_nil]
      rw [W_lenF (by rfl)]
      refine W_mono (drawn_ok (o := 1) (i := up) T5 (by omega) hup2.1) fun v M6 ⟨⟨p2, f2, e, hf2, hp2⟩, a6, b6⟩ => ?_
      subst e
      obtain ⟨dn, hdn, hdn2⟩ : ∃ dn : Nat, (dn = if 0 < b then b - 1 else 2) ∧ dn ≤ 12 ∧ dn ≠ b := ⟨_, rfl, by split <;> omega⟩
      have edn : ∀ {R : D → Sto → Prop} {M : Sto} {y5 y6 y7 y8 : Option D}, R (.int dn) M → W (eIf (eTB (eOp dGt (eVar 3) (eCon (.int 0)))) (eOp dSub (eVar 3) (eCon (.int 1))) (eCon (.int 2)) [some (.adr t), some (tabD b a p f), some (tabD c b q g), some (.int b), some (.int a), y5, y6, y7, y8] M) R := fun {R M y5 y6 y7 y8} h => by
        rw [W_if, W_tb, W_op, W_var (d := .int b) (by rfl), W_con, dGt_i, W_ok]
        refine ⟨_, rfl, ?_⟩
        by_cases h6 : 0 < b
        · rw [if_pos (by simp; omega), W_op, W_var (d := .int b) (by rfl), W_con, dSub_i, W_ok]
          rw [if_pos h6] at hdn
          rw [show ((b : Int) - 1) = (dn : Int) by omega]; exact h
        · rw [if_neg (by simp; omega), W_con]
          rw [if_neg h6] at hdn
          rw [show (2 : Int) = (dn : Int) by omega]; exact h
      rw [W_cons, W_call, W_cons, W_con, W_cons]
      refine edn ?_
      simp only [W_nil]
      rw [W_lenF (by rfl)]
      refine W_mono (nought_ok (o := 1) (i := dn) (by omega) hdn2.1) fun v M7 ⟨e, l7⟩ => ?_
      subst e
      refine ⟨by simp, _, rfl, fun w3 hw3 => ?_⟩
      have K6 := (K4.trans (T4.le l5)).trans ⟨a6, b6⟩
      have K7 := K6.trans ((ht.step K6).le l7)
      have T7 := ht.step K7
      have hxs : ∀ i, i < 3 → ∃ o' i' q' g', [tabD 0 up 0 noF, tabD 1 up p2 f2, tabD 1 dn 0 noF][i]? = some (tabD o' i' q' g') ∧ Tok BB o' i' q' g' ∧ i' ≠ b := fun i hi => by
        match i, hi with
        | 0, _ => exact ⟨_, _, _, _, rfl, no_tok (by omega) hup2.1, hup2.2⟩
        | 1, _ => exact ⟨_, _, _, _, rfl, hf2, hup2.2⟩
        | 2, _ => exact ⟨_, _, _, _, rfl, no_tok (by omega) hdn2.1, hdn2.2⟩
      refine ⟨_, fun _ => True, fun i τ M' => (∃ x8, τ = [some (.adr t), some (tabD b a p f), some (tabD c b q g), some (.int b), some (.int a), some (.int up), some (.int out), none, x8]) ∧ Le M7 M', hw3 _ fun M' _ => rfl, fun _ _ _ _ => trivial, ⟨⟨_, rfl⟩, Le.rfl⟩, ?_, ?_⟩
      · rintro i hi τ M8 ⟨⟨x8, rfl⟩, l8⟩
        simp only [List.length_cons, List.length_nil] at hi
        obtain ⟨o', i', q', g', e', hT, hne⟩ := hxs i (by omega)
        have e2 : [tabD 0 up 0 noF, tabD 1 up p2 f2, tabD 1 dn 0 noF][i]'(by simpa using hi) = tabD o' i' q' g' := by
          rw [List.getElem?_eq_getElem (by simpa using hi)] at e'
          exact Option.some.inj e'
        have e2' : D.tup [.int o', .int i', .int q', gridD (2 ^ o') (2 ^ i') g'] = tabD o' i' q' g' := rfl
        refine ⟨[some (.adr t), some (tabD b a p f), some (tabD c b q g), some (.int b), some (.int a), some (.int up), some (.int out), none, some (tabD o' i' q' g')], by rw [← e2]; simp [Tg.put], ?_⟩
        rw [WS_if]
        refine W_ref w_second (call2p (d1 := tabD o' i' q' g') (d2 := tabD b a p f) (by rfl) (by rfl)) (chained_bad2 (B := BB) hT hne) fun M9 l9 => ?_
        rw [if_neg (by decide), WS_nil]
        exact ⟨⟨_, rfl⟩, l8.trans l9⟩
      · rintro τ M8 ⟨⟨x8, rfl⟩, l8⟩
        have K8 := K7.trans (T7.le l8)
        have T8 := ht.step K8
        try dsimp only
        rw [WS_seq, WS_setN, W_lst, W_cons, W_call, W_cons, W_var (d := .int b) (by rfl), W_cons, W_var (d := .int out) (by rfl)]
        simp only [W_nil]
        rw [W_lenF (by rfl)]
        refine W_mono (nought_ok (o := b) (i := out) hb12 hout2.1) fun v M9 ⟨e, l9⟩ => ?_
        subst e
        rw [W_cons, W_call, W_cons, W_var (d := .int up) (by rfl), W_cons, W_var (d := .int a) (by rfl)]
        simp only [W_nil]
        rw [W_lenF (by rfl)]
        refine W_mono (nought_ok (o := up) (i := a) hup2.1 ha12) fun v M10 ⟨e, l10⟩ => ?_
        subst e
        have K10 := K8.trans (T8.le (l9.trans l10))
        have T10 := ht.step K10
        rw [W_cons, W_call, W_cons, W_var (d := .adr t) (by rfl), W_cons, W_var (d := .int up) (by rfl), W_cons, W_call, W_cons, W_var (d := .int a) (by rfl), W_cons, W_con]
        simp only [W_nil]
        obtain ⟨mn, hmn, hmn2⟩ : ∃ mn : Nat, bMin [.int a, .int 2] M10 = .ok (.int mn) M10 ∧ mn ≤ 12 := by
          by_cases h : a ≤ 2
          · refine ⟨a, ?_, by omega⟩
            show Res.ok (D.int (if (2 : Int) < a then 2 else a)) M10 = _
            rw [if_neg (by omega)]
          · refine ⟨2, ?_, by omega⟩
            show Res.ok (D.int (if (2 : Int) < a then 2 else a)) M10 = _
            rw [if_pos (by omega)]; rfl
        rw [hmn, W_ok, W_lenF (by rfl)]
        refine W_mono (drawn_ok (o := up) (i := mn) T10 hup2.1 hmn2) fun v M11 ⟨⟨p3, f3, e, hf3, hp3⟩, a11, b11⟩ => ?_
        subst e
        have K11 := K10.trans ⟨a11, b11⟩
        have T11 := ht.step K11
        refine ⟨by simp, ?_⟩
        have l12 : Le M11 (M11 ++ [MO.lst [tabD b out 0 noF, tabD up a 0 noF, tabD up mn p3 f3]]) := Le.app
        have g12 : (M11 ++ [MO.lst [tabD b out 0 noF, tabD up a 0 noF, tabD up mn p3 f3]])[M11.length]? = some (.lst [tabD b out 0 noF, tabD up a 0 noF, tabD up mn p3 f3]) := get_app
        generalize M11 ++ [MO.lst [tabD b out 0 noF, tabD up a 0 noF, tabD up mn p3 f3]] = M12 at l12 g12
        have hmis : ∀ d ∈ [tabD b out 0 noF, tabD up a 0 noF, tabD up mn p3 f3], Mis b a d := fun d hd => by
          simp only [List.mem_cons, List.not_mem_nil, or_false] at hd
          rcases hd with rfl | rfl | rfl
          · exact ⟨_, _, _, _, rfl, no_tok hb12 hout2.1, .inr hout2.2⟩
          · exact ⟨_, _, _, _, rfl, no_tok hup2.1 ha12, .inl hup2.2⟩
          · exact ⟨_, _, _, _, rfl, hf3, .inl hup2.2⟩
        have K12 := K11.trans (T11.le l12)
        have T12 := ht.step K12
        try dsimp only
        -- the last loop, over whatever stands in the list
        have last : ∀ (M13 : Sto) (ds : List D), Tr t c0 M M13 → M13[M11.length]? = some (.lst ds) → (∀ d ∈ ds, Mis b a d) → WS (sSeq (sFor (iVal (eVar 7)) (.nm 8) (sIf (eNotT (eTst (rd__law_refused CN "other" (eCall (fun ds M => lenF 2 (fun ds M => lenF 2 (m_added CN) (permL [1, 0] ds) M) ds M) (aCons (eVar 8) (aCons (eVar 1) (aNil))))))) (sRet (eCon (.bl false))) (sNil))) (sRet (eCon (.bl true)))
            [some (.adr t), some (tabD b a p f), some (tabD c b q g), some (.int b), some (.int a), some (.int up), some (.int out), some (.adr M11.length), x8] M13)
            { nx := fun _ M' => D.non = .bl true ∧ Gr t M M' ∧ (∃ o, M'[t]? = some o ∧ TpO c0 o), bk := fun _ _ => False, rt := fun d M' => d = .bl true ∧ Gr t M M' ∧ (∃ o, M'[t]? = some o ∧ TpO c0 o) } := by
          intro M13 ds K13 h13 hm
          have T13 := ht.step K13
          rw [WS_seq]
          have hs : seqOf (.adr M11.length) M13 = some ds := by rw [seq_adr, h13]
          refine WS_for (W_iVal ((W_var (by rfl)).mpr ⟨ds, hs, fun w4 hw4 => ?_⟩))
          refine ⟨_, Le M13, fun i τ M' => (∃ x8, τ = [some (.adr t), some (tabD b a p f), some (tabD c b q g), some (.int b), some (.int a), some (.int up), some (.int out), some (.adr M11.length), x8]) ∧ Le M13 M', hw4 _ fun M' l => seq_le l hs, fun _ _ _ h => h.2, ⟨⟨_, rfl⟩, Le.rfl⟩, ?_, ?_⟩
          · rintro i hi τ M14 ⟨⟨x8, rfl⟩, l14⟩
            obtain ⟨o', i', q', g', e', hT, hne⟩ := hm _ (List.getElem_mem hi)
            refine ⟨[some (.adr t), some (tabD b a p f), some (tabD c b q g), some (.int b), some (.int a), some (.int up), some (.int out), some (.adr M11.length), some (tabD o' i' q' g')], by rw [e']; simp [Tg.put], ?_⟩
            rw [WS_if]
            refine W_ref w_other (call2p (d1 := tabD o' i' q' g') (d2 := tabD b a p f) (by rfl) (by rfl)) (added_bad2 hT hne) fun M15 l15 => ?_
            rw [if_neg (by decide), WS_nil]
            exact ⟨⟨_, rfl⟩, l14.trans l15⟩
          · rintro τ M14 ⟨⟨x8, rfl⟩, l14⟩
            try dsimp only
            rw [WS_ret, W_con]
            have K14 := K13.trans (T13.le l14)
            exact ⟨rfl, K14.1, K14.2⟩
        rw [WS_seq, WS_if, W_tb, W_op, W_var (d := .int b) (by rfl), W_var (d := .int a) (by rfl), dNe_i, W_ok]
        refine ⟨_, rfl, ?_⟩
        by_cases hba : b = a
        · rw [if_neg (by simp; omega), WS_nil]
          exact last M12 _ K12 g12 hmis
        · rw [if_pos (by simp; omega), WS_exp]
          refine W_app ((W_var (by rfl)).mpr ⟨_, rfl, ⟨_, by rw [seq_adr, g12]⟩, ?_⟩)
          rw [W_cons, W_call, W_cons, W_var (d := .int a) (by rfl), W_cons, W_var (d := .int b) (by rfl)]
          simp only [W_nil]
          rw [W_lenF (by rfl)]
          refine W_mono (nought_ok (o := a) (i := b) ha12 hb12) fun v M13 ⟨e, l13⟩ => ?_
          subst e
          have h13 := l13.get g12
          refine ⟨_, _, rfl, h13, by simp, ?_⟩
          refine last _ _ (Tr.setB ht (K12.trans (T12.le l13)) K11.1.1) (get_set (lt_of_get h13)) fun d hd => ?_
          rcases List.mem_append.mp hd with hd | hd
          · exact hmis d hd
          · rw [List.mem_singleton.mp hd]
            exact ⟨_, _, _, _, rfl, no_tok ha12 hb12, .inl (fun z => hba z.symm)⟩
end
end Kp

set_option Elab.async false
set_option linter.all false
set_option maxRecDepth 100000
set_option maxHeartbeats 8000000
set_option exponentiation.threshold 4000
/-! Kp23: start, law -/
namespace Kp
open PySem PySem.Spec PyProof.Rows L2 Mp K29
open Kq (Le Gr Wo Cs lt_of_get seq_le seq_gr seq_adr wo_tup wo_lst startD_eq)
section
variable {CN : Str → Addr} {M : Sto} {t c0 : Nat} {cs : List Int}
theorem start_ok {s : Nat} (hs : seqOf (.adr s) M = some (cs.map D.int)) (hlog : ∀ z ∈ cs, z.natAbs.log2 ≤ 1048576) (hlen : cs.length < 100000) : W (m__law_start CN [.adr s] M) fun v M' => ∃ t c, v = .adr t ∧ Tape t c cs M' := by
  unfold m__law_start
  refine W_defLT (P := fun v M' => ∃ t c, v = .adr t ∧ Tape t c cs M') ?_
  rw [WS_seq, WS_setN]
  refine W_lcR (by rfl) (W_iVal ((W_var (d := .adr s) (by rfl)).mpr ⟨_, hs, fun w hw => ⟨_, fun i => .int (cs.getD i 0), hw _ fun M' l => seq_le l hs, by simp; omega, fun i hi M1 l1 => ⟨_, rfl, ?_⟩, fun M1 l1 h1 => ?_⟩⟩))
  · simp only [List.length_map] at hi
    have e2 : (cs.map D.int)[i]'(by simpa using hi) = .int (cs.getD i 0) := by simp [hi]
    rw [e2, W_call, W_cons, W_var (d := .int (cs.getD i 0)) (by rfl)]
    simp only [W_nil]
    rw [bInt_i, W_ok]
    exact ⟨rfl, Le.rfl⟩
  · have e3 : (List.range (cs.map D.int).length).map (fun i => D.int (cs.getD i 0)) = cs.map D.int := by
      apply List.ext_getElem
      · simp
      · intro i h1 h2
        simp at h1 h2
        simp [h1]
    rw [e3] at h1
    try dsimp only
    rw [WS_seq, WS_setN, W_con]
    try dsimp only
    rw [WS_seq]
    have hc : seqOf (.adr M.length) M1 = some (cs.map D.int) := by rw [seq_adr, h1]
    refine WS_for (W_iVal ((W_var (d := .adr M.length) (by rfl)).mpr ⟨_, hc, fun w2 hw2 => ?_⟩))
    refine ⟨_, Le M1, fun i τ M' => (∃ (m : Nat) (x1 : Option D), τ = [some (.adr s), x1, some (.adr M.length), some (.int m)] ∧ m < 2305843009213693951) ∧ M' = M1, hw2 _ fun M' l => seq_le l hc, fun _ _ _ h => by rw [h.2]; exact Le.rfl, ⟨⟨6418093, none, rfl, by decide⟩, rfl⟩, ?_, ?_⟩
    · rintro i hi τ M2 ⟨⟨m, x1, rfl, hm⟩, rfl⟩
      simp only [List.length_map] at hi
      have e2 : (cs.map D.int)[i]'(by simpa using hi) = .int cs[i] := by simp
      rw [e2]
      refine ⟨[some (.adr s), some (.int cs[i]), some (.adr M.length), some (.int m)], by simp [Tg.put], ?_⟩
      have h1 : m.log2 ≤ 61 := by
        rcases Nat.eq_zero_or_pos m with e | e
        · subst e; decide
        · exact Nat.le_of_lt ((Nat.log2_lt (by omega)).mpr (Nat.lt_trans hm (by decide)))
      have h2 : (52561 : Int).natAbs.log2 ≤ 61 := by decide +kernel
      have h3 : (91129 : Int).natAbs.log2 ≤ 61 := by decide +kernel
      have h4 := hlog cs[i] (List.getElem_mem hi)
      rw [WS_setN, W_op, W_call, W_cons, W_op, W_op, W_op, W_var (d := .int m) (by rfl), W_con, dMul_l (by rw [Int.natAbs_natCast]; omega), W_ok, W_op, W_var (d := .int cs[i]) (by rfl), W_con, dMul_l (by omega), W_ok, dAdd_i, W_ok, W_con, dAdd_i, W_ok]
      simp only [W_nil]
      rw [bInt_i, W_ok, W_con, dMod_i (by decide), W_ok]
      have hmod := Int.emod_nonneg ((m : Int) * 52561 + cs[i] * 91129 + 4783) (show (2305843009213693951 : Int) ≠ 0 by decide)
      have hmod2 := Int.emod_lt_of_pos ((m : Int) * 52561 + cs[i] * 91129 + 4783) (show (0 : Int) < 2305843009213693951 by decide)
      refine ⟨⟨(((m : Int) * 52561 + cs[i] * 91129 + 4783) % 2305843009213693951).toNat, some (.int cs[i]), ?_, by omega⟩, rfl⟩
      rw [Int.toNat_of_nonneg hmod]
      rfl
    · rintro τ M2 ⟨⟨m, x1, rfl, hm⟩, rfl⟩
      try dsimp only
      rw [WS_ret, W_lst, W_cons, W_var (by rfl), W_cons, W_con, W_cons, W_con, W_cons, W_var (by rfl)]
      simp only [W_nil]
      have hlt := lt_of_get h1
      refine ⟨by simp, ?_, M2.length, M.length, rfl, ⟨⟨_, get_app, 0, 0, m, rfl, hm⟩, by omega, ?_, hlog, hlen⟩⟩
      · simp [D.low]; omega
      · rw [List.getElem?_append_left hlt, h1]
def law_tail (CN : Str → Addr) : FS := sSeq (sSet (.nm 5) (eCall (lenF 3 (m__law_drawn CN)) (aCons (eVar 1) (aCons (eVar 3) (aCons (eVar 2) (aNil)))))) (sSeq (sSet (.nm 6) (eCall (lenF 3 (m__law_drawn CN)) (aCons (eVar 1) (aCons (eVar 4) (aCons (eVar 3) (aNil)))))) (sSeq (sIf (eOrT (eNotT (eTst (eCall (lenF 3 (m__law_products CN)) (aCons (eVar 1) (aCons (eVar 5) (aCons (eVar 6) (aNil))))))) (eNotT (eTst (eCall (lenF 3 (m__law_refusals CN)) (aCons (eVar 1) (aCons (eVar 5) (aCons (eVar 6) (aNil)))))))) (sRet (eCon (.bl false))) (sNil)) (sSeq (sSet (.nm 7) (eCall (lenF 3 (m__law_drawn CN)) (aCons (eVar 1) (aCons (eCall (lenF 2 (m__law_draw CN)) (aCons (eVar 1) (aCons (eCon (.int 3)) (aNil)))) (aCons (eCall (lenF 2 (m__law_draw CN)) (aCons (eVar 1) (aCons (eCon (.int 3)) (aNil)))) (aNil)))))) (sSeq (sSet (.nm 8) (eCall (lenF 3 (m__law_drawn CN)) (aCons (eVar 1) (aCons (eCall (lenF 2 (m__law_draw CN)) (aCons (eVar 1) (aCons (eCon (.int 3)) (aNil)))) (aCons (eCall (lenF 2 (m__law_draw CN)) (aCons (eVar 1) (aCons (eCon (.int 3)) (aNil)))) (aNil)))))) (sSeq (sIf (eTB (eOp dEq (eCall (lenF 2 (m__law_draw CN)) (aCons (eVar 1) (aCons (eCon (.int 16)) (aNil)))) (eCon (.int 7)))) (sSeq (sSet (.nm 7) (eCall (lenF 3 (m__law_drawn CN)) (aCons (eVar 1) (aCons (eCon (.int 3)) (aCons (eCall (lenF 2 (m__law_draw CN)) (aCons (eVar 1) (aCons (eCon (.int 2)) (aNil)))) (aNil)))))) (sSet (.nm 8) (eCall (lenF 3 (m__law_drawn CN)) (aCons (eVar 1) (aCons (eCon (.int 3)) (aCons (eCall (lenF 2 (m__law_draw CN)) (aCons (eVar 1) (aCons (eCon (.int 2)) (aNil)))) (aNil))))))) (sNil)) (sSeq (sSet (.nm 9) (eCall (lenF 2 (m_side_by_side CN)) (aCons (eVar 7) (aCons (eVar 8) (aNil))))) (sSeq (sIf (eOrT (eNotT (eTst (eCall (lenF 3 (m__law_beside CN)) (aCons (eVar 7) (aCons (eVar 8) (aCons (eVar 9) (aNil))))))) (eNotT (eTst (eCall (lenF 2 (m__law_same CN 12)) (aCons (eCall (fun ds M => lenF 2 (fun ds M => lenF 2 (m_side_by_side CN) (permL [1, 0] ds) M) ds M) (aCons (eVar 8) (aCons (eVar 7) (aNil)))) (aCons (eVar 9) (aNil))))))) (sRet (eCon (.bl false))) (sNil)) (sRet (eCall (lenF 3 (m__law_beside CN)) (aCons (eVar 8) (aCons (eVar 7) (aCons (eCall (lenF 2 (m_side_by_side CN)) (aCons (eVar 8) (aCons (eVar 7) (aNil)))) (aNil)))))))))))))
theorem law_rest {s x y z : Nat} (ht : Tape t c0 cs M) (hx : x ≤ 6) (hy : y ≤ 6) (hz : z ≤ 6) {R : D → Prop} (hR : R (.bl true)) :
    WS (law_tail CN [some (.adr s), some (.adr t), some (.int x), some (.int y), some (.int z), none, none, none, none, none] M)
      ⟨fun _ _ => R .non, fun _ _ => False, fun d _ => R d⟩ := by
  unfold law_tail
  rw [WS_seq, WS_setN, W_call, W_cons, W_var (d := .adr t) (by rfl), W_cons, W_var (d := .int y) (by rfl), W_cons, W_var (d := .int x) (by rfl)]
  simp only [W_nil]
  rw [W_lenF (by rfl)]
  refine W_mono (drawn_ok (o := y) (i := x) ht (by omega) (by omega)) fun v M1 ⟨⟨p, f, e, hf, hp⟩, a1, b1⟩ => ?_
  subst e
  have T1 := ht.step ⟨a1, b1⟩
  try dsimp only
  rw [WS_seq, WS_setN, W_call, W_cons, W_var (d := .adr t) (by rfl), W_cons, W_var (d := .int z) (by rfl), W_cons, W_var (d := .int y) (by rfl)]
  simp only [W_nil]
  rw [W_lenF (by rfl)]
  refine W_mono (drawn_ok (o := z) (i := y) T1 (by omega) (by omega)) fun v M2 ⟨⟨q, g, e, hg, hq⟩, a2, b2⟩ => ?_
  subst e
  have T2 := T1.step ⟨a2, b2⟩
  try dsimp only
  rw [WS_seq, WS_if, W_orT]
  refine W_ntrue ?_
  rw [W_call, W_cons, W_var (d := .adr t) (by rfl), W_cons, W_var (d := tabD y x p f) (by rfl), W_cons, W_var (d := tabD z y q g) (by rfl)]
  simp only [W_nil]
  rw [W_lenF (by rfl)]
  refine W_mono (products_ok T2 hf hg hp hq) fun v M3 ⟨e, a3, b3⟩ => ⟨e, ?_⟩
  have T3 := T2.step ⟨a3, b3⟩
  rw [if_neg (by decide)]
  refine W_ntrue ?_
  rw [W_call, W_cons, W_var (d := .adr t) (by rfl), W_cons, W_var (d := tabD y x p f) (by rfl), W_cons, W_var (d := tabD z y q g) (by rfl)]
  simp only [W_nil]
  rw [W_lenF (by rfl)]
  refine W_mono (refusals_ok T3 hf hg) fun v M4 ⟨e, a4, b4⟩ => ⟨e, ?_⟩
  have T4 := T3.step ⟨a4, b4⟩
  rw [if_neg (by decide), WS_nil]
  try dsimp only
  -- the end, for whatever base and above are
  have last : ∀ (M9 : Sto) (lo li ho hi p q : Nat) (f' g' : F), Tok BB lo li p f' → Tok BB ho hi q g' → lo ≤ 3 → li ≤ 3 → ho ≤ 3 → hi ≤ 3 → p ≤ 60 → q ≤ 60 → ∀ x5 x6, WS ((sSeq (sSet (.nm 9) (eCall (lenF 2 (m_side_by_side CN)) (aCons (eVar 7) (aCons (eVar 8) (aNil))))) (sSeq (sIf (eOrT (eNotT (eTst (eCall (lenF 3 (m__law_beside CN)) (aCons (eVar 7) (aCons (eVar 8) (aCons (eVar 9) (aNil))))))) (eNotT (eTst (eCall (lenF 2 (m__law_same CN 12)) (aCons (eCall (fun ds M => lenF 2 (fun ds M => lenF 2 (m_side_by_side CN) (permL [1, 0] ds) M) ds M) (aCons (eVar 8) (aCons (eVar 7) (aNil)))) (aCons (eVar 9) (aNil))))))) (sRet (eCon (.bl false))) (sNil)) (sRet (eCall (lenF 3 (m__law_beside CN)) (aCons (eVar 8) (aCons (eVar 7) (aCons (eCall (lenF 2 (m_side_by_side CN)) (aCons (eVar 8) (aCons (eVar 7) (aNil)))) (aNil)))))))) [some (.adr s), some (.adr t), some (.int x), some (.int y), some (.int z), x5, x6, some (tabD lo li p f'), some (tabD ho hi q g'), none] M9)
      ⟨fun _ _ => R .non, fun _ _ => False, fun d _ => R d⟩ := by
    intro M9 lo li ho hi p q f' g' hf' hg' h1 h2 h3 h4 hp hq x5 x6
    have S1 : ∀ M, W (m_side_by_side CN [tabD lo li p f', tabD ho hi q g'] M) _ := fun M => side_by_side_ok hf' hg' (by omega) (by omega) BB_3000
    have B1 : ∀ M, W (m__law_beside CN _ M) _ := fun M => beside_law (CN := CN) hf' hg' (by omega) (by omega) (by omega)
    rw [WS_seq, WS_setN, W_call, W_cons, W_var (d := tabD lo li p f') (by rfl), W_cons, W_var (d := tabD ho hi q g') (by rfl)]
    simp only [W_nil]
    rw [W_lenF (by rfl)]
    refine W_mono (S1 M9) fun v M10 ⟨e, l10⟩ => ?_
    subst e
    try dsimp only
    rw [WS_seq, WS_if, W_orT]
    refine W_ntrue ?_
    rw [W_call, W_cons, W_var (d := tabD lo li p f') (by rfl), W_cons, W_var (d := tabD ho hi q g') (by rfl), W_cons, W_var (by rfl)]
    simp only [W_nil]
    rw [W_lenF (by rfl)]
    refine W_mono (B1 M10) fun v M11 ⟨e, l11⟩ => ⟨e, ?_⟩
    rw [if_neg (by decide)]
    refine W_ntrue ?_
    rw [W_call, W_cons, W_call, W_cons, W_var (d := tabD ho hi q g') (by rfl), W_cons, W_var (d := tabD lo li p f') (by rfl)]
    simp only [W_nil]
    rw [W_perm]
    refine W_mono (S1 M11) fun v M12 ⟨e, l12⟩ => ?_
    subst e
    rw [W_cons, W_var (by rfl)]
    simp only [W_nil]
    rw [W_lenF (by rfl)]
    refine W_mono (same_tab (by omega) (by omega)) fun v M13 ⟨e, l13⟩ => ⟨e, ?_⟩
    rw [if_neg (by decide), WS_nil]
    try dsimp only
    rw [WS_ret, W_call, W_cons, W_var (d := tabD ho hi q g') (by rfl), W_cons, W_var (d := tabD lo li p f') (by rfl), W_cons, W_call, W_cons, W_var (d := tabD ho hi q g') (by rfl), W_cons, W_var (d := tabD lo li p f') (by rfl)]
    simp only [W_nil]
    rw [W_lenF (by rfl)]
    refine W_mono (side_by_side_ok hg' hf' (by omega) (by omega) BB_3000) fun v M14 ⟨e, l14⟩ => ?_
    subst e
    rw [W_lenF (by rfl)]
    refine W_mono (beside_law hg' hf' (by omega) (by omega) (by omega)) fun v M15 ⟨e, l15⟩ => ?_
    subst e
    exact hR
  rw [WS_seq, WS_setN, W_call, W_cons, W_var (d := .adr t) (by rfl), W_cons]
  refine W_drawC (s := 3) (by rfl) T4 (by decide) (by decide) fun r1 M5 hr1 k5 => ?_
  have T5 := T4.step k5
  rw [W_cons]
  refine W_drawC (s := 3) (by rfl) T5 (by decide) (by decide) fun r2 M6 hr2 k6 => ?_
  have T6 := T5.step k6
  simp only [W_nil]
  rw [W_lenF (by rfl)]
  refine W_mono (drawn_ok (o := r1) (i := r2) T6 (by omega) (by omega)) fun v M7 ⟨⟨p7, f7, e, hf7, hp7⟩, a7, b7⟩ => ?_
  subst e
  have T7 := T6.step ⟨a7, b7⟩
  try dsimp only
  rw [WS_seq, WS_setN, W_call, W_cons, W_var (d := .adr t) (by rfl), W_cons]
  refine W_drawC (s := 3) (by rfl) T7 (by decide) (by decide) fun r3 M8 hr3 k8 => ?_
  have T8 := T7.step k8
  rw [W_cons]
  refine W_drawC (s := 3) (by rfl) T8 (by decide) (by decide) fun r4 M9 hr4 k9 => ?_
  have T9 := T8.step k9
  simp only [W_nil]
  rw [W_lenF (by rfl)]
  refine W_mono (drawn_ok (o := r3) (i := r4) T9 (by omega) (by omega)) fun v M10 ⟨⟨p8, f8, e, hf8, hp8⟩, a10, b10⟩ => ?_
  subst e
  have T10 := T9.step ⟨a10, b10⟩
  try dsimp only
  rw [WS_seq, WS_if, W_tb, W_op]
  refine W_drawC (s := 16) (by rfl) T10 (by decide) (by decide) fun r5 M11 hr5 k11 => ?_
  have T11 := T10.step k11
  rw [W_con, dEq_i, W_ok]
  refine ⟨_, rfl, ?_⟩
  by_cases h7 : r5 = 7
  · rw [if_pos (by simp [h7]), WS_seq, WS_setN, W_call, W_cons, W_var (d := .adr t) (by rfl), W_cons, W_con, W_cons]
    refine W_drawC (s := 2) (by rfl) T11 (by decide) (by decide) fun r6 M12 hr6 k12 => ?_
    have T12 := T11.step k12
    simp only [W_nil]
    rw [W_lenF (by rfl)]
    refine W_mono (drawn_ok (o := 3) (i := r6) T12 (by omega) (by omega)) fun v M13 ⟨⟨p9, f9, e, hf9, hp9⟩, a13, b13⟩ => ?_
    subst e
    have T13 := T12.step ⟨a13, b13⟩
    try dsimp only
    rw [WS_setN, W_call, W_cons, W_var (d := .adr t) (by rfl), W_cons, W_con, W_cons]
    refine W_drawC (s := 2) (by rfl) T13 (by decide) (by decide) fun r7 M14 hr7 k14 => ?_
    have T14 := T13.step k14
    simp only [W_nil]
    rw [W_lenF (by rfl)]
    refine W_mono (drawn_ok (o := 3) (i := r7) T14 (by omega) (by omega)) fun v M15 ⟨⟨p10, f10, e, hf10, hp10⟩, a15, b15⟩ => ?_
    subst e
    exact last M15 _ _ _ _ _ _ _ _ hf9 hf10 (by omega) (by omega) (by omega) (by omega) hp9 hp10 _ _
  · rw [if_neg (by simp; omega), WS_nil]
    exact last M11 _ _ _ _ _ _ _ _ hf7 hf8 (by omega) (by omega) (by omega) (by omega) hp7 hp8 _ _
theorem ix5 {r : Nat} (h : r < 5) : ∃ x y z : Nat, dIx (.tup [.tup [.int 0, .int 6, .int 3], .tup [.int 6, .int 0, .int 4], .tup [.int 6, .int 3, .int 1], .tup [.int 2, .int 5, .int 3], .tup [.int 2, .int 2, .int 6]]) (.int r) M = .ok (.tup [.int x, .int y, .int z]) M ∧ x ≤ 6 ∧ y ≤ 6 ∧ z ≤ 6 := by
  have : r = 0 ∨ r = 1 ∨ r = 2 ∨ r = 3 ∨ r = 4 := by omega
  rcases this with e | e | e | e | e <;> subst e
  · exact ⟨0, 6, 3, rfl, by decide⟩
  · exact ⟨6, 0, 4, rfl, by decide⟩
  · exact ⟨6, 3, 1, rfl, by decide⟩
  · exact ⟨2, 5, 3, rfl, by decide⟩
  · exact ⟨2, 2, 6, rfl, by decide⟩
theorem tup3 {τ : Mp.Env} {i j k : Int} : eTup (aCons (eCon (.int i)) (aCons (eCon (.int j)) (aCons (eCon (.int k)) (aNil)))) τ M = .ok (.tup [.int i, .int j, .int k]) M := by
  simp [eTup, aCons, eCon, aNil, Res.bind]
theorem law_ok {s : Nat} (hs : seqOf (.adr s) M = some (cs.map D.int)) (hlog : ∀ z ∈ cs, z.natAbs.log2 ≤ 1048576) (hlen : cs.length < 100000) : W (m_law CN [.adr s] M) fun v _ => v = .bl true := by
  unfold m_law
  refine W_fin (W_mono (Q := fun v _ => v = .bl true) (W_endD (Q := fun v _ => v = .bl true) ?_) fun v M' h => ⟨h, fun _ => h⟩)
  rw [WS_seq, WS_setN, W_call, W_cons, W_var (d := .adr s) (by rfl)]
  simp only [W_nil]
  rw [W_lenF (by rfl)]
  refine W_mono (start_ok hs hlog hlen) fun v M1 ⟨t, c, e, T1⟩ => ?_
  subst e
  try dsimp only
  rw [WS_seq, WS_setN]
  refine W_drawC (s := 4) (by rfl) T1 (by decide) (by decide) fun x M2 hx k2 => ?_
  have T2 := T1.step k2
  try dsimp only
  rw [WS_seq, WS_setN]
  refine W_drawC (s := 4) (by rfl) T2 (by decide) (by decide) fun y M3 hy k3 => ?_
  have T3 := T2.step k3
  try dsimp only
  rw [WS_seq, WS_setN]
  refine W_drawC (s := 4) (by rfl) T3 (by decide) (by decide) fun z M4 hz k4 => ?_
  have T4 := T3.step k4
  try dsimp only
  have more : ∀ (z : Nat), z ≤ 6 → WS (sSeq (sIf (eTB (eOp dEq (eCall (lenF 2 (m__law_draw CN)) (aCons (eVar 1) (aCons (eCon (.int 16)) (aNil)))) (eCon (.int 3)))) (sSet (.tp [.nm 2, .nm 3, .nm 4]) (eOp dIx (eTup (aCons (eTup (aCons (eCon (.int 0)) (aCons (eCon (.int 6)) (aCons (eCon (.int 3)) (aNil))))) (aCons (eTup (aCons (eCon (.int 6)) (aCons (eCon (.int 0)) (aCons (eCon (.int 4)) (aNil))))) (aCons (eTup (aCons (eCon (.int 6)) (aCons (eCon (.int 3)) (aCons (eCon (.int 1)) (aNil))))) (aCons (eTup (aCons (eCon (.int 2)) (aCons (eCon (.int 5)) (aCons (eCon (.int 3)) (aNil))))) (aCons (eTup (aCons (eCon (.int 2)) (aCons (eCon (.int 2)) (aCons (eCon (.int 6)) (aNil))))) (aNil))))))) (eCall (lenF 2 (m__law_draw CN)) (aCons (eVar 1) (aCons (eCon (.int 5)) (aNil)))))) (sNil)) (law_tail CN) [some (.adr s), some (.adr t), some (.int x), some (.int y), some (.int z), none, none, none, none, none] M4) ⟨fun _ _ => D.non = .bl true, fun _ _ => False, fun d _ => d = .bl true⟩ := fun z hz => by
    rw [WS_seq, WS_if, W_tb, W_op]
    refine W_drawC (s := 16) (by rfl) T4 (by decide) (by decide) fun r M5 hr k5 => ?_
    have T5 := T4.step k5
    rw [W_con, dEq_i, W_ok]
    refine ⟨_, rfl, ?_⟩
    by_cases h3 : r = 3
    · rw [if_pos (by simp [h3]), WS_set, W_op, W_tup, W_cons, tup3, W_ok, W_cons, tup3, W_ok, W_cons, tup3, W_ok, W_cons, tup3, W_ok, W_cons, tup3, W_ok]
      simp only [W_nil]
      refine ⟨by simp, ?_⟩
      refine W_drawC (s := 5) (by rfl) T5 (by decide) (by decide) fun r M6 hr k6 => ?_
      have T6 := T5.step k6
      obtain ⟨x', y', z', e, h1, h2, h3⟩ := ix5 (M := M6) hr
      rw [e, W_ok]
      refine ⟨[some (.adr s), some (.adr t), some (.int x'), some (.int y'), some (.int z'), none, none, none, none, none], by simp [Tg.put, Tg.puts], ?_⟩
      exact law_rest (R := fun v => v = .bl true) T6 h1 h2 h3 rfl
    · rw [if_neg (by simp; omega), WS_nil]
      exact law_rest (R := fun v => v = .bl true) T5 (by omega) (by omega) hz rfl
  rw [WS_seq, WS_if, W_tb, W_op, W_op, W_op, W_var (d := .int x) (by rfl), W_var (d := .int y) (by rfl), dAdd_i, W_ok, W_var (d := .int z) (by rfl), dAdd_i, W_ok, W_con, dGt_i, W_ok]
  refine ⟨_, rfl, ?_⟩
  split
  · rw [WS_setN, W_con]
    exact more 1 (by omega)
  · rw [WS_nil]
    exact more z (by omega)
end
end Kp

set_option Elab.async false
set_option linter.all false
set_option maxRecDepth 100000
set_option maxHeartbeats 4000000
namespace K29
open PySem PySem.Spec PyProof.Rows L2 Mp
def top (i : Nat) : Stmt := PySem.Challenge.pw_lookundone_k29_products_of_tables.main.body.getD i (.Pass ⟨0, 0, 0, 0⟩)
abbrev s_need : Stmt := top 4
abbrev s_is_integer : Stmt := top 6
abbrev s_is_number : Stmt := top 7
abbrev s_is_tuple_of : Stmt := top 8
abbrev s_is_exact : Stmt := top 9
abbrev s_exact_sum : Stmt := top 13
abbrev s_exact_product : Stmt := top 14
abbrev s_mirror_of : Stmt := top 15
abbrev s_by_root : Stmt := top 16
abbrev s_times_roots : Stmt := top 17
abbrev s_is_width_of : Stmt := top 19
abbrev s_is_row : Stmt := top 20
abbrev s_is_rows : Stmt := top 21
abbrev s_rows_by_root : Stmt := top 22
abbrev s_is_nought_rows : Stmt := top 23
abbrev s_is_table : Stmt := top 24
abbrev s_one_form : Stmt := top 25
abbrev s_chained_row : Stmt := top 27
abbrev s_chained : Stmt := top 28
abbrev s_side_by_side : Stmt := top 29
abbrev s_mirrored : Stmt := top 30
abbrev s_rows_over : Stmt := top 31
abbrev s_added : Stmt := top 32
abbrev s__law_start : Stmt := top 34
abbrev s__law_draw : Stmt := top 35
abbrev s__law_signed : Stmt := top 36
abbrev s__law_whole : Stmt := top 37
abbrev s__law_same : Stmt := top 38
abbrev s__law_value : Stmt := top 39
abbrev s__law_root : Stmt := top 40
abbrev s__law_has_r : Stmt := top 41
abbrev s__law_formed : Stmt := top 42
abbrev s__law_table : Stmt := top 43
abbrev s__law_unit : Stmt := top 44
abbrev s__law_small : Stmt := top 45
abbrev s__law_drawn : Stmt := top 46
abbrev s__law_entry : Stmt := top 47
abbrev s__law_chain : Stmt := top 48
abbrev s__law_beside : Stmt := top 49
abbrev s__law_over : Stmt := top 50
abbrev s__law_sum : Stmt := top 51
abbrev s__law_refused : Stmt := top 52
abbrev s__law_nought : Stmt := top 53
abbrev s__law_bent : Stmt := top 54
abbrev s__law_refusals : Stmt := top 55
abbrev s__law_products : Stmt := top 56
abbrev s_law : Stmt := top 57
abbrev i_NotUsable : Stmt := (C8.clsBody (top 3)).getD 0 (.Pass ⟨0, 0, 0, 0⟩)
/-- the facts of the errors that _law_refused asks about -/
structure RfC (K : PySem.W.Frag) (mg : Str → Option Value) : Prop where
  gN : mg "NotUsable" = some (.ref (He.ga K "NotUsable"))
  gW : mg "WebError" = some (.ref (He.ga K "WebError"))
  gL : mg "LookError" = some (.ref (He.ga K "LookError"))
  nI : mg "isinstance" = none
  nV : mg "ValueError" = none
  E : L2.ExcC K (He.ga K "NotUsable")
  X : XfC K (He.ga K "NotUsable")
  no1 : PySem.W.findIn K (.ref (He.ga K "NotUsable")) "word" = some none
  no2 : PySem.W.findIn K (.ref (He.ga K "NotUsable")) "at" = some none
  k1 : PySem.W.kitOne K (.ref (He.ga K "NotUsable")) (.ref (He.ga K "WebError")) = some true
  k2 : PySem.W.kitOne K (.ref (He.ga K "NotUsable")) (.type "ValueError") = some true
  ex : PySem.W.exmOne K (.ref (He.ga K "NotUsable")) (.ref (He.ga K "NotUsable")) = some true

structure Cx (K : PySem.W.Frag) (mg : Str → Option Value) (base : Heap) (T : Tb) : Prop where
  d_need : DefC K mg "need" s_need
  d_is_integer : DefC K mg "is_integer" s_is_integer
  d_is_number : DefC K mg "is_number" s_is_number
  d_is_tuple_of : DefC K mg "is_tuple_of" s_is_tuple_of
  d_is_exact : DefC K mg "is_exact" s_is_exact
  d_exact_sum : DefC K mg "exact_sum" s_exact_sum
  d_exact_product : DefC K mg "exact_product" s_exact_product
  d_mirror_of : DefC K mg "mirror_of" s_mirror_of
  d_by_root : DefC K mg "by_root" s_by_root
  d_times_roots : DefC K mg "times_roots" s_times_roots
  d_is_width_of : DefC K mg "is_width_of" s_is_width_of
  d_is_row : DefC K mg "is_row" s_is_row
  d_is_rows : DefC K mg "is_rows" s_is_rows
  d_rows_by_root : DefC K mg "rows_by_root" s_rows_by_root
  d_is_nought_rows : DefC K mg "is_nought_rows" s_is_nought_rows
  d_is_table : DefC K mg "is_table" s_is_table
  d_one_form : DefC K mg "one_form" s_one_form
  d_chained_row : DefC K mg "chained_row" s_chained_row
  d_chained : DefC K mg "chained" s_chained
  d_side_by_side : DefC K mg "side_by_side" s_side_by_side
  d_mirrored : DefC K mg "mirrored" s_mirrored
  d_rows_over : DefC K mg "rows_over" s_rows_over
  d_added : DefC K mg "added" s_added
  d__law_start : DefC K mg "_law_start" s__law_start
  d__law_draw : DefC K mg "_law_draw" s__law_draw
  d__law_signed : DefC K mg "_law_signed" s__law_signed
  d__law_whole : DefC K mg "_law_whole" s__law_whole
  d__law_same : DefC K mg "_law_same" s__law_same
  d__law_value : DefC K mg "_law_value" s__law_value
  d__law_root : DefC K mg "_law_root" s__law_root
  d__law_has_r : DefC K mg "_law_has_r" s__law_has_r
  d__law_formed : DefC K mg "_law_formed" s__law_formed
  d__law_table : DefC K mg "_law_table" s__law_table
  d__law_unit : DefC K mg "_law_unit" s__law_unit
  d__law_small : DefC K mg "_law_small" s__law_small
  d__law_drawn : DefC K mg "_law_drawn" s__law_drawn
  d__law_entry : DefC K mg "_law_entry" s__law_entry
  d__law_chain : DefC K mg "_law_chain" s__law_chain
  d__law_beside : DefC K mg "_law_beside" s__law_beside
  d__law_over : DefC K mg "_law_over" s__law_over
  d__law_sum : DefC K mg "_law_sum" s__law_sum
  d__law_refused : DefC K mg "_law_refused" s__law_refused
  d__law_nought : DefC K mg "_law_nought" s__law_nought
  d__law_bent : DefC K mg "_law_bent" s__law_bent
  d__law_refusals : DefC K mg "_law_refusals" s__law_refusals
  d__law_products : DefC K mg "_law_products" s__law_products
  d_law : DefC K mg "law" s_law
  n_abs : mg "abs" = none
  n_all : mg "all" = none
  n_bool : mg "bool" = none
  n_int : mg "int" = none
  n_isinstance : mg "isinstance" = none
  n_len : mg "len" = none
  n_list : mg "list" = none
  n_max : mg "max" = none
  n_min : mg "min" = none
  n_range : mg "range" = none
  n_str : mg "str" = none
  n_tuple : mg "tuple" = none
  n_zip : mg "zip" = none
  g_NOUGHT : mg "NOUGHT" = some (.ref (He.ga K "NOUGHT"))
  k_NOUGHT : ∀ H, SqT K H (He.ga K "NOUGHT") ([0, 0, 0, 0].map V.int)
  g_ROOT : mg "ROOT" = some (.ref (He.ga K "ROOT"))
  k_ROOT : ∀ H, SqT K H (He.ga K "ROOT") ([0, 1, 0, (-1)].map V.int)
  e_NotUsable : ExC2 K mg "NotUsable" "NotUsable.__init__" i_NotUsable "word" "at"
  t_is_exact : TabC K mg base T "is_exact"
  t_is_nought_rows : TabC K mg base T "is_nought_rows"
  t_is_row : TabC K mg base T "is_row"
  t_is_rows : TabC K mg base T "is_rows"
  t_one_form : TabC K mg base T "one_form"
  l__law_refusals : Lx.LamC K mg base T "_law_refusals" s__law_refusals
  rf : RfC K mg
section

end
section
variable {P : Program} {w : World} {K : PySem.W.Frag} {mg : Str → Option Value} {base : Heap} {T : Tb}
theorem ini_NotUsable (c : Cx K mg base T) : ∃ fd, FnOk P w K mg base (L2N.CX P w) 1 (He.ma K (He.ga K "NotUsable") "__init__") fd ["self", "word", "at"] (spI2 (He.ga K "NotUsable") "word" "at") ∧ Binds K fd ["self", "word", "at"] [] := by
  obtain ⟨fd, F⟩ := c.e_NotUsable.f
  exact ⟨fd, init_ok F c.e_NotUsable.T c.e_NotUsable.n1 c.e_NotUsable.n2 (C8.fnScope_by (by decide +kernel)) rfl, F.bindsN fun _ _ _ _ _ _ us hl => match us, hl with | [_, _, _], _ => rfl⟩
theorem sc__law_whole : FnScope ["item"] ["item"] (defScope s__law_whole) := C8.fnScope_by (by decide +kernel)
theorem bd__law_whole (c : Cx K mg base T) : Binds K (fdK K "_law_whole") ["item"] [] := c.d__law_whole.f.bindsN fun _ _ _ _ _ _ us hl => match us, hl with | [_], _ => rfl
theorem fn__law_whole (c : Cx K mg base T) : FnOk P w K mg base (L2N.CX P w) 7 (He.ga K "_law_whole") (fdK K "_law_whole") ["item"] (spI K T 1 (m__law_whole (He.ga K))) := by
  refine fn_mkD (ps := ["item"]) c.d__law_whole sc__law_whole fun cdv A outer s H E hcdv hr => ?_
  exact (ms_one (ms_ret (mp_and (mp_isi (C := "int") (by rfl) c.n_isinstance (by rfl) c.n_int (by rfl) (mp_var 0)) (mp_one (mp_not (mp_isi (C := "bool") (by rfl) c.n_isinstance (by rfl) c.n_bool (by rfl) (mp_var 0)))))))
theorem sc__law_same : FnScope ["left", "right", "at"] ["left", "right"] (defScope s__law_same) := C8.fnScope_by (by decide +kernel)
theorem bd__law_same (c : Cx K mg base T) : Binds K (fdK K "_law_same") ["left", "right"] [] := c.d__law_same.f.bindsN fun _ _ _ _ _ _ us hl => match us, hl with | [_, _], _ => rfl
theorem fn__law_same (c : Cx K mg base T) : ∀ k : Nat, FnOk P w K mg base (L2N.CX P w) (k + 8) (He.ga K "_law_same") (fdK K "_law_same") ["left", "right"] (spI K T 2 (m__law_same (He.ga K) k))
  | 0 => fn_bad (ps := ["left", "right"])
  | k + 1 => by
    have IH := fn__law_same c k
    rw [show k + 1 + 8 = (k + 8) + 1 by omega]
    refine fn_mkD (ps := ["left", "right"]) c.d__law_same sc__law_same fun cdv A outer s H E hcdv hr => ?_
    exact (ms_cons (ms_if (mp_tst (mp_isi (C := "tuple") (by rfl) c.n_isinstance (by rfl) c.n_tuple (by rfl) (mp_var 1))) (ms_cons (ms_if (PW.pt (mw_or (mp_tnot (mp_tst (mp_isi (C := "tuple") (by rfl) c.n_isinstance (by rfl) c.n_tuple (by rfl) (mp_var 0)))) (mw_or1 (mp_tcmp (op_neD hr.units) ne_s (mp_callB len_X len_s (by rfl) c.n_len (by rfl) (ma_cons (mp_var 0) ma_nil)) (mp_callB len_X len_s (by rfl) c.n_len (by rfl) (ma_cons (mp_var 1) ma_nil)) (nomark _))))) (ms_one (ms_ret mp_bl)) ms_nil) (ms_one (ms_ret (mp_callB (cr_all (by rfl)) all_s (by rfl) c.n_all (by rfl) (ma_cons (mp_lc (by rfl) sc__law_same.nd (mi_rng1 (by rfl) c.n_range (mp_callB len_X len_s (by rfl) c.n_len (by rfl) (ma_cons (mp_var 1) ma_nil))) (blkOk_by (own := [("at", 2)]) (by rfl)) (fun _ _ _ _ _ => (mg_name 2 sc__law_same.nd)) (fun _ _ _ _ _ => mts_nil) (fun _ _ _ _ _ => (mp_call IH (hr.mono (by omega)) (by rfl) c.d__law_same.g c.d__law_same.f.kp (bd__law_same c) takes00 (ma_cons (mp_ix ix_X ix_s (mp_var 0) (mp_var 2) (fun _ _ => rfl)) (ma_cons (mp_ix ix_X ix_s (mp_var 1) (mp_var 2) (fun _ _ => rfl)) ma_nil))))) ma_nil))))) ms_nil) (ms_cons (ms_if (mp_tcmp op_isN isN_s (mp_var 1) mp_non (nomark _)) (ms_one (ms_ret (mp_cmp op_isN isN_s (mp_var 0) mp_non (nomark _)))) ms_nil) (ms_cons (ms_if (mp_tst (mp_isi (C := "bool") (by rfl) c.n_isinstance (by rfl) c.n_bool (by rfl) (mp_var 1))) (ms_one (ms_ret (mp_and (mp_isi (C := "bool") (by rfl) c.n_isinstance (by rfl) c.n_bool (by rfl) (mp_var 0)) (mp_one (mp_cmp (op_eqD hr.units) eq_s (mp_var 0) (mp_var 1) (nomark _)))))) ms_nil) (ms_cons (ms_if (mp_tst (mp_isi (C := "int") (by rfl) c.n_isinstance (by rfl) c.n_int (by rfl) (mp_var 1))) (ms_one (ms_ret (mp_and (mp_call (fn__law_whole c) (hr.mono (by omega)) (by rfl) c.d__law_whole.g c.d__law_whole.f.kp (bd__law_whole c) (L2N.takes_of rfl rfl rfl rfl) (ma_cons (mp_var 0) ma_nil)) (mp_one (mp_cmp (op_eqD hr.units) eq_s (mp_var 0) (mp_var 1) (nomark _)))))) ms_nil) (ms_one (ms_ret (mp_and (mp_isi (C := "str") (by rfl) c.n_isinstance (by rfl) c.n_str (by rfl) (mp_var 1)) (mp_and (mp_isi (C := "str") (by rfl) c.n_isinstance (by rfl) c.n_str (by rfl) (mp_var 0)) (mp_one (mp_cmp (op_eqD hr.units) eq_s (mp_var 0) (mp_var 1) (nomark _)))))))))))
theorem fh__law_whole (c : Cx K mg base T) : L2H.FnH P w K mg base (L2N.CX P w) 7 (He.ga K "_law_whole") (fdK K "_law_whole") ["item"] (spI K T 1 (m__law_whole (He.ga K))) := by
  refine fn_mkH (ps := ["item"]) c.d__law_whole sc__law_whole fun cdv A outer s H E p hcdv hot hr => ?_
  have HOT : L2H.HotC (L2H.cxH (L2N.CX P w) P w K mg base ["item"] "_law_whole" (defScope s__law_whole) (He.ga K "_law_whole") cdv A outer s H E p) := hot_cx hot
  exact (ms_one (ms_ret (mp_and (mp_isi (C := "int") (by rfl) c.n_isinstance (by rfl) c.n_int (by rfl) (mp_var 0)) (mp_one (mp_not (mp_isi (C := "bool") (by rfl) c.n_isinstance (by rfl) c.n_bool (by rfl) (mp_var 0)))))))
theorem fh__law_same (c : Cx K mg base T) : ∀ k : Nat, L2H.FnH P w K mg base (L2N.CX P w) (k + 8) (He.ga K "_law_same") (fdK K "_law_same") ["left", "right"] (spI K T 2 (m__law_same (He.ga K) k))
  | 0 => fnH_bad (ps := ["left", "right"])
  | k + 1 => by
    have IH := fh__law_same c k
    rw [show k + 1 + 8 = (k + 8) + 1 by omega]
    refine fn_mkH (ps := ["left", "right"]) c.d__law_same sc__law_same fun cdv A outer s H E p hcdv hot hr => ?_
    have HOT : L2H.HotC (L2H.cxH (L2N.CX P w) P w K mg base ["left", "right", "at"] "_law_same" (defScope s__law_same) (He.ga K "_law_same") cdv A outer s H E p) := hot_cx hot
    exact (ms_cons (ms_if (mp_tst (mp_isi (C := "tuple") (by rfl) c.n_isinstance (by rfl) c.n_tuple (by rfl) (mp_var 1))) (ms_cons (ms_if (PW.pt (mw_or (mp_tnot (mp_tst (mp_isi (C := "tuple") (by rfl) c.n_isinstance (by rfl) c.n_tuple (by rfl) (mp_var 0)))) (mw_or1 (mp_tcmp (op_neD (RoomH.units hr)) ne_s (mp_callB len_X len_s (by rfl) c.n_len (by rfl) (ma_cons (mp_var 0) ma_nil)) (mp_callB len_X len_s (by rfl) c.n_len (by rfl) (ma_cons (mp_var 1) ma_nil)) (nomark _))))) (ms_one (ms_ret mp_bl)) ms_nil) (ms_one (ms_ret (mp_callB (Hx.cr_allH HOT) all_s (by rfl) c.n_all (by rfl) (ma_cons (mp_lcH HOT sc__law_same.nd (mi_rng1H (by rfl) c.n_range (mp_callB len_X len_s (by rfl) c.n_len (by rfl) (ma_cons (mp_var 1) ma_nil))) (blkOk_by (own := [("at", 2)]) (by rfl)) (fun _ _ _ _ _ => (mg_name 2 sc__law_same.nd)) (fun _ _ _ _ _ => mts_nil) (fun _ _ _ _ _ => (mp_callH IH (hr.mono (by omega)) (hot_blk HOT) (by rfl) c.d__law_same.g c.d__law_same.f.kp (bd__law_same c) takes00 (ma_cons (mp_ix ix_X ix_s (mp_var 0) (mp_var 2) (fun _ _ => rfl)) (ma_cons (mp_ix ix_X ix_s (mp_var 1) (mp_var 2) (fun _ _ => rfl)) ma_nil))))) ma_nil))))) ms_nil) (ms_cons (ms_if (mp_tcmp op_isN isN_s (mp_var 1) mp_non (nomark _)) (ms_one (ms_ret (mp_cmp op_isN isN_s (mp_var 0) mp_non (nomark _)))) ms_nil) (ms_cons (ms_if (mp_tst (mp_isi (C := "bool") (by rfl) c.n_isinstance (by rfl) c.n_bool (by rfl) (mp_var 1))) (ms_one (ms_ret (mp_and (mp_isi (C := "bool") (by rfl) c.n_isinstance (by rfl) c.n_bool (by rfl) (mp_var 0)) (mp_one (mp_cmp (op_eqD (RoomH.units hr)) eq_s (mp_var 0) (mp_var 1) (nomark _)))))) ms_nil) (ms_cons (ms_if (mp_tst (mp_isi (C := "int") (by rfl) c.n_isinstance (by rfl) c.n_int (by rfl) (mp_var 1))) (ms_one (ms_ret (mp_and (mp_callH (fh__law_whole c) (hr.mono (by omega)) HOT (by rfl) c.d__law_whole.g c.d__law_whole.f.kp (bd__law_whole c) (L2N.takes_of rfl rfl rfl rfl) (ma_cons (mp_var 0) ma_nil)) (mp_one (mp_cmp (op_eqD (RoomH.units hr)) eq_s (mp_var 0) (mp_var 1) (nomark _)))))) ms_nil) (ms_one (ms_ret (mp_and (mp_isi (C := "str") (by rfl) c.n_isinstance (by rfl) c.n_str (by rfl) (mp_var 1)) (mp_and (mp_isi (C := "str") (by rfl) c.n_isinstance (by rfl) c.n_str (by rfl) (mp_var 0)) (mp_one (mp_cmp (op_eqD (RoomH.units hr)) eq_s (mp_var 0) (mp_var 1) (nomark _)))))))))))
theorem hot_suite {Z : L2.Cx} {a : Addr} {oe : Obj} {cls : Value} {d : Option Addr} {pn : List (Addr × Obj)} (hz : L2N.Zn cls d oe) (hf : ∃ vs, oe.data = .fields vs) : L2H.HotC (Z.suite a ((a, oe) :: pn)) :=
  ⟨(a, oe), ⟨rfl, let ⟨vs, e⟩ := hf; ⟨vs, e, hz.2.2 vs e⟩⟩, List.mem_cons_self⟩
section
theorem sc__law_refused : FnScope ["deed", "word", "e"] ["deed", "word"] (defScope s__law_refused) := C8.fnScope_by (by decide +kernel)
variable {X : L2.Cx} {T : Tb} {W : WX} {w q : Str} {a0 P : Addr} {params : Arguments} {body : Expr} {scope : Scope} {fb : FE} {p lp wp pos : Pos} {jw : Nat}
theorem rf__law_refused (c : Cx X.K X.mg X.base T) (r : RfC X.K X.mg) (hg : Gl X "_law_refused") (TB : LamX.TabB X.base X.mg a0 P) (hcode : X.env.code = .ref a0) (eq : X.env.qual ++ "<lambda>" = q) (hmT : (P, q) ∈ T.lam) (hu : ∀ p ∈ T.lam, p.1 = P → p.2 = q) (hr : Room 23 X.A) (L : LamX.LamS X.env.scope scope) (hdef : defaultsOf params X.env = ([], []))
    (hbind : ∀ (q : Str) (cl : List (Str × Addr)) (pm cv ctv : Value), bindArgs (PySem.W.kla_fn "<lambda>" q params body scope cl pm cv ctv) ⟨[], []⟩ = pure [])
    (hbody : ∀ (A : Around) (outer : List PySem.Env) (s : Shared) (H : Hp) (E : XK) (f c' : Addr), Room 21 (A.deeper (LamX.lamEnv X scope s.heap.objs.size f c')) → PE (Lx.lamN X A outer s H E scope f c') body (tE X.K T (fun cls d _ H' => E cls d H') fb)) :
    PE X (.Call (.Name "_law_refused" p) [.Lambda params body scope lp, .Constant (.str w) jw wp] [] pos) (tE X.K T W (rd__law_refused (He.ga X.K) w fb)) := by
  refine Lx.refusedD (k := 21) (i := 2) (a := "deed") (b := "word") (C := He.ga X.K "NotUsable") (cN := .ref (He.ga X.K "NotUsable")) (cL := .ref (He.ga X.K "LookError")) (w1 := "word") (w2 := "at") (g2 := g__law_refused (He.ga X.K)) c.d__law_refused hg rfl
    (c.d__law_refused.f.bindsN fun _ _ _ _ _ _ us hl => match us, hl with | [_, _], _ => rfl) sc__law_refused (by rfl) (by exact .inl (by rfl)) (by rfl) (by rfl) TB hcode eq hmT hu hr L hdef hbind
    (fun s H => ⟨by rfl, by decide, .inl r.gN⟩) (fun s H => ⟨by rfl, by decide, .inl r.gL⟩) (fun s H => by rfl) hbody ?_ r.ex
  intro s H a oe cls d pn hr2 hz hf
  exact Lx.px_and (n := "e") (cv1 := .ref (He.ga X.K "WebError")) (cv2 := .type "ValueError") (c1 := .ref (He.ga X.K "WebError")) (c2 := .ty "ValueError") (ps := ["left", "right"]) (by rfl) (by exact .inl (by rfl)) (by decide) (by decide) r.E r.X r.no1 r.no2 (by decide) ⟨hz.1, hz.2.1⟩ hf (by rfl) r.nI
    (pe_glob (by rfl) r.gW rfl) (pe_bltn (by rfl) r.nV (by rfl) rfl) (fun u e => e) (fun u e => e) r.k1 r.k2 ((fh__law_same c 12)) (by rfl) (by exact ⟨(hr2.mono (by decide) : Room 20 _).dp, (hr2.mono (by decide) : Room 20 _).un⟩) (hot_suite hz hf) (by rfl) c.d__law_same.g c.d__law_same.f.kp (bd__law_same c) takes00 (by decide)
    (mp_tup (ma_cons (mp_var 1) (ma_cons (mp_un un_neg neg_s mp_int) ma_nil)))
end
theorem sc_need : FnScope ["holds", "word"] ["holds", "word"] (defScope s_need) := C8.fnScope_by (by decide +kernel)
theorem bd_need (c : Cx K mg base T) : Binds K (fdK K "need") ["holds", "word"] [] := c.d_need.f.bindsN fun _ _ _ _ _ _ us hl => match us, hl with | [_, _], _ => rfl
theorem fn_need (c : Cx K mg base T) : FnOk P w K mg base (L2N.CX P w) 7 (He.ga K "need") (fdK K "need") ["holds", "word"] (spI K T 2 (m_need (He.ga K))) := by
  refine fn_mkD (ps := ["holds", "word"]) c.d_need sc_need fun cdv A outer s H E hcdv hr => ?_
  obtain ⟨fdI_NotUsable, FI_NotUsable, BI_NotUsable⟩ := ini_NotUsable (P := P) (w := w) (base := base) c
  exact (ms_one (ms_if (mp_tnot (mp_tst (mp_var 0))) (ms_one (ms_raise2 (by rfl) (L2N.takes_of rfl rfl rfl rfl) c.e_NotUsable.T c.e_NotUsable.iC c.e_NotUsable.tI FI_NotUsable (hr.mono (by decide)) BI_NotUsable (by rfl) c.e_NotUsable.g (ma_cons (mp_var 1) (ma_cons (mp_un un_neg neg_s mp_int) ma_nil)))) ms_nil))
theorem sc_is_integer : FnScope ["thing"] ["thing"] (defScope s_is_integer) := C8.fnScope_by (by decide +kernel)
theorem bd_is_integer (c : Cx K mg base T) : Binds K (fdK K "is_integer") ["thing"] [] := c.d_is_integer.f.bindsN fun _ _ _ _ _ _ us hl => match us, hl with | [_], _ => rfl
theorem fn_is_integer (c : Cx K mg base T) : FnOk P w K mg base (L2N.CX P w) 7 (He.ga K "is_integer") (fdK K "is_integer") ["thing"] (spI K T 1 (m_is_integer (He.ga K))) := by
  refine fn_mkD (ps := ["thing"]) c.d_is_integer sc_is_integer fun cdv A outer s H E hcdv hr => ?_
  exact (ms_one (ms_ret (mp_and (mp_isi (C := "int") (by rfl) c.n_isinstance (by rfl) c.n_int (by rfl) (mp_var 0)) (mp_one (mp_not (mp_isi (C := "bool") (by rfl) c.n_isinstance (by rfl) c.n_bool (by rfl) (mp_var 0)))))))
theorem sc_is_number : FnScope ["thing"] ["thing"] (defScope s_is_number) := C8.fnScope_by (by decide +kernel)
theorem bd_is_number (c : Cx K mg base T) : Binds K (fdK K "is_number") ["thing"] [] := c.d_is_number.f.bindsN fun _ _ _ _ _ _ us hl => match us, hl with | [_], _ => rfl
theorem fn_is_number (c : Cx K mg base T) : FnOk P w K mg base (L2N.CX P w) 8 (He.ga K "is_number") (fdK K "is_number") ["thing"] (spI K T 1 (m_is_number (He.ga K))) := by
  refine fn_mkD (ps := ["thing"]) c.d_is_number sc_is_number fun cdv A outer s H E hcdv hr => ?_
  exact (ms_one (ms_ret (mp_and (mp_call (fn_is_integer c) (hr.mono (by decide)) (by rfl) c.d_is_integer.g c.d_is_integer.f.kp (bd_is_integer c) (L2N.takes_of rfl rfl rfl rfl) (ma_cons (mp_var 0) ma_nil)) (mp_one (mp_cmp op_ge ge_s (mp_var 0) mp_int (nomark _))))))
theorem sc_is_tuple_of : FnScope ["many", "thing"] ["many", "thing"] (defScope s_is_tuple_of) := C8.fnScope_by (by decide +kernel)
theorem bd_is_tuple_of (c : Cx K mg base T) : Binds K (fdK K "is_tuple_of") ["many", "thing"] [] := c.d_is_tuple_of.f.bindsN fun _ _ _ _ _ _ us hl => match us, hl with | [_, _], _ => rfl
theorem fn_is_tuple_of (c : Cx K mg base T) : FnOk P w K mg base (L2N.CX P w) 7 (He.ga K "is_tuple_of") (fdK K "is_tuple_of") ["many", "thing"] (spI K T 2 (m_is_tuple_of (He.ga K))) := by
  refine fn_mkD (ps := ["many", "thing"]) c.d_is_tuple_of sc_is_tuple_of fun cdv A outer s H E hcdv hr => ?_
  exact (ms_one (ms_ret (mp_and (mp_isi (C := "tuple") (by rfl) c.n_isinstance (by rfl) c.n_tuple (by rfl) (mp_var 1)) (mp_one (mp_cmp (op_eqD hr.units) eq_s (mp_callB len_X len_s (by rfl) c.n_len (by rfl) (ma_cons (mp_var 1) ma_nil)) (mp_var 0) (nomark _))))))
theorem sc_is_exact : FnScope ["thing", "part"] ["thing"] (defScope s_is_exact) := C8.fnScope_by (by decide +kernel)
theorem bd_is_exact (c : Cx K mg base T) : Binds K (fdK K "is_exact") ["thing"] [] := c.d_is_exact.f.bindsN fun _ _ _ _ _ _ us hl => match us, hl with | [_], _ => rfl
theorem fn_is_exact (c : Cx K mg base T) : FnOk P w K mg base (L2N.CX P w) 11 (He.ga K "is_exact") (fdK K "is_exact") ["thing"] (spI K T 1 (m_is_exact (He.ga K))) := by
  refine fn_mkD (ps := ["thing"]) c.d_is_exact sc_is_exact fun cdv A outer s H E hcdv hr => ?_
  obtain rfl := hcdv.symm.trans c.t_is_exact.cd
  exact (ms_one (ms_ret (mp_and (mp_call (fn_is_tuple_of c) (hr.mono (by decide)) (by rfl) c.d_is_tuple_of.g c.d_is_tuple_of.f.kp (bd_is_tuple_of c) (L2N.takes_of rfl rfl rfl rfl) (ma_cons mp_int (ma_cons (mp_var 0) ma_nil))) (mp_one (mp_genall c.t_is_exact.mem hr (by rfl) sc_is_exact.nd (by rfl) c.n_all c.t_is_exact.tb (by rfl) (blkOk_by (own := [("part", 1)]) (by rfl)) (by decide) rfl rfl (mi_val (mp_var 0)) (fun _ _ _ _ _ => (mg_name 1 sc_is_exact.nd)) (fun _ _ _ _ _ => mts_nil) (fun _ _ _ _ _ => (mp_call (fn_is_integer c) (Room.gcx (hr.mono (by decide))) (by rfl) c.d_is_integer.g c.d_is_integer.f.kp (bd_is_integer c) takes00 (ma_cons (mp_var 1) ma_nil))))))))
theorem sc_exact_sum : FnScope ["one", "other", "a", "b", "c", "d", "e", "f", "g", "h"] ["one", "other"] (defScope s_exact_sum) := C8.fnScope_by (by decide +kernel)
theorem bd_exact_sum (c : Cx K mg base T) : Binds K (fdK K "exact_sum") ["one", "other"] [] := c.d_exact_sum.f.bindsN fun _ _ _ _ _ _ us hl => match us, hl with | [_, _], _ => rfl
theorem fn_exact_sum (c : Cx K mg base T) : FnOk P w K mg base (L2N.CX P w) 7 (He.ga K "exact_sum") (fdK K "exact_sum") ["one", "other"] (spI K T 2 (m_exact_sum (He.ga K))) := by
  refine fn_mkD (ps := ["one", "other"]) c.d_exact_sum sc_exact_sum fun cdv A outer s H E hcdv hr => ?_
  exact (ms_cons (ms_asg (mp_var 0) (mg_tup rfl (mgs_cons (mg_name 2 sc_exact_sum.nd) (mgs_cons (mg_name 3 sc_exact_sum.nd) (mgs_cons (mg_name 4 sc_exact_sum.nd) (mgs_cons (mg_name 5 sc_exact_sum.nd) mgs_nil)))))) (ms_cons (ms_asg (mp_var 1) (mg_tup rfl (mgs_cons (mg_name 6 sc_exact_sum.nd) (mgs_cons (mg_name 7 sc_exact_sum.nd) (mgs_cons (mg_name 8 sc_exact_sum.nd) (mgs_cons (mg_name 9 sc_exact_sum.nd) mgs_nil)))))) (ms_one (ms_ret (mp_tup (ma_cons (mp_op op_addX add_s (mp_var 2) (mp_var 6)) (ma_cons (mp_op op_addX add_s (mp_var 3) (mp_var 7)) (ma_cons (mp_op op_addX add_s (mp_var 4) (mp_var 8)) (ma_cons (mp_op op_addX add_s (mp_var 5) (mp_var 9)) ma_nil)))))))))
theorem sc_exact_product : FnScope ["one", "other", "a", "b", "c", "d", "e", "f", "g", "h"] ["one", "other"] (defScope s_exact_product) := C8.fnScope_by (by decide +kernel)
theorem bd_exact_product (c : Cx K mg base T) : Binds K (fdK K "exact_product") ["one", "other"] [] := c.d_exact_product.f.bindsN fun _ _ _ _ _ _ us hl => match us, hl with | [_, _], _ => rfl
theorem fn_exact_product (c : Cx K mg base T) : FnOk P w K mg base (L2N.CX P w) 7 (He.ga K "exact_product") (fdK K "exact_product") ["one", "other"] (spI K T 2 (m_exact_product (He.ga K))) := by
  refine fn_mkD (ps := ["one", "other"]) c.d_exact_product sc_exact_product fun cdv A outer s H E hcdv hr => ?_
  exact (ms_cons (ms_asg (mp_var 0) (mg_tup rfl (mgs_cons (mg_name 2 sc_exact_product.nd) (mgs_cons (mg_name 3 sc_exact_product.nd) (mgs_cons (mg_name 4 sc_exact_product.nd) (mgs_cons (mg_name 5 sc_exact_product.nd) mgs_nil)))))) (ms_cons (ms_asg (mp_var 1) (mg_tup rfl (mgs_cons (mg_name 6 sc_exact_product.nd) (mgs_cons (mg_name 7 sc_exact_product.nd) (mgs_cons (mg_name 8 sc_exact_product.nd) (mgs_cons (mg_name 9 sc_exact_product.nd) mgs_nil)))))) (ms_one (ms_ret (mp_tup (ma_cons (mp_op op_sub sub_s (mp_op op_sub sub_s (mp_op op_sub sub_s (mp_op op_mulX' mul_s (mp_var 2) (mp_var 6)) (mp_op op_mulX' mul_s (mp_var 3) (mp_var 9))) (mp_op op_mulX' mul_s (mp_var 4) (mp_var 8))) (mp_op op_mulX' mul_s (mp_var 5) (mp_var 7))) (ma_cons (mp_op op_sub sub_s (mp_op op_sub sub_s (mp_op op_addX add_s (mp_op op_mulX' mul_s (mp_var 2) (mp_var 7)) (mp_op op_mulX' mul_s (mp_var 3) (mp_var 6))) (mp_op op_mulX' mul_s (mp_var 4) (mp_var 9))) (mp_op op_mulX' mul_s (mp_var 5) (mp_var 8))) (ma_cons (mp_op op_sub sub_s (mp_op op_addX add_s (mp_op op_addX add_s (mp_op op_mulX' mul_s (mp_var 2) (mp_var 8)) (mp_op op_mulX' mul_s (mp_var 3) (mp_var 7))) (mp_op op_mulX' mul_s (mp_var 4) (mp_var 6))) (mp_op op_mulX' mul_s (mp_var 5) (mp_var 9))) (ma_cons (mp_op op_addX add_s (mp_op op_addX add_s (mp_op op_addX add_s (mp_op op_mulX' mul_s (mp_var 2) (mp_var 9)) (mp_op op_mulX' mul_s (mp_var 3) (mp_var 8))) (mp_op op_mulX' mul_s (mp_var 4) (mp_var 7))) (mp_op op_mulX' mul_s (mp_var 5) (mp_var 6))) ma_nil)))))))))
theorem sc_mirror_of : FnScope ["exact", "a", "b", "c", "d"] ["exact"] (defScope s_mirror_of) := C8.fnScope_by (by decide +kernel)
theorem bd_mirror_of (c : Cx K mg base T) : Binds K (fdK K "mirror_of") ["exact"] [] := c.d_mirror_of.f.bindsN fun _ _ _ _ _ _ us hl => match us, hl with | [_], _ => rfl
theorem fn_mirror_of (c : Cx K mg base T) : FnOk P w K mg base (L2N.CX P w) 7 (He.ga K "mirror_of") (fdK K "mirror_of") ["exact"] (spI K T 1 (m_mirror_of (He.ga K))) := by
  refine fn_mkD (ps := ["exact"]) c.d_mirror_of sc_mirror_of fun cdv A outer s H E hcdv hr => ?_
  exact (ms_cons (ms_asg (mp_var 0) (mg_tup rfl (mgs_cons (mg_name 1 sc_mirror_of.nd) (mgs_cons (mg_name 2 sc_mirror_of.nd) (mgs_cons (mg_name 3 sc_mirror_of.nd) (mgs_cons (mg_name 4 sc_mirror_of.nd) mgs_nil)))))) (ms_one (ms_ret (mp_tup (ma_cons (mp_var 1) (ma_cons (mp_un un_neg neg_s (mp_var 4)) (ma_cons (mp_un un_neg neg_s (mp_var 3)) (ma_cons (mp_un un_neg neg_s (mp_var 2)) ma_nil))))))))
theorem sc_by_root : FnScope ["exact", "a", "b", "c", "d"] ["exact"] (defScope s_by_root) := C8.fnScope_by (by decide +kernel)
theorem bd_by_root (c : Cx K mg base T) : Binds K (fdK K "by_root") ["exact"] [] := c.d_by_root.f.bindsN fun _ _ _ _ _ _ us hl => match us, hl with | [_], _ => rfl
theorem fn_by_root (c : Cx K mg base T) : FnOk P w K mg base (L2N.CX P w) 7 (He.ga K "by_root") (fdK K "by_root") ["exact"] (spI K T 1 (m_by_root (He.ga K))) := by
  refine fn_mkD (ps := ["exact"]) c.d_by_root sc_by_root fun cdv A outer s H E hcdv hr => ?_
  exact (ms_cons (ms_asg (mp_var 0) (mg_tup rfl (mgs_cons (mg_name 1 sc_by_root.nd) (mgs_cons (mg_name 2 sc_by_root.nd) (mgs_cons (mg_name 3 sc_by_root.nd) (mgs_cons (mg_name 4 sc_by_root.nd) mgs_nil)))))) (ms_cons (ms_if (PW.pt (mw_or (mp_tst (mp_op op_mod mod_s (mp_op op_sub sub_s (mp_var 2) (mp_var 4)) mp_int)) (mw_or1 (mp_tst (mp_op op_mod mod_s (mp_op op_addX add_s (mp_var 1) (mp_var 3)) mp_int))))) (ms_one (ms_ret mp_non)) ms_nil) (ms_one (ms_ret (mp_tup (ma_cons (mp_op op_fdivW fdiv_s (mp_op op_sub sub_s (mp_var 2) (mp_var 4)) mp_int) (ma_cons (mp_op op_fdivW fdiv_s (mp_op op_addX add_s (mp_var 1) (mp_var 3)) mp_int) (ma_cons (mp_op op_fdivW fdiv_s (mp_op op_addX add_s (mp_var 2) (mp_var 4)) mp_int) (ma_cons (mp_op op_fdivW fdiv_s (mp_op op_sub sub_s (mp_var 3) (mp_var 1)) mp_int) ma_nil)))))))))
theorem sc_times_roots : FnScope ["exact", "many", "a", "b", "c", "d", "twos", "grown"] ["exact", "many"] (defScope s_times_roots) := C8.fnScope_by (by decide +kernel)
theorem bd_times_roots (c : Cx K mg base T) : Binds K (fdK K "times_roots") ["exact", "many"] [] := c.d_times_roots.f.bindsN fun _ _ _ _ _ _ us hl => match us, hl with | [_, _], _ => rfl
theorem fn_times_roots (c : Cx K mg base T) : FnOk P w K mg base (L2N.CX P w) 8 (He.ga K "times_roots") (fdK K "times_roots") ["exact", "many"] (spI K T 2 (m_times_roots (He.ga K))) := by
  refine fn_mkD (ps := ["exact", "many"]) c.d_times_roots sc_times_roots fun cdv A outer s H E hcdv hr => ?_
  exact (ms_cons (ms_asg (mp_var 0) (mg_tup rfl (mgs_cons (mg_name 2 sc_times_roots.nd) (mgs_cons (mg_name 3 sc_times_roots.nd) (mgs_cons (mg_name 4 sc_times_roots.nd) (mgs_cons (mg_name 5 sc_times_roots.nd) mgs_nil)))))) (ms_cons (ms_set 6 sc_times_roots.nd (mp_op op_fdivW fdiv_s (mp_var 1) mp_int)) (ms_cons (ms_set 7 sc_times_roots.nd (mp_tup (ma_cons (mp_op op_shlW shl_s (mp_var 2) (mp_var 6)) (ma_cons (mp_op op_shlW shl_s (mp_var 3) (mp_var 6)) (ma_cons (mp_op op_shlW shl_s (mp_var 4) (mp_var 6)) (ma_cons (mp_op op_shlW shl_s (mp_var 5) (mp_var 6)) ma_nil)))))) (ms_one (ms_ret (mp_if (mp_tst (mp_op op_mod mod_s (mp_var 1) mp_int)) (mp_call (fn_exact_product c) (hr.mono (by decide)) (by rfl) c.d_exact_product.g c.d_exact_product.f.kp (bd_exact_product c) (L2N.takes_of rfl rfl rfl rfl) (ma_cons (mp_var 7) (ma_cons (mp_constT (ns := [0, 1, 0, (-1)]) (by rfl) c.g_ROOT c.k_ROOT) ma_nil))) (mp_var 7)))))))
theorem sc_is_width_of : FnScope ["many", "thing"] ["many", "thing"] (defScope s_is_width_of) := C8.fnScope_by (by decide +kernel)
theorem bd_is_width_of (c : Cx K mg base T) : Binds K (fdK K "is_width_of") ["many", "thing"] [] := c.d_is_width_of.f.bindsN fun _ _ _ _ _ _ us hl => match us, hl with | [_, _], _ => rfl
theorem fn_is_width_of (c : Cx K mg base T) : FnOk P w K mg base (L2N.CX P w) 7 (He.ga K "is_width_of") (fdK K "is_width_of") ["many", "thing"] (spI K T 2 (m_is_width_of (He.ga K))) := by
  refine fn_mkD (ps := ["many", "thing"]) c.d_is_width_of sc_is_width_of fun cdv A outer s H E hcdv hr => ?_
  exact (ms_one (ms_ret (mp_and (mp_isi (C := "tuple") (by rfl) c.n_isinstance (by rfl) c.n_tuple (by rfl) (mp_var 1)) (mp_and (mp_cmp op_lt lt_s (mp_var 0) (mp_bits (mp_callB len_X len_s (by rfl) c.n_len (by rfl) (ma_cons (mp_var 1) ma_nil))) (nomark _)) (mp_one (mp_cmp (op_eqD hr.units) eq_s (mp_callB len_X len_s (by rfl) c.n_len (by rfl) (ma_cons (mp_var 1) ma_nil)) (mp_op op_shlW shl_s mp_int (mp_var 0)) (nomark _)))))))
theorem sc_is_row : FnScope ["ins", "thing", "part"] ["ins", "thing"] (defScope s_is_row) := C8.fnScope_by (by decide +kernel)
theorem bd_is_row (c : Cx K mg base T) : Binds K (fdK K "is_row") ["ins", "thing"] [] := c.d_is_row.f.bindsN fun _ _ _ _ _ _ us hl => match us, hl with | [_, _], _ => rfl
theorem fn_is_row (c : Cx K mg base T) : FnOk P w K mg base (L2N.CX P w) 15 (He.ga K "is_row") (fdK K "is_row") ["ins", "thing"] (spI K T 2 (m_is_row (He.ga K))) := by
  refine fn_mkD (ps := ["ins", "thing"]) c.d_is_row sc_is_row fun cdv A outer s H E hcdv hr => ?_
  obtain rfl := hcdv.symm.trans c.t_is_row.cd
  exact (ms_one (ms_ret (mp_and (mp_call (fn_is_width_of c) (hr.mono (by decide)) (by rfl) c.d_is_width_of.g c.d_is_width_of.f.kp (bd_is_width_of c) (L2N.takes_of rfl rfl rfl rfl) (ma_cons (mp_var 0) (ma_cons (mp_var 1) ma_nil))) (mp_one (mp_genall c.t_is_row.mem hr (by rfl) sc_is_row.nd (by rfl) c.n_all c.t_is_row.tb (by rfl) (blkOk_by (own := [("part", 2)]) (by rfl)) (by decide) rfl rfl (mi_val (mp_var 1)) (fun _ _ _ _ _ => (mg_name 2 sc_is_row.nd)) (fun _ _ _ _ _ => mts_nil) (fun _ _ _ _ _ => (mp_call (fn_is_exact c) (Room.gcx (hr.mono (by decide))) (by rfl) c.d_is_exact.g c.d_is_exact.f.kp (bd_is_exact c) takes00 (ma_cons (mp_var 2) ma_nil))))))))
theorem sc_is_rows : FnScope ["outs", "ins", "thing", "row"] ["outs", "ins", "thing"] (defScope s_is_rows) := C8.fnScope_by (by decide +kernel)
theorem bd_is_rows (c : Cx K mg base T) : Binds K (fdK K "is_rows") ["outs", "ins", "thing"] [] := c.d_is_rows.f.bindsN fun _ _ _ _ _ _ us hl => match us, hl with | [_, _, _], _ => rfl
theorem fn_is_rows (c : Cx K mg base T) : FnOk P w K mg base (L2N.CX P w) 19 (He.ga K "is_rows") (fdK K "is_rows") ["outs", "ins", "thing"] (spI K T 3 (m_is_rows (He.ga K))) := by
  refine fn_mkD (ps := ["outs", "ins", "thing"]) c.d_is_rows sc_is_rows fun cdv A outer s H E hcdv hr => ?_
  obtain rfl := hcdv.symm.trans c.t_is_rows.cd
  exact (ms_one (ms_ret (mp_and (mp_call (fn_is_width_of c) (hr.mono (by decide)) (by rfl) c.d_is_width_of.g c.d_is_width_of.f.kp (bd_is_width_of c) (L2N.takes_of rfl rfl rfl rfl) (ma_cons (mp_var 0) (ma_cons (mp_var 2) ma_nil))) (mp_one (mp_genall c.t_is_rows.mem hr (by rfl) sc_is_rows.nd (by rfl) c.n_all c.t_is_rows.tb (by rfl) (blkOk_by (own := [("row", 3)]) (by rfl)) (by decide) rfl rfl (mi_val (mp_var 2)) (fun _ _ _ _ _ => (mg_name 3 sc_is_rows.nd)) (fun _ _ _ _ _ => mts_nil) (fun _ _ _ _ _ => (mp_call (fn_is_row c) (Room.gcx (hr.mono (by decide))) (by rfl) c.d_is_row.g c.d_is_row.f.kp (bd_is_row c) takes00 (ma_cons (mp_var 1) (ma_cons (mp_var 3) ma_nil)))))))))
theorem sc_rows_by_root : FnScope ["rows", "lesser", "row", "parts", "exact", "part"] ["rows"] (defScope s_rows_by_root) := C8.fnScope_by (by decide +kernel)
theorem bd_rows_by_root (c : Cx K mg base T) : Binds K (fdK K "rows_by_root") ["rows"] [] := c.d_rows_by_root.f.bindsN fun _ _ _ _ _ _ us hl => match us, hl with | [_], _ => rfl
theorem fn_rows_by_root (c : Cx K mg base T) : FnOk P w K mg base (L2N.CX P w) 8 (He.ga K "rows_by_root") (fdK K "rows_by_root") ["rows"] (spI K T 1 (m_rows_by_root (He.ga K))) := by
  refine fn_mkD (ps := ["rows"]) c.d_rows_by_root sc_rows_by_root fun cdv A outer s H E hcdv hr => ?_
  exact (ms_cons (ms_set 1 sc_rows_by_root.nd (mp_lst ma_nil)) (ms_cons (ms_for (passes_of rfl) (by rfl) (mi_val (mp_var 0)) (mg_name 2 sc_rows_by_root.nd) (ms_cons (ms_set 3 sc_rows_by_root.nd (mp_lst ma_nil)) (ms_cons (ms_for (passes_of rfl) (by rfl) (mi_val (mp_var 2)) (mg_name 4 sc_rows_by_root.nd) (ms_cons (ms_set 5 sc_rows_by_root.nd (mp_call (fn_by_root c) (hr.mono (by decide)) (by rfl) c.d_by_root.g c.d_by_root.f.kp (bd_by_root c) (L2N.takes_of rfl rfl rfl rfl) (ma_cons (mp_var 4) ma_nil))) (ms_cons (ms_if (mp_tcmp op_isN isN_s (mp_var 5) mp_non (nomark _)) (ms_one (ms_ret mp_non)) ms_nil) (ms_one (ms_exp (mp_append (mp_var 3) (ma_cons (mp_var 5) ma_nil))))))) (ms_one (ms_exp (mp_append (mp_var 1) (ma_cons (mp_callTy tuple_X tuple_s (by rfl) c.n_tuple (by rfl) (ma_cons (mp_var 3) ma_nil)) ma_nil))))))) (ms_one (ms_ret (mp_var 1)))))
theorem sc_is_nought_rows : FnScope ["rows", "row", "exact"] ["rows"] (defScope s_is_nought_rows) := C8.fnScope_by (by decide +kernel)
theorem bd_is_nought_rows (c : Cx K mg base T) : Binds K (fdK K "is_nought_rows") ["rows"] [] := c.d_is_nought_rows.f.bindsN fun _ _ _ _ _ _ us hl => match us, hl with | [_], _ => rfl
theorem fn_is_nought_rows (c : Cx K mg base T) : FnOk P w K mg base (L2N.CX P w) 7 (He.ga K "is_nought_rows") (fdK K "is_nought_rows") ["rows"] (spI K T 1 (m_is_nought_rows (He.ga K))) := by
  refine fn_mkD (ps := ["rows"]) c.d_is_nought_rows sc_is_nought_rows fun cdv A outer s H E hcdv hr => ?_
  obtain rfl := hcdv.symm.trans c.t_is_nought_rows.cd
  exact (ms_one (ms_ret (mp_genall2 c.t_is_nought_rows.mem hr (by rfl) sc_is_nought_rows.nd (by rfl) c.n_all c.t_is_nought_rows.tb (by rfl) (blkOk_by (own := [("row", 1), ("exact", 2)]) (by rfl)) (by decide) rfl rfl (vs1 := [2]) (by decide) (mi_val (mp_var 0)) (fun _ _ _ _ _ => (mg_name 1 sc_is_nought_rows.nd)) (fun _ _ _ _ _ => mts_nil) (fun _ _ _ _ _ => (mi_val (mp_var 1))) (fun _ _ _ _ _ => (mg_name 2 sc_is_nought_rows.nd)) (fun _ _ _ _ _ => mts_nil) (fun _ _ _ _ _ => (mp_cmp (op_eqD (Room.gcx (k := 0) (hr.mono (by decide))).units) eq_s (mp_var 2) (mp_constT (ns := [0, 0, 0, 0]) (by rfl) c.g_NOUGHT c.k_NOUGHT) (nomark _))))))
theorem sc_is_table : FnScope ["thing", "outs", "ins", "power", "rows"] ["thing"] (defScope s_is_table) := C8.fnScope_by (by decide +kernel)
theorem bd_is_table (c : Cx K mg base T) : Binds K (fdK K "is_table") ["thing"] [] := c.d_is_table.f.bindsN fun _ _ _ _ _ _ us hl => match us, hl with | [_], _ => rfl
theorem fn_is_table (c : Cx K mg base T) : FnOk P w K mg base (L2N.CX P w) 20 (He.ga K "is_table") (fdK K "is_table") ["thing"] (spI K T 1 (m_is_table (He.ga K))) := by
  refine fn_mkD (ps := ["thing"]) c.d_is_table sc_is_table fun cdv A outer s H E hcdv hr => ?_
  exact (ms_cons (ms_if (mp_tnot (mp_tst (mp_call (fn_is_tuple_of c) (hr.mono (by decide)) (by rfl) c.d_is_tuple_of.g c.d_is_tuple_of.f.kp (bd_is_tuple_of c) (L2N.takes_of rfl rfl rfl rfl) (ma_cons mp_int (ma_cons (mp_var 0) ma_nil))))) (ms_one (ms_ret mp_bl)) ms_nil) (ms_cons (ms_asg (mp_var 0) (mg_tup rfl (mgs_cons (mg_name 1 sc_is_table.nd) (mgs_cons (mg_name 2 sc_is_table.nd) (mgs_cons (mg_name 3 sc_is_table.nd) (mgs_cons (mg_name 4 sc_is_table.nd) mgs_nil)))))) (ms_cons (ms_if (mp_tnot (PW.pt (mw_and (mp_tst (mp_call (fn_is_number c) (hr.mono (by decide)) (by rfl) c.d_is_number.g c.d_is_number.f.kp (bd_is_number c) (L2N.takes_of rfl rfl rfl rfl) (ma_cons (mp_var 1) ma_nil))) (mw_and (mp_tst (mp_call (fn_is_number c) (hr.mono (by decide)) (by rfl) c.d_is_number.g c.d_is_number.f.kp (bd_is_number c) (L2N.takes_of rfl rfl rfl rfl) (ma_cons (mp_var 2) ma_nil))) (mw_and (mp_tst (mp_call (fn_is_number c) (hr.mono (by decide)) (by rfl) c.d_is_number.g c.d_is_number.f.kp (bd_is_number c) (L2N.takes_of rfl rfl rfl rfl) (ma_cons (mp_var 3) ma_nil))) (mw_and1 (mp_tst (mp_call (fn_is_rows c) (hr.mono (by decide)) (by rfl) c.d_is_rows.g c.d_is_rows.f.kp (bd_is_rows c) (L2N.takes_of rfl rfl rfl rfl) (ma_cons (mp_var 1) (ma_cons (mp_var 2) (ma_cons (mp_var 4) ma_nil))))))))))) (ms_one (ms_ret mp_bl)) ms_nil) (ms_one (ms_ret (mp_or (mp_cmp (op_eqD hr.units) eq_s (mp_var 3) mp_int (nomark _)) (mp_one (mp_cmp op_isN isN_s (mp_call (fn_rows_by_root c) (hr.mono (by decide)) (by rfl) c.d_rows_by_root.g c.d_rows_by_root.f.kp (bd_rows_by_root c) (L2N.takes_of rfl rfl rfl rfl) (ma_cons (mp_var 4) ma_nil)) mp_non (nomark _)))))))))
theorem sc_one_form : FnScope ["outs", "ins", "power", "rows", "lesser", "row", "exact"] ["outs", "ins", "power", "rows"] (defScope s_one_form) := C8.fnScope_by (by decide +kernel)
theorem bd_one_form (c : Cx K mg base T) : Binds K (fdK K "one_form") ["outs", "ins", "power", "rows"] [] := c.d_one_form.f.bindsN fun _ _ _ _ _ _ us hl => match us, hl with | [_, _, _, _], _ => rfl
theorem fn_one_form (c : Cx K mg base T) : FnOk P w K mg base (L2N.CX P w) 9 (He.ga K "one_form") (fdK K "one_form") ["outs", "ins", "power", "rows"] (spI K T 4 (m_one_form (He.ga K))) := by
  refine fn_mkD (ps := ["outs", "ins", "power", "rows"]) c.d_one_form sc_one_form fun cdv A outer s H E hcdv hr => ?_
  obtain rfl := hcdv.symm.trans c.t_one_form.cd
  exact (ms_cons (ms_if (PW.pt (mw_and (mp_tcmp op_gt gt_s (mp_var 2) mp_int (nomark _)) (mw_and1 (mp_tst (mp_call (fn_is_nought_rows c) (hr.mono (by decide)) (by rfl) c.d_is_nought_rows.g c.d_is_nought_rows.f.kp (bd_is_nought_rows c) (L2N.takes_of rfl rfl rfl rfl) (ma_cons (mp_var 3) ma_nil)))))) (ms_one (ms_set 2 sc_one_form.nd mp_int)) ms_nil) (ms_cons (ms_while 1000000 (passes_of rfl) (mp_tcmp op_gt gt_s (mp_var 2) mp_int (nomark _)) (ms_cons (ms_set 4 sc_one_form.nd (mp_call (fn_rows_by_root c) (hr.mono (by decide)) (by rfl) c.d_rows_by_root.g c.d_rows_by_root.f.kp (bd_rows_by_root c) (L2N.takes_of rfl rfl rfl rfl) (ma_cons (mp_var 3) ma_nil))) (ms_cons (ms_if (mp_tcmp op_isN isN_s (mp_var 4) mp_non (nomark _)) (ms_one ms_brk) ms_nil) (ms_cons (ms_set 3 sc_one_form.nd (mp_var 4)) (ms_one (ms_aug 2 sc_one_form.nd mp_int ip_sub ipsub_s)))))) (ms_cons (ms_if (mp_tcmp op_lt lt_s (mp_var 2) mp_int (nomark _)) (ms_cons (ms_setLc 3 (by rfl) sc_one_form.nd (mi_val (mp_var 3)) (blkOk_by (own := [("row", 5)]) (by rfl)) (fun _ _ _ _ _ => (mg_name 5 sc_one_form.nd)) (fun _ _ _ _ _ => mts_nil) (fun _ _ _ _ _ => (mp_lc (by rfl) sc_one_form.nd (mi_val (mp_var 5)) (blkOk_by (own := [("exact", 6)]) (by rfl)) (fun _ _ _ _ _ => (mg_name 6 sc_one_form.nd)) (fun _ _ _ _ _ => mts_nil) (fun _ _ _ _ _ => (mp_call (fn_times_roots c) (hr.mono (by decide)) (by rfl) c.d_times_roots.g c.d_times_roots.f.kp (bd_times_roots c) takes00 (ma_cons (mp_var 6) (ma_cons (mp_un un_neg neg_s (mp_var 2)) ma_nil)))))) (sw_true rfl rfl (by decide) (by decide +kernel))) (ms_one (ms_set 2 sc_one_form.nd mp_int))) ms_nil) (ms_one (ms_ret (mp_tup (ma_cons (mp_var 0) (ma_cons (mp_var 1) (ma_cons (mp_var 2) (ma_cons (mp_gentup c.t_one_form.mem hr (by rfl) sc_one_form.nd (by rfl) c.n_tuple c.t_one_form.tb (by rfl) (blkOk_by (own := [("row", 5)]) (by rfl)) (by decide) rfl rfl (mi_val (mp_var 3)) (fun _ _ _ _ _ => (mg_name 5 sc_one_form.nd)) (fun _ _ _ _ _ => mts_nil) (fun _ _ _ _ _ => (mp_callTy tuple_X tuple_s (by rfl) c.n_tuple (by rfl) (ma_cons (mp_var 5) ma_nil)))) ma_nil))))))))))
theorem sc_chained_row : FnScope ["row", "lower", "sums", "exact", "entries", "so_far", "entry"] ["row", "lower"] (defScope s_chained_row) := C8.fnScope_by (by decide +kernel)
theorem bd_chained_row (c : Cx K mg base T) : Binds K (fdK K "chained_row") ["row", "lower"] [] := c.d_chained_row.f.bindsN fun _ _ _ _ _ _ us hl => match us, hl with | [_, _], _ => rfl
theorem fn_chained_row (c : Cx K mg base T) : FnOk P w K mg base (L2N.CX P w) 8 (He.ga K "chained_row") (fdK K "chained_row") ["row", "lower"] (spI K T 2 (m_chained_row (He.ga K))) := by
  refine fn_mkD (ps := ["row", "lower"]) c.d_chained_row sc_chained_row fun cdv A outer s H E hcdv hr => ?_
  exact (ms_cons (ms_set 2 sc_chained_row.nd (mp_op op_mulX' mul_s (mp_lst (ma_cons (mp_constT (ns := [0, 0, 0, 0]) (by rfl) c.g_NOUGHT c.k_NOUGHT) ma_nil)) (mp_callB len_X len_s (by rfl) c.n_len (by rfl) (ma_cons (mp_ix ix_X ix_s (mp_var 1) mp_int (fun _ _ => rfl)) ma_nil)))) (ms_cons (ms_for (passes_of rfl) (by rfl) (mi_zip (by rfl) c.n_zip (mp_var 0) (mp_var 1)) (mg_tup rfl (mgs_cons (mg_name 3 sc_chained_row.nd) (mgs_cons (mg_name 4 sc_chained_row.nd) mgs_nil))) (ms_one (ms_if (mp_tcmp (op_neD hr.units) ne_s (mp_var 3) (mp_constT (ns := [0, 0, 0, 0]) (by rfl) c.g_NOUGHT c.k_NOUGHT) (nomark _)) (ms_one (ms_setLc 2 (by rfl) sc_chained_row.nd (mi_zip (by rfl) c.n_zip (mp_var 2) (mp_var 4)) (blkOk_by (own := [("so_far", 5), ("entry", 6)]) (by rfl)) (fun _ _ _ _ _ => (mg_tup rfl (mgs_cons (mg_name 5 sc_chained_row.nd) (mgs_cons (mg_name 6 sc_chained_row.nd) mgs_nil)))) (fun _ _ _ _ _ => mts_nil) (fun _ _ _ _ _ => (mp_call (fn_exact_sum c) (hr.mono (by decide)) (by rfl) c.d_exact_sum.g c.d_exact_sum.f.kp (bd_exact_sum c) takes00 (ma_cons (mp_var 5) (ma_cons (mp_call (fn_exact_product c) (hr.mono (by decide)) (by rfl) c.d_exact_product.g c.d_exact_product.f.kp (bd_exact_product c) takes00 (ma_cons (mp_var 3) (ma_cons (mp_var 6) ma_nil))) ma_nil)))) (sw_true rfl rfl (by decide) (by decide +kernel)))) ms_nil))) (ms_one (ms_ret (mp_var 2)))))
theorem sc_chained : FnScope ["first", "second", "rows", "row"] ["first", "second"] (defScope s_chained) := C8.fnScope_by (by decide +kernel)
theorem bd_chained (c : Cx K mg base T) : Binds K (fdK K "chained") ["first", "second"] [] := c.d_chained.f.bindsN fun _ _ _ _ _ _ us hl => match us, hl with | [_, _], _ => rfl
theorem kb_chained_second_first (c : Cx K mg base T) : KB0 K (fdK K "chained") ["first", "second"] ["second", "first"] [1, 0] := c.d_chained.kb0 fun _ _ _ _ _ _ ws hl => match ws, hl with | [_, _], _ => ⟨rfl, rfl⟩
theorem fn_chained (c : Cx K mg base T) : FnOk P w K mg base (L2N.CX P w) 21 (He.ga K "chained") (fdK K "chained") ["first", "second"] (spI K T 2 (m_chained (He.ga K))) := by
  refine fn_mkD (ps := ["first", "second"]) c.d_chained sc_chained fun cdv A outer s H E hcdv hr => ?_
  exact (ms_cons (ms_exp (mp_call (fn_need c) (hr.mono (by decide)) (by rfl) c.d_need.g c.d_need.f.kp (bd_need c) (L2N.takes_of rfl rfl rfl rfl) (ma_cons (mp_and (mp_call (fn_is_table c) (hr.mono (by decide)) (by rfl) c.d_is_table.g c.d_is_table.f.kp (bd_is_table c) (L2N.takes_of rfl rfl rfl rfl) (ma_cons (mp_var 1) ma_nil)) (mp_one (mp_cmp (op_eqD hr.units) eq_s (mp_ix ix_X ix_s (mp_var 1) mp_int (fun _ _ => rfl)) (mp_ix ix_X ix_s (mp_var 0) mp_int (fun _ _ => rfl)) (nomark _)))) (ma_cons mp_str ma_nil)))) (ms_cons (ms_setLc 2 (by rfl) sc_chained.nd (mi_val (mp_ix ix_X ix_s (mp_var 1) mp_int (fun _ _ => rfl))) (blkOk_by (own := [("row", 3)]) (by rfl)) (fun _ _ _ _ _ => (mg_name 3 sc_chained.nd)) (fun _ _ _ _ _ => mts_nil) (fun _ _ _ _ _ => (mp_call (fn_chained_row c) (hr.mono (by decide)) (by rfl) c.d_chained_row.g c.d_chained_row.f.kp (bd_chained_row c) takes00 (ma_cons (mp_var 3) (ma_cons (mp_ix ix_X ix_s (mp_var 0) mp_int (fun _ _ => rfl)) ma_nil)))) (sw_true rfl rfl (by decide) (by decide +kernel))) (ms_one (ms_ret (mp_call (fn_one_form c) (hr.mono (by decide)) (by rfl) c.d_one_form.g c.d_one_form.f.kp (bd_one_form c) (L2N.takes_of rfl rfl rfl rfl) (ma_cons (mp_ix ix_X ix_s (mp_var 1) mp_int (fun _ _ => rfl)) (ma_cons (mp_ix ix_X ix_s (mp_var 0) mp_int (fun _ _ => rfl)) (ma_cons (mp_op op_addX add_s (mp_ix ix_X ix_s (mp_var 0) mp_int (fun _ _ => rfl)) (mp_ix ix_X ix_s (mp_var 1) mp_int (fun _ _ => rfl))) (ma_cons (mp_var 2) ma_nil)))))))))
theorem sc_side_by_side : FnScope ["low", "high", "rows", "high_row", "low_row", "other", "one"] ["low", "high"] (defScope s_side_by_side) := C8.fnScope_by (by decide +kernel)
theorem bd_side_by_side (c : Cx K mg base T) : Binds K (fdK K "side_by_side") ["low", "high"] [] := c.d_side_by_side.f.bindsN fun _ _ _ _ _ _ us hl => match us, hl with | [_, _], _ => rfl
theorem kb_side_by_side_high_low (c : Cx K mg base T) : KB0 K (fdK K "side_by_side") ["low", "high"] ["high", "low"] [1, 0] := c.d_side_by_side.kb0 fun _ _ _ _ _ _ ws hl => match ws, hl with | [_, _], _ => ⟨rfl, rfl⟩
theorem fn_side_by_side (c : Cx K mg base T) : FnOk P w K mg base (L2N.CX P w) 21 (He.ga K "side_by_side") (fdK K "side_by_side") ["low", "high"] (spI K T 2 (m_side_by_side (He.ga K))) := by
  refine fn_mkD (ps := ["low", "high"]) c.d_side_by_side sc_side_by_side fun cdv A outer s H E hcdv hr => ?_
  exact (ms_cons (ms_exp (mp_call (fn_need c) (hr.mono (by decide)) (by rfl) c.d_need.g c.d_need.f.kp (bd_need c) (L2N.takes_of rfl rfl rfl rfl) (ma_cons (mp_call (fn_is_table c) (hr.mono (by decide)) (by rfl) c.d_is_table.g c.d_is_table.f.kp (bd_is_table c) (L2N.takes_of rfl rfl rfl rfl) (ma_cons (mp_var 1) ma_nil)) (ma_cons mp_str ma_nil)))) (ms_cons (ms_set 2 sc_side_by_side.nd (mp_lst ma_nil)) (ms_cons (ms_for (passes_of rfl) (by rfl) (mi_val (mp_ix ix_X ix_s (mp_var 1) mp_int (fun _ _ => rfl))) (mg_name 3 sc_side_by_side.nd) (ms_one (ms_for (passes_of rfl) (by rfl) (mi_val (mp_ix ix_X ix_s (mp_var 0) mp_int (fun _ _ => rfl))) (mg_name 4 sc_side_by_side.nd) (ms_one (ms_exp (mp_append (mp_var 2) (ma_cons (mp_lc2 (by rfl) sc_side_by_side.nd (mi_val (mp_var 3)) (blkOk_by (own := [("other", 5), ("one", 6)]) (by rfl)) (vs1 := [6]) (by decide +kernel) (fun _ _ _ _ _ => (mg_name 5 sc_side_by_side.nd)) (fun _ _ _ _ _ => mts_nil) (fun _ _ _ _ _ => (mi_val (mp_var 4))) (fun _ _ _ _ _ => (mg_name 6 sc_side_by_side.nd)) (fun _ _ _ _ _ => mts_nil) (fun _ _ _ _ _ => (mp_call (fn_exact_product c) (hr.mono (by decide)) (by rfl) c.d_exact_product.g c.d_exact_product.f.kp (bd_exact_product c) takes00 (ma_cons (mp_var 6) (ma_cons (mp_var 5) ma_nil))))) ma_nil))))))) (ms_one (ms_ret (mp_call (fn_one_form c) (hr.mono (by decide)) (by rfl) c.d_one_form.g c.d_one_form.f.kp (bd_one_form c) (L2N.takes_of rfl rfl rfl rfl) (ma_cons (mp_op op_addX add_s (mp_ix ix_X ix_s (mp_var 0) mp_int (fun _ _ => rfl)) (mp_ix ix_X ix_s (mp_var 1) mp_int (fun _ _ => rfl))) (ma_cons (mp_op op_addX add_s (mp_ix ix_X ix_s (mp_var 0) mp_int (fun _ _ => rfl)) (mp_ix ix_X ix_s (mp_var 1) mp_int (fun _ _ => rfl))) (ma_cons (mp_op op_addX add_s (mp_ix ix_X ix_s (mp_var 0) mp_int (fun _ _ => rfl)) (mp_ix ix_X ix_s (mp_var 1) mp_int (fun _ _ => rfl))) (ma_cons (mp_var 2) ma_nil))))))))))
theorem sc_mirrored : FnScope ["table", "outs", "ins", "power", "rows", "turned_rows", "x", "row"] ["table"] (defScope s_mirrored) := C8.fnScope_by (by decide +kernel)
theorem bd_mirrored (c : Cx K mg base T) : Binds K (fdK K "mirrored") ["table"] [] := c.d_mirrored.f.bindsN fun _ _ _ _ _ _ us hl => match us, hl with | [_], _ => rfl
theorem kb_mirrored_table (c : Cx K mg base T) : KB0 K (fdK K "mirrored") ["table"] ["table"] [0] := c.d_mirrored.kb0 fun _ _ _ _ _ _ ws hl => match ws, hl with | [_], _ => ⟨rfl, rfl⟩
theorem fn_mirrored (c : Cx K mg base T) : FnOk P w K mg base (L2N.CX P w) 10 (He.ga K "mirrored") (fdK K "mirrored") ["table"] (spI K T 1 (m_mirrored (He.ga K))) := by
  refine fn_mkD (ps := ["table"]) c.d_mirrored sc_mirrored fun cdv A outer s H E hcdv hr => ?_
  exact (ms_cons (ms_asg (mp_var 0) (mg_tup rfl (mgs_cons (mg_name 1 sc_mirrored.nd) (mgs_cons (mg_name 2 sc_mirrored.nd) (mgs_cons (mg_name 3 sc_mirrored.nd) (mgs_cons (mg_name 4 sc_mirrored.nd) mgs_nil)))))) (ms_cons (ms_setLc 5 (by rfl) sc_mirrored.nd (mi_rng1 (by rfl) c.n_range (mp_op op_shlW shl_s mp_int (mp_var 2))) (blkOk_by (own := [("x", 6)]) (by rfl)) (fun _ _ _ _ _ => (mg_name 6 sc_mirrored.nd)) (fun _ _ _ _ _ => mts_nil) (fun _ _ _ _ _ => (mp_lc (by rfl) sc_mirrored.nd (mi_val (mp_var 4)) (blkOk_by (own := [("row", 7)]) (by rfl)) (fun _ _ _ _ _ => (mg_name 7 sc_mirrored.nd)) (fun _ _ _ _ _ => mts_nil) (fun _ _ _ _ _ => (mp_call (fn_mirror_of c) (hr.mono (by decide)) (by rfl) c.d_mirror_of.g c.d_mirror_of.f.kp (bd_mirror_of c) takes00 (ma_cons (mp_ix ix_X ix_s (mp_var 7) (mp_var 6) (fun _ _ => rfl)) ma_nil))))) (sw_true rfl rfl (by decide) (by decide +kernel))) (ms_one (ms_ret (mp_call (fn_one_form c) (hr.mono (by decide)) (by rfl) c.d_one_form.g c.d_one_form.f.kp (bd_one_form c) (L2N.takes_of rfl rfl rfl rfl) (ma_cons (mp_var 2) (ma_cons (mp_var 1) (ma_cons (mp_var 3) (ma_cons (mp_var 5) ma_nil)))))))))
theorem sc_rows_over : FnScope ["table", "power", "row", "exact"] ["table", "power"] (defScope s_rows_over) := C8.fnScope_by (by decide +kernel)
theorem bd_rows_over (c : Cx K mg base T) : Binds K (fdK K "rows_over") ["table", "power"] [] := c.d_rows_over.f.bindsN fun _ _ _ _ _ _ us hl => match us, hl with | [_, _], _ => rfl
theorem fn_rows_over (c : Cx K mg base T) : FnOk P w K mg base (L2N.CX P w) 9 (He.ga K "rows_over") (fdK K "rows_over") ["table", "power"] (spI K T 2 (m_rows_over (He.ga K))) := by
  refine fn_mkD (ps := ["table", "power"]) c.d_rows_over sc_rows_over fun cdv A outer s H E hcdv hr => ?_
  exact (ms_one (ms_ret (mp_lc (by rfl) sc_rows_over.nd (mi_val (mp_ix ix_X ix_s (mp_var 0) mp_int (fun _ _ => rfl))) (blkOk_by (own := [("row", 2)]) (by rfl)) (fun _ _ _ _ _ => (mg_name 2 sc_rows_over.nd)) (fun _ _ _ _ _ => mts_nil) (fun _ _ _ _ _ => (mp_lc (by rfl) sc_rows_over.nd (mi_val (mp_var 2)) (blkOk_by (own := [("exact", 3)]) (by rfl)) (fun _ _ _ _ _ => (mg_name 3 sc_rows_over.nd)) (fun _ _ _ _ _ => mts_nil) (fun _ _ _ _ _ => (mp_call (fn_times_roots c) (hr.mono (by decide)) (by rfl) c.d_times_roots.g c.d_times_roots.f.kp (bd_times_roots c) takes00 (ma_cons (mp_var 3) (ma_cons (mp_op op_sub sub_s (mp_var 1) (mp_ix ix_X ix_s (mp_var 0) mp_int (fun _ _ => rfl))) ma_nil)))))))))
theorem sc_added : FnScope ["one", "other", "power", "rows", "row", "other_row", "exact", "other_exact"] ["one", "other"] (defScope s_added) := C8.fnScope_by (by decide +kernel)
theorem bd_added (c : Cx K mg base T) : Binds K (fdK K "added") ["one", "other"] [] := c.d_added.f.bindsN fun _ _ _ _ _ _ us hl => match us, hl with | [_, _], _ => rfl
theorem kb_added_other_one (c : Cx K mg base T) : KB0 K (fdK K "added") ["one", "other"] ["other", "one"] [1, 0] := c.d_added.kb0 fun _ _ _ _ _ _ ws hl => match ws, hl with | [_, _], _ => ⟨rfl, rfl⟩
theorem fn_added (c : Cx K mg base T) : FnOk P w K mg base (L2N.CX P w) 21 (He.ga K "added") (fdK K "added") ["one", "other"] (spI K T 2 (m_added (He.ga K))) := by
  refine fn_mkD (ps := ["one", "other"]) c.d_added sc_added fun cdv A outer s H E hcdv hr => ?_
  exact (ms_cons (ms_exp (mp_call (fn_need c) (hr.mono (by decide)) (by rfl) c.d_need.g c.d_need.f.kp (bd_need c) (L2N.takes_of rfl rfl rfl rfl) (ma_cons (mp_and (mp_call (fn_is_table c) (hr.mono (by decide)) (by rfl) c.d_is_table.g c.d_is_table.f.kp (bd_is_table c) (L2N.takes_of rfl rfl rfl rfl) (ma_cons (mp_var 1) ma_nil)) (mp_one (mp_cmp (op_eqD hr.units) eq_s (mp_slice (mp_var 1) mo_none (mo_some mp_int)) (mp_slice (mp_var 0) mo_none (mo_some mp_int)) (nomark _)))) (ma_cons mp_str ma_nil)))) (ms_cons (ms_set 2 sc_added.nd (mp_callB (max_X (by rfl)) max_s (by rfl) c.n_max (by rfl) (ma_cons (mp_ix ix_X ix_s (mp_var 0) mp_int (fun _ _ => rfl)) (ma_cons (mp_ix ix_X ix_s (mp_var 1) mp_int (fun _ _ => rfl)) ma_nil)))) (ms_cons (ms_set 3 sc_added.nd (mp_lst ma_nil)) (ms_cons (ms_for (passes_of rfl) (by rfl) (mi_zip (by rfl) c.n_zip (mp_call (fn_rows_over c) (hr.mono (by decide)) (by rfl) c.d_rows_over.g c.d_rows_over.f.kp (bd_rows_over c) (L2N.takes_of rfl rfl rfl rfl) (ma_cons (mp_var 0) (ma_cons (mp_var 2) ma_nil))) (mp_call (fn_rows_over c) (hr.mono (by decide)) (by rfl) c.d_rows_over.g c.d_rows_over.f.kp (bd_rows_over c) (L2N.takes_of rfl rfl rfl rfl) (ma_cons (mp_var 1) (ma_cons (mp_var 2) ma_nil)))) (mg_tup rfl (mgs_cons (mg_name 4 sc_added.nd) (mgs_cons (mg_name 5 sc_added.nd) mgs_nil))) (ms_one (ms_exp (mp_append (mp_var 3) (ma_cons (mp_lc (by rfl) sc_added.nd (mi_zip (by rfl) c.n_zip (mp_var 4) (mp_var 5)) (blkOk_by (own := [("exact", 6), ("other_exact", 7)]) (by rfl)) (fun _ _ _ _ _ => (mg_tup rfl (mgs_cons (mg_name 6 sc_added.nd) (mgs_cons (mg_name 7 sc_added.nd) mgs_nil)))) (fun _ _ _ _ _ => mts_nil) (fun _ _ _ _ _ => (mp_call (fn_exact_sum c) (hr.mono (by decide)) (by rfl) c.d_exact_sum.g c.d_exact_sum.f.kp (bd_exact_sum c) takes00 (ma_cons (mp_var 6) (ma_cons (mp_var 7) ma_nil))))) ma_nil))))) (ms_one (ms_ret (mp_call (fn_one_form c) (hr.mono (by decide)) (by rfl) c.d_one_form.g c.d_one_form.f.kp (bd_one_form c) (L2N.takes_of rfl rfl rfl rfl) (ma_cons (mp_ix ix_X ix_s (mp_var 0) mp_int (fun _ _ => rfl)) (ma_cons (mp_ix ix_X ix_s (mp_var 0) mp_int (fun _ _ => rfl)) (ma_cons (mp_var 2) (ma_cons (mp_var 3) ma_nil)))))))))))
theorem sc__law_start : FnScope ["script", "cell", "cells", "mixed"] ["script"] (defScope s__law_start) := C8.fnScope_by (by decide +kernel)
theorem bd__law_start (c : Cx K mg base T) : Binds K (fdK K "_law_start") ["script"] [] := c.d__law_start.f.bindsN fun _ _ _ _ _ _ us hl => match us, hl with | [_], _ => rfl
theorem fn__law_start (c : Cx K mg base T) : FnOk P w K mg base (L2N.CX P w) 7 (He.ga K "_law_start") (fdK K "_law_start") ["script"] (spI K T 1 (m__law_start (He.ga K))) := by
  refine fn_mkD (ps := ["script"]) c.d__law_start sc__law_start fun cdv A outer s H E hcdv hr => ?_
  exact (ms_cons (ms_setLc 2 (by rfl) sc__law_start.nd (mi_val (mp_var 0)) (blkOk_by (own := [("cell", 1)]) (by rfl)) (fun _ _ _ _ _ => (mg_name 1 sc__law_start.nd)) (fun _ _ _ _ _ => mts_nil) (fun _ _ _ _ _ => (mp_callTy call_int1 int_s (by rfl) c.n_int (by rfl) (ma_cons (mp_var 1) ma_nil))) (sw_true rfl rfl (by decide) (by decide +kernel))) (ms_cons (ms_set 3 sc__law_start.nd mp_int) (ms_cons (ms_for (passes_of rfl) (by rfl) (mi_val (mp_var 2)) (mg_name 1 sc__law_start.nd) (ms_one (ms_set 3 sc__law_start.nd (mp_op op_mod mod_s (mp_callTy call_int1 int_s (by rfl) c.n_int (by rfl) (ma_cons (mp_op op_addX add_s (mp_op op_addX add_s (mp_op op_mulX' mul_s (mp_var 3) mp_int) (mp_op op_mulX' mul_s (mp_var 1) mp_int)) mp_int) ma_nil)) mp_int)))) (ms_one (ms_ret (mp_lst (ma_cons (mp_var 2) (ma_cons mp_int (ma_cons mp_int (ma_cons (mp_var 3) ma_nil))))))))))
theorem sc__law_draw : FnScope ["tape", "size", "cell", "found"] ["tape", "size"] (defScope s__law_draw) := C8.fnScope_by (by decide +kernel)
theorem bd__law_draw (c : Cx K mg base T) : Binds K (fdK K "_law_draw") ["tape", "size"] [] := c.d__law_draw.f.bindsN fun _ _ _ _ _ _ us hl => match us, hl with | [_, _], _ => rfl
theorem fn__law_draw (c : Cx K mg base T) : FnOk P w K mg base (L2N.CX P w) 7 (He.ga K "_law_draw") (fdK K "_law_draw") ["tape", "size"] (spI K T 2 (m__law_draw (He.ga K))) := by
  refine fn_mkD (ps := ["tape", "size"]) c.d__law_draw sc__law_draw fun cdv A outer s H E hcdv hr => ?_
  exact (ms_cons (ms_while 1000000 (passes_of rfl) (PW.pt (mw_and (mp_tcmp (op_eqD hr.units) eq_s (mp_ix ix_X ix_s (mp_var 0) mp_int (fun _ _ => rfl)) mp_int (nomark _)) (mw_and1 (mp_tcmp op_lt lt_s (mp_ix ix_X ix_s (mp_var 0) mp_int (fun _ _ => rfl)) (mp_callB len_X len_s (by rfl) c.n_len (by rfl) (ma_cons (mp_ix ix_X ix_s (mp_var 0) mp_int (fun _ _ => rfl)) ma_nil)) (nomark _))))) (ms_cons (ms_set 2 sc__law_draw.nd (mp_ix ix_X ix_s (mp_ix ix_X ix_s (mp_var 0) mp_int (fun _ _ => rfl)) (mp_ix ix_X ix_s (mp_var 0) mp_int (fun _ _ => rfl)) (fun _ _ => rfl))) (ms_cons (ms_sub (mp_var 0) mp_int (mp_op op_addX add_s (mp_ix ix_X ix_s (mp_var 0) mp_int (fun _ _ => rfl)) mp_int)) (ms_one (ms_if (mp_tcmp op_ge ge_s (mp_callB call_abs abs_s (by rfl) c.n_abs (by rfl) (ma_cons (mp_var 2) ma_nil)) (mp_op op_pow pow_s mp_int mp_int) (nomark _)) (ms_one (ms_sub (mp_var 0) mp_int (mp_op op_addX add_s (mp_op op_mulX' mul_s mp_int (mp_callB call_abs abs_s (by rfl) c.n_abs (by rfl) (ma_cons (mp_var 2) ma_nil))) (mp_callTy call_int1 int_s (by rfl) c.n_int (by rfl) (ma_cons (mp_cmp op_lt lt_s (mp_var 2) mp_int (nomark _)) ma_nil))))) ms_nil))))) (ms_cons (ms_if (mp_tcmp op_gt gt_s (mp_ix ix_X ix_s (mp_var 0) mp_int (fun _ _ => rfl)) mp_int (nomark _)) (ms_cons (ms_set 3 sc__law_draw.nd (mp_op op_mod mod_s (mp_callTy call_int1 int_s (by rfl) c.n_int (by rfl) (ma_cons (mp_ix ix_X ix_s (mp_var 0) mp_int (fun _ _ => rfl)) ma_nil)) (mp_var 1))) (ms_cons (ms_sub (mp_var 0) mp_int (mp_op op_fdivW fdiv_s (mp_ix ix_X ix_s (mp_var 0) mp_int (fun _ _ => rfl)) (mp_var 1))) (ms_one (ms_ret (mp_var 3))))) ms_nil) (ms_cons (ms_sub (mp_var 0) mp_int (mp_op op_mod mod_s (mp_callTy call_int1 int_s (by rfl) c.n_int (by rfl) (ma_cons (mp_op op_addX add_s (mp_op op_mulX' mul_s (mp_ix ix_X ix_s (mp_var 0) mp_int (fun _ _ => rfl)) mp_int) mp_int) ma_nil)) mp_int)) (ms_one (ms_ret (mp_op op_mod mod_s (mp_callTy call_int1 int_s (by rfl) c.n_int (by rfl) (ma_cons (mp_op op_fdivW fdiv_s (mp_ix ix_X ix_s (mp_var 0) mp_int (fun _ _ => rfl)) mp_int) ma_nil)) (mp_var 1)))))))
theorem sc__law_signed : FnScope ["tape", "top"] ["tape", "top"] (defScope s__law_signed) := C8.fnScope_by (by decide +kernel)
theorem bd__law_signed (c : Cx K mg base T) : Binds K (fdK K "_law_signed") ["tape", "top"] [] := c.d__law_signed.f.bindsN fun _ _ _ _ _ _ us hl => match us, hl with | [_, _], _ => rfl
theorem fn__law_signed (c : Cx K mg base T) : FnOk P w K mg base (L2N.CX P w) 8 (He.ga K "_law_signed") (fdK K "_law_signed") ["tape", "top"] (spI K T 2 (m__law_signed (He.ga K))) := by
  refine fn_mkD (ps := ["tape", "top"]) c.d__law_signed sc__law_signed fun cdv A outer s H E hcdv hr => ?_
  exact (ms_one (ms_ret (mp_op op_sub sub_s (mp_call (fn__law_draw c) (hr.mono (by decide)) (by rfl) c.d__law_draw.g c.d__law_draw.f.kp (bd__law_draw c) (L2N.takes_of rfl rfl rfl rfl) (ma_cons (mp_var 0) (ma_cons (mp_op op_addX add_s (mp_op op_mulX' mul_s mp_int (mp_var 1)) mp_int) ma_nil))) (mp_var 1))))
theorem sc__law_value : FnScope ["quad"] ["quad"] (defScope s__law_value) := C8.fnScope_by (by decide +kernel)
theorem bd__law_value (c : Cx K mg base T) : Binds K (fdK K "_law_value") ["quad"] [] := c.d__law_value.f.bindsN fun _ _ _ _ _ _ us hl => match us, hl with | [_], _ => rfl
theorem fn__law_value (c : Cx K mg base T) : FnOk P w K mg base (L2N.CX P w) 7 (He.ga K "_law_value") (fdK K "_law_value") ["quad"] (spI K T 1 (m__law_value (He.ga K))) := by
  refine fn_mkD (ps := ["quad"]) c.d__law_value sc__law_value fun cdv A outer s H E hcdv hr => ?_
  exact (ms_one (ms_ret (mp_op op_addX add_s (mp_op op_mulX' mul_s (mp_op op_addX add_s (mp_op op_mulX' mul_s (mp_op op_addX add_s (mp_op op_mulX' mul_s (mp_ix ix_X ix_s (mp_var 0) mp_int (fun _ _ => rfl)) (mp_op op_shlW shl_s mp_int mp_int)) (mp_ix ix_X ix_s (mp_var 0) mp_int (fun _ _ => rfl))) (mp_op op_shlW shl_s mp_int mp_int)) (mp_ix ix_X ix_s (mp_var 0) mp_int (fun _ _ => rfl))) (mp_op op_shlW shl_s mp_int mp_int)) (mp_ix ix_X ix_s (mp_var 0) mp_int (fun _ _ => rfl)))))
theorem sc__law_root : FnScope ["steps", "found"] ["steps"] (defScope s__law_root) := C8.fnScope_by (by decide +kernel)
theorem bd__law_root (c : Cx K mg base T) : Binds K (fdK K "_law_root") ["steps"] [] := c.d__law_root.f.bindsN fun _ _ _ _ _ _ us hl => match us, hl with | [_], _ => rfl
theorem fn__law_root (c : Cx K mg base T) : FnOk P w K mg base (L2N.CX P w) 7 (He.ga K "_law_root") (fdK K "_law_root") ["steps"] (spI K T 1 (m__law_root (He.ga K))) := by
  refine fn_mkD (ps := ["steps"]) c.d__law_root sc__law_root fun cdv A outer s H E hcdv hr => ?_
  exact (ms_cons (ms_set 1 sc__law_root.nd (mp_op op_shlW shl_s mp_int (mp_op op_fdivW fdiv_s (mp_var 0) mp_int))) (ms_cons (ms_if (mp_tcmp (op_eqD hr.units) eq_s (mp_op op_mod mod_s (mp_callTy call_int1 int_s (by rfl) c.n_int (by rfl) (ma_cons (mp_var 0) ma_nil)) mp_int) mp_int (nomark _)) (ms_one (ms_set 1 sc__law_root.nd (mp_op op_mulX' mul_s (mp_var 1) (mp_op op_sub sub_s (mp_op op_shlW shl_s mp_int mp_int) (mp_op op_shlW shl_s mp_int mp_int))))) ms_nil) (ms_one (ms_ret (mp_var 1)))))
theorem sc__law_has_r : FnScope ["quad"] ["quad"] (defScope s__law_has_r) := C8.fnScope_by (by decide +kernel)
theorem bd__law_has_r (c : Cx K mg base T) : Binds K (fdK K "_law_has_r") ["quad"] [] := c.d__law_has_r.f.bindsN fun _ _ _ _ _ _ us hl => match us, hl with | [_], _ => rfl
theorem fn__law_has_r (c : Cx K mg base T) : FnOk P w K mg base (L2N.CX P w) 7 (He.ga K "_law_has_r") (fdK K "_law_has_r") ["quad"] (spI K T 1 (m__law_has_r (He.ga K))) := by
  refine fn_mkD (ps := ["quad"]) c.d__law_has_r sc__law_has_r fun cdv A outer s H E hcdv hr => ?_
  exact (ms_one (ms_ret (mp_and (mp_cmp (op_eqD hr.units) eq_s (mp_op op_mod mod_s (mp_callTy call_int1 int_s (by rfl) c.n_int (by rfl) (ma_cons (mp_op op_addX add_s (mp_ix ix_X ix_s (mp_var 0) mp_int (fun _ _ => rfl)) (mp_ix ix_X ix_s (mp_var 0) mp_int (fun _ _ => rfl))) ma_nil)) mp_int) mp_int (nomark _)) (mp_one (mp_cmp (op_eqD hr.units) eq_s (mp_op op_mod mod_s (mp_callTy call_int1 int_s (by rfl) c.n_int (by rfl) (ma_cons (mp_op op_addX add_s (mp_ix ix_X ix_s (mp_var 0) mp_int (fun _ _ => rfl)) (mp_ix ix_X ix_s (mp_var 0) mp_int (fun _ _ => rfl))) ma_nil)) mp_int) mp_int (nomark _))))))
theorem sc__law_formed : FnScope ["tall", "wide", "height", "lines", "line", "bent", "quad", "q"] ["tall", "wide", "height", "lines"] (defScope s__law_formed) := C8.fnScope_by (by decide +kernel)
theorem bd__law_formed (c : Cx K mg base T) : Binds K (fdK K "_law_formed") ["tall", "wide", "height", "lines"] [] := c.d__law_formed.f.bindsN fun _ _ _ _ _ _ us hl => match us, hl with | [_, _, _, _], _ => rfl
theorem fn__law_formed (c : Cx K mg base T) : FnOk P w K mg base (L2N.CX P w) 8 (He.ga K "_law_formed") (fdK K "_law_formed") ["tall", "wide", "height", "lines"] (spI K T 4 (m__law_formed (He.ga K))) := by
  refine fn_mkD (ps := ["tall", "wide", "height", "lines"]) c.d__law_formed sc__law_formed fun cdv A outer s H E hcdv hr => ?_
  exact (ms_cons (ms_while 1000000 (passes_of rfl) (PW.pt (mw_and (mp_tcmp op_gt gt_s (mp_var 2) mp_int (nomark _)) (mw_and1 (mp_tst (mp_callB (cr_all (by rfl)) all_s (by rfl) c.n_all (by rfl) (ma_cons (mp_lc (by rfl) sc__law_formed.nd (mi_val (mp_var 3)) (blkOk_by (own := [("line", 4)]) (by rfl)) (fun _ _ _ _ _ => (mg_name 4 sc__law_formed.nd)) (fun _ _ _ _ _ => mts_nil) (fun _ _ _ _ _ => (mp_callB (cr_all (by rfl)) all_s (by rfl) c.n_all (by rfl) (ma_cons (mp_lc (by rfl) sc__law_formed.nd (mi_val (mp_var 4)) (blkOk_by (own := [("quad", 6)]) (by rfl)) (fun _ _ _ _ _ => (mg_name 6 sc__law_formed.nd)) (fun _ _ _ _ _ => mts_nil) (fun _ _ _ _ _ => (mp_call (fn__law_has_r c) (hr.mono (by decide)) (by rfl) c.d__law_has_r.g c.d__law_has_r.f.kp (bd__law_has_r c) takes00 (ma_cons (mp_var 6) ma_nil)))) ma_nil)))) ma_nil)))))) (ms_cons (ms_set 5 sc__law_formed.nd (mp_lst ma_nil)) (ms_cons (ms_for (passes_of rfl) (by rfl) (mi_val (mp_var 3)) (mg_name 4 sc__law_formed.nd) (ms_one (ms_exp (mp_append (mp_var 5) (ma_cons (mp_callTy tuple_X tuple_s (by rfl) c.n_tuple (by rfl) (ma_cons (mp_lc (by rfl) sc__law_formed.nd (mi_val (mp_var 4)) (blkOk_by (own := [("q", 7)]) (by rfl)) (fun _ _ _ _ _ => (mg_name 7 sc__law_formed.nd)) (fun _ _ _ _ _ => mts_nil) (fun _ _ _ _ _ => (mp_tup (ma_cons (mp_op op_fdivW fdiv_s (mp_op op_sub sub_s (mp_ix ix_X ix_s (mp_var 7) mp_int (fun _ _ => rfl)) (mp_ix ix_X ix_s (mp_var 7) mp_int (fun _ _ => rfl))) mp_int) (ma_cons (mp_op op_fdivW fdiv_s (mp_op op_addX add_s (mp_ix ix_X ix_s (mp_var 7) mp_int (fun _ _ => rfl)) (mp_ix ix_X ix_s (mp_var 7) mp_int (fun _ _ => rfl))) mp_int) (ma_cons (mp_op op_fdivW fdiv_s (mp_op op_addX add_s (mp_ix ix_X ix_s (mp_var 7) mp_int (fun _ _ => rfl)) (mp_ix ix_X ix_s (mp_var 7) mp_int (fun _ _ => rfl))) mp_int) (ma_cons (mp_op op_fdivW fdiv_s (mp_op op_sub sub_s (mp_ix ix_X ix_s (mp_var 7) mp_int (fun _ _ => rfl)) (mp_ix ix_X ix_s (mp_var 7) mp_int (fun _ _ => rfl))) mp_int) ma_nil))))))) ma_nil)) ma_nil))))) (ms_cons (ms_set 3 sc__law_formed.nd (mp_callTy tuple_X tuple_s (by rfl) c.n_tuple (by rfl) (ma_cons (mp_var 5) ma_nil))) (ms_one (ms_set 2 sc__law_formed.nd (mp_op op_sub sub_s (mp_var 2) mp_int))))))) (ms_one (ms_ret (mp_tup (ma_cons (mp_var 0) (ma_cons (mp_var 1) (ma_cons (mp_var 2) (ma_cons (mp_var 3) ma_nil))))))))
theorem sc__law_table : FnScope ["item", "tall", "wide", "free", "line", "quad", "cell"] ["item", "tall", "wide"] (defScope s__law_table) := C8.fnScope_by (by decide +kernel)
theorem bd__law_table (c : Cx K mg base T) : Binds K (fdK K "_law_table") ["item", "tall", "wide"] [] := c.d__law_table.f.bindsN fun _ _ _ _ _ _ us hl => match us, hl with | [_, _, _], _ => rfl
theorem fn__law_table (c : Cx K mg base T) : FnOk P w K mg base (L2N.CX P w) 21 (He.ga K "_law_table") (fdK K "_law_table") ["item", "tall", "wide"] (spI K T 3 (m__law_table (He.ga K))) := by
  refine fn_mkD (ps := ["item", "tall", "wide"]) c.d__law_table sc__law_table fun cdv A outer s H E hcdv hr => ?_
  exact (ms_cons (ms_if (PW.pt (mw_or (mp_tnot (mp_tst (mp_isi (C := "tuple") (by rfl) c.n_isinstance (by rfl) c.n_tuple (by rfl) (mp_var 0)))) (mw_or (mp_tcmp (op_neD hr.units) ne_s (mp_callB len_X len_s (by rfl) c.n_len (by rfl) (ma_cons (mp_var 0) ma_nil)) mp_int (nomark _)) (mw_or1 (mp_tnot (mp_tst (mp_call (fn__law_same c 12) (hr.mono (by decide)) (by rfl) c.d__law_same.g c.d__law_same.f.kp (bd__law_same c) (L2N.takes_of rfl rfl rfl rfl) (ma_cons (mp_slice (mp_var 0) mo_none (mo_some mp_int)) (ma_cons (mp_tup (ma_cons (mp_var 1) (ma_cons (mp_var 2) ma_nil))) ma_nil))))))))) (ms_one (ms_ret mp_bl)) ms_nil) (ms_cons (ms_if (PW.pt (mw_or (mp_tnot (mp_tst (mp_call (fn__law_whole c) (hr.mono (by decide)) (by rfl) c.d__law_whole.g c.d__law_whole.f.kp (bd__law_whole c) (L2N.takes_of rfl rfl rfl rfl) (ma_cons (mp_ix ix_X ix_s (mp_var 0) mp_int (fun _ _ => rfl)) ma_nil)))) (mw_or (mp_tcmp op_lt lt_s (mp_ix ix_X ix_s (mp_var 0) mp_int (fun _ _ => rfl)) mp_int (nomark _)) (mw_or (mp_tcmp op_gt gt_s (mp_ix ix_X ix_s (mp_var 0) mp_int (fun _ _ => rfl)) mp_int (nomark _)) (mw_or (mp_tnot (mp_tst (mp_isi (C := "tuple") (by rfl) c.n_isinstance (by rfl) c.n_tuple (by rfl) (mp_ix ix_X ix_s (mp_var 0) mp_int (fun _ _ => rfl))))) (mw_or1 (mp_tcmp (op_neD hr.units) ne_s (mp_callB len_X len_s (by rfl) c.n_len (by rfl) (ma_cons (mp_ix ix_X ix_s (mp_var 0) mp_int (fun _ _ => rfl)) ma_nil)) (mp_op op_shlW shl_s mp_int (mp_var 1)) (nomark _)))))))) (ms_one (ms_ret mp_bl)) ms_nil) (ms_cons (ms_set 3 sc__law_table.nd (mp_cmp (op_eqD hr.units) eq_s (mp_ix ix_X ix_s (mp_var 0) mp_int (fun _ _ => rfl)) mp_int (nomark _))) (ms_cons (ms_for (passes_of rfl) (by rfl) (mi_val (mp_ix ix_X ix_s (mp_var 0) mp_int (fun _ _ => rfl))) (mg_name 4 sc__law_table.nd) (ms_cons (ms_if (PW.pt (mw_or (mp_tnot (mp_tst (mp_isi (C := "tuple") (by rfl) c.n_isinstance (by rfl) c.n_tuple (by rfl) (mp_var 4)))) (mw_or1 (mp_tcmp (op_neD hr.units) ne_s (mp_callB len_X len_s (by rfl) c.n_len (by rfl) (ma_cons (mp_var 4) ma_nil)) (mp_op op_shlW shl_s mp_int (mp_var 2)) (nomark _))))) (ms_one (ms_ret mp_bl)) ms_nil) (ms_one (ms_for (passes_of rfl) (by rfl) (mi_val (mp_var 4)) (mg_name 5 sc__law_table.nd) (ms_cons (ms_if (PW.pt (mw_or (mp_tnot (mp_tst (mp_isi (C := "tuple") (by rfl) c.n_isinstance (by rfl) c.n_tuple (by rfl) (mp_var 5)))) (mw_or (mp_tcmp (op_neD hr.units) ne_s (mp_callB len_X len_s (by rfl) c.n_len (by rfl) (ma_cons (mp_var 5) ma_nil)) mp_int (nomark _)) (mw_or1 (mp_tnot (mp_tst (mp_callB (cr_all (by rfl)) all_s (by rfl) c.n_all (by rfl) (ma_cons (mp_lc (by rfl) sc__law_table.nd (mi_val (mp_var 5)) (blkOk_by (own := [("cell", 6)]) (by rfl)) (fun _ _ _ _ _ => (mg_name 6 sc__law_table.nd)) (fun _ _ _ _ _ => mts_nil) (fun _ _ _ _ _ => (mp_and (mp_call (fn__law_whole c) (hr.mono (by decide)) (by rfl) c.d__law_whole.g c.d__law_whole.f.kp (bd__law_whole c) takes00 (ma_cons (mp_var 6) ma_nil)) (mp_one (mp_cmp op_lt lt_s (mp_callB call_abs abs_s (by rfl) c.n_abs (by rfl) (ma_cons (mp_var 6) ma_nil)) (mp_op op_shlW shl_s mp_int mp_int) (nomark _)))))) ma_nil)))))))) (ms_one (ms_ret mp_bl)) ms_nil) (ms_one (ms_set 3 sc__law_table.nd (mp_or (mp_var 3) (mp_one (mp_not (mp_call (fn__law_has_r c) (hr.mono (by decide)) (by rfl) c.d__law_has_r.g c.d__law_has_r.f.kp (bd__law_has_r c) (L2N.takes_of rfl rfl rfl rfl) (ma_cons (mp_var 5) ma_nil)))))))))))) (ms_one (ms_ret (mp_var 3)))))))
theorem sc__law_unit : FnScope ["at", "place"] ["at"] (defScope s__law_unit) := C8.fnScope_by (by decide +kernel)
theorem bd__law_unit (c : Cx K mg base T) : Binds K (fdK K "_law_unit") ["at"] [] := c.d__law_unit.f.bindsN fun _ _ _ _ _ _ us hl => match us, hl with | [_], _ => rfl
theorem fn__law_unit (c : Cx K mg base T) : FnOk P w K mg base (L2N.CX P w) 7 (He.ga K "_law_unit") (fdK K "_law_unit") ["at"] (spI K T 1 (m__law_unit (He.ga K))) := by
  refine fn_mkD (ps := ["at"]) c.d__law_unit sc__law_unit fun cdv A outer s H E hcdv hr => ?_
  exact (ms_one (ms_ret (mp_callTy tuple_X tuple_s (by rfl) c.n_tuple (by rfl) (ma_cons (mp_lc (by rfl) sc__law_unit.nd (mi_rng1 (by rfl) c.n_range mp_int) (blkOk_by (own := [("place", 1)]) (by rfl)) (fun _ _ _ _ _ => (mg_name 1 sc__law_unit.nd)) (fun _ _ _ _ _ => mts_nil) (fun _ _ _ _ _ => (mp_op op_mulX' mul_s (mp_op op_sub sub_s mp_int (mp_op op_mulX' mul_s mp_int (mp_op op_fdivW fdiv_s (mp_var 0) mp_int))) (mp_callTy call_int1 int_s (by rfl) c.n_int (by rfl) (ma_cons (mp_cmp (op_eqD hr.units) eq_s (mp_op op_mod mod_s (mp_callTy call_int1 int_s (by rfl) c.n_int (by rfl) (ma_cons (mp_var 0) ma_nil)) mp_int) (mp_var 1) (nomark _)) ma_nil))))) ma_nil))))
theorem sc__law_small : FnScope ["tape", "habit", "place"] ["tape", "habit"] (defScope s__law_small) := C8.fnScope_by (by decide +kernel)
theorem bd__law_small (c : Cx K mg base T) : Binds K (fdK K "_law_small") ["tape", "habit"] [] := c.d__law_small.f.bindsN fun _ _ _ _ _ _ us hl => match us, hl with | [_, _], _ => rfl
theorem fn__law_small (c : Cx K mg base T) : FnOk P w K mg base (L2N.CX P w) 9 (He.ga K "_law_small") (fdK K "_law_small") ["tape", "habit"] (spI K T 2 (m__law_small (He.ga K))) := by
  refine fn_mkD (ps := ["tape", "habit"]) c.d__law_small sc__law_small fun cdv A outer s H E hcdv hr => ?_
  exact (ms_cons (ms_if (mp_tcmp (op_eqD hr.units) eq_s (mp_var 1) mp_int (nomark _)) (ms_one (ms_ret (mp_callTy tuple_X tuple_s (by rfl) c.n_tuple (by rfl) (ma_cons (mp_lc (by rfl) sc__law_small.nd (mi_rng1 (by rfl) c.n_range mp_int) (blkOk_by (own := [("place", 2)]) (by rfl)) (fun _ _ _ _ _ => (mg_name 2 sc__law_small.nd)) (fun _ _ _ _ _ => mts_nil) (fun _ _ _ _ _ => (mp_call (fn__law_signed c) (hr.mono (by decide)) (by rfl) c.d__law_signed.g c.d__law_signed.f.kp (bd__law_signed c) takes00 (ma_cons (mp_var 0) (ma_cons mp_int ma_nil))))) ma_nil)))) ms_nil) (ms_cons (ms_if (mp_tcmp (op_eqD hr.units) eq_s (mp_var 1) mp_int (nomark _)) (ms_one (ms_ret (mp_call (fn__law_unit c) (hr.mono (by decide)) (by rfl) c.d__law_unit.g c.d__law_unit.f.kp (bd__law_unit c) (L2N.takes_of rfl rfl rfl rfl) (ma_cons (mp_call (fn__law_draw c) (hr.mono (by decide)) (by rfl) c.d__law_draw.g c.d__law_draw.f.kp (bd__law_draw c) (L2N.takes_of rfl rfl rfl rfl) (ma_cons (mp_var 0) (ma_cons mp_int ma_nil))) ma_nil)))) ms_nil) (ms_cons (ms_if (mp_tcmp (op_eqD hr.units) eq_s (mp_var 1) mp_int (nomark _)) (ms_one (ms_ret (mp_callTy tuple_X tuple_s (by rfl) c.n_tuple (by rfl) (ma_cons (mp_lc (by rfl) sc__law_small.nd (mi_rng1 (by rfl) c.n_range mp_int) (blkOk_by (own := [("place", 2)]) (by rfl)) (fun _ _ _ _ _ => (mg_name 2 sc__law_small.nd)) (fun _ _ _ _ _ => mts_nil) (fun _ _ _ _ _ => (mp_call (fn__law_signed c) (hr.mono (by decide)) (by rfl) c.d__law_signed.g c.d__law_signed.f.kp (bd__law_signed c) takes00 (ma_cons (mp_var 0) (ma_cons (mp_op op_sub sub_s (mp_op op_pow pow_s mp_int mp_int) mp_int) ma_nil))))) ma_nil)))) ms_nil) (ms_cons (ms_if (mp_tcmp (op_eqD hr.units) eq_s (mp_var 1) mp_int (nomark _)) (ms_one (ms_ret (mp_callTy tuple_X tuple_s (by rfl) c.n_tuple (by rfl) (ma_cons (mp_lc (by rfl) sc__law_small.nd (mi_rng1 (by rfl) c.n_range mp_int) (blkOk_by (own := [("place", 2)]) (by rfl)) (fun _ _ _ _ _ => (mg_name 2 sc__law_small.nd)) (fun _ _ _ _ _ => mts_nil) (fun _ _ _ _ _ => (mp_op op_mulX' mul_s (mp_call (fn__law_signed c) (hr.mono (by decide)) (by rfl) c.d__law_signed.g c.d__law_signed.f.kp (bd__law_signed c) takes00 (ma_cons (mp_var 0) (ma_cons mp_int ma_nil))) (mp_op op_shlW shl_s mp_int (mp_call (fn__law_draw c) (hr.mono (by decide)) (by rfl) c.d__law_draw.g c.d__law_draw.f.kp (bd__law_draw c) takes00 (ma_cons (mp_var 0) (ma_cons mp_int ma_nil))))))) ma_nil)))) ms_nil) (ms_cons (ms_if (mp_tcmp op_gt gt_s (mp_call (fn__law_draw c) (hr.mono (by decide)) (by rfl) c.d__law_draw.g c.d__law_draw.f.kp (bd__law_draw c) (L2N.takes_of rfl rfl rfl rfl) (ma_cons (mp_var 0) (ma_cons mp_int ma_nil))) mp_int (nomark _)) (ms_one (ms_ret (mp_tup (ma_cons mp_int (ma_cons mp_int (ma_cons mp_int (ma_cons mp_int ma_nil))))))) ms_nil) (ms_one (ms_ret (mp_callTy tuple_X tuple_s (by rfl) c.n_tuple (by rfl) (ma_cons (mp_lc (by rfl) sc__law_small.nd (mi_rng1 (by rfl) c.n_range mp_int) (blkOk_by (own := [("place", 2)]) (by rfl)) (fun _ _ _ _ _ => (mg_name 2 sc__law_small.nd)) (fun _ _ _ _ _ => mts_nil) (fun _ _ _ _ _ => (mp_call (fn__law_signed c) (hr.mono (by decide)) (by rfl) c.d__law_signed.g c.d__law_signed.f.kp (bd__law_signed c) takes00 (ma_cons (mp_var 0) (ma_cons mp_int ma_nil))))) ma_nil)))))))))
theorem sc__law_drawn : FnScope ["tape", "tall", "wide", "habit", "height", "shift", "lines", "down", "line", "across"] ["tape", "tall", "wide"] (defScope s__law_drawn) := C8.fnScope_by (by decide +kernel)
theorem bd__law_drawn (c : Cx K mg base T) : Binds K (fdK K "_law_drawn") ["tape", "tall", "wide"] [] := c.d__law_drawn.f.bindsN fun _ _ _ _ _ _ us hl => match us, hl with | [_, _, _], _ => rfl
theorem fn__law_drawn (c : Cx K mg base T) : FnOk P w K mg base (L2N.CX P w) 10 (He.ga K "_law_drawn") (fdK K "_law_drawn") ["tape", "tall", "wide"] (spI K T 3 (m__law_drawn (He.ga K))) := by
  refine fn_mkD (ps := ["tape", "tall", "wide"]) c.d__law_drawn sc__law_drawn fun cdv A outer s H E hcdv hr => ?_
  exact (ms_cons (ms_set 3 sc__law_drawn.nd (mp_call (fn__law_draw c) (hr.mono (by decide)) (by rfl) c.d__law_draw.g c.d__law_draw.f.kp (bd__law_draw c) (L2N.takes_of rfl rfl rfl rfl) (ma_cons (mp_var 0) (ma_cons mp_int ma_nil)))) (ms_cons (ms_set 4 sc__law_drawn.nd (mp_ix ix_X ix_s (mp_tup (ma_cons mp_int (ma_cons mp_int (ma_cons mp_int (ma_cons mp_int (ma_cons mp_int (ma_cons (mp_call (fn__law_draw c) (hr.mono (by decide)) (by rfl) c.d__law_draw.g c.d__law_draw.f.kp (bd__law_draw c) (L2N.takes_of rfl rfl rfl rfl) (ma_cons (mp_var 0) (ma_cons mp_int ma_nil))) (ma_cons (mp_callB (max_X (by rfl)) max_s (by rfl) c.n_max (by rfl) (ma_cons (mp_var 1) (ma_cons (mp_var 2) ma_nil))) ma_nil)))))))) (mp_call (fn__law_draw c) (hr.mono (by decide)) (by rfl) c.d__law_draw.g c.d__law_draw.f.kp (bd__law_draw c) (L2N.takes_of rfl rfl rfl rfl) (ma_cons (mp_var 0) (ma_cons mp_int ma_nil))) (fun _ _ => rfl))) (ms_cons (ms_set 5 sc__law_drawn.nd (mp_call (fn__law_draw c) (hr.mono (by decide)) (by rfl) c.d__law_draw.g c.d__law_draw.f.kp (bd__law_draw c) (L2N.takes_of rfl rfl rfl rfl) (ma_cons (mp_var 0) (ma_cons (mp_op op_shlW shl_s mp_int (mp_var 2)) ma_nil)))) (ms_cons (ms_set 6 sc__law_drawn.nd (mp_lst ma_nil)) (ms_cons (ms_for (passes_of rfl) (by rfl) (mi_rng1 (by rfl) c.n_range (mp_op op_shlW shl_s mp_int (mp_var 1))) (mg_name 7 sc__law_drawn.nd) (ms_cons (ms_set 8 sc__law_drawn.nd (mp_lst ma_nil)) (ms_cons (ms_for (passes_of rfl) (by rfl) (mi_rng1 (by rfl) c.n_range (mp_op op_shlW shl_s mp_int (mp_var 2))) (mg_name 9 sc__law_drawn.nd) (ms_one (ms_if (mp_tcmp op_lt lt_s (mp_var 3) mp_int (nomark _)) (ms_one (ms_exp (mp_append (mp_var 8) (ma_cons (mp_call (fn__law_small c) (hr.mono (by decide)) (by rfl) c.d__law_small.g c.d__law_small.f.kp (bd__law_small c) (L2N.takes_of rfl rfl rfl rfl) (ma_cons (mp_var 0) (ma_cons (mp_var 3) ma_nil))) ma_nil)))) (ms_one (ms_if (PW.pt (mw_and (mp_tcmp (op_eqD hr.units) eq_s (mp_var 3) mp_int (nomark _)) (mw_and1 (mp_tcmp (op_eqD hr.units) eq_s (mp_var 7) (mp_op op_xor xor_s (mp_var 9) (mp_var 5)) (nomark _))))) (ms_one (ms_exp (mp_append (mp_var 8) (ma_cons (mp_call (fn__law_unit c) (hr.mono (by decide)) (by rfl) c.d__law_unit.g c.d__law_unit.f.kp (bd__law_unit c) (L2N.takes_of rfl rfl rfl rfl) (ma_cons (mp_call (fn__law_draw c) (hr.mono (by decide)) (by rfl) c.d__law_draw.g c.d__law_draw.f.kp (bd__law_draw c) (L2N.takes_of rfl rfl rfl rfl) (ma_cons (mp_var 0) (ma_cons mp_int ma_nil))) ma_nil)) ma_nil)))) (ms_one (ms_exp (mp_append (mp_var 8) (ma_cons (mp_tup (ma_cons mp_int (ma_cons mp_int (ma_cons mp_int (ma_cons mp_int ma_nil))))) ma_nil))))))))) (ms_one (ms_exp (mp_append (mp_var 6) (ma_cons (mp_callTy tuple_X tuple_s (by rfl) c.n_tuple (by rfl) (ma_cons (mp_var 8) ma_nil)) ma_nil))))))) (ms_one (ms_ret (mp_call (fn__law_formed c) (hr.mono (by decide)) (by rfl) c.d__law_formed.g c.d__law_formed.f.kp (bd__law_formed c) (L2N.takes_of rfl rfl rfl rfl) (ma_cons (mp_var 1) (ma_cons (mp_var 2) (ma_cons (mp_var 4) (ma_cons (mp_callTy tuple_X tuple_s (by rfl) c.n_tuple (by rfl) (ma_cons (mp_var 6) ma_nil)) ma_nil))))))))))))
theorem sc__law_entry : FnScope ["told", "due", "height"] ["told", "due", "height"] (defScope s__law_entry) := C8.fnScope_by (by decide +kernel)
theorem bd__law_entry (c : Cx K mg base T) : Binds K (fdK K "_law_entry") ["told", "due", "height"] [] := c.d__law_entry.f.bindsN fun _ _ _ _ _ _ us hl => match us, hl with | [_, _, _], _ => rfl
theorem fn__law_entry (c : Cx K mg base T) : FnOk P w K mg base (L2N.CX P w) 8 (He.ga K "_law_entry") (fdK K "_law_entry") ["told", "due", "height"] (spI K T 3 (m__law_entry (He.ga K))) := by
  refine fn_mkD (ps := ["told", "due", "height"]) c.d__law_entry sc__law_entry fun cdv A outer s H E hcdv hr => ?_
  exact (ms_one (ms_ret (mp_cmp (op_eqD hr.units) eq_s (mp_op op_mod mod_s (mp_callTy call_int1 int_s (by rfl) c.n_int (by rfl) (ma_cons (mp_op op_sub sub_s (mp_op op_mulX' mul_s (mp_call (fn__law_value c) (hr.mono (by decide)) (by rfl) c.d__law_value.g c.d__law_value.f.kp (bd__law_value c) (L2N.takes_of rfl rfl rfl rfl) (ma_cons (mp_ix ix_X ix_s (mp_var 0) mp_int (fun _ _ => rfl)) ma_nil)) (mp_call (fn__law_root c) (hr.mono (by decide)) (by rfl) c.d__law_root.g c.d__law_root.f.kp (bd__law_root c) (L2N.takes_of rfl rfl rfl rfl) (ma_cons (mp_var 2) ma_nil))) (mp_op op_mulX' mul_s (mp_var 1) (mp_call (fn__law_root c) (hr.mono (by decide)) (by rfl) c.d__law_root.g c.d__law_root.f.kp (bd__law_root c) (L2N.takes_of rfl rfl rfl rfl) (ma_cons (mp_ix ix_X ix_s (mp_var 0) mp_int (fun _ _ => rfl)) ma_nil)))) ma_nil)) (mp_op op_addX add_s (mp_op op_shlW shl_s mp_int mp_int) mp_int)) mp_int (nomark _))))
theorem sc__law_chain : FnScope ["front", "back", "told", "down", "across", "due", "middle"] ["front", "back", "told"] (defScope s__law_chain) := C8.fnScope_by (by decide +kernel)
theorem bd__law_chain (c : Cx K mg base T) : Binds K (fdK K "_law_chain") ["front", "back", "told"] [] := c.d__law_chain.f.bindsN fun _ _ _ _ _ _ us hl => match us, hl with | [_, _, _], _ => rfl
theorem fn__law_chain (c : Cx K mg base T) : FnOk P w K mg base (L2N.CX P w) 22 (He.ga K "_law_chain") (fdK K "_law_chain") ["front", "back", "told"] (spI K T 3 (m__law_chain (He.ga K))) := by
  refine fn_mkD (ps := ["front", "back", "told"]) c.d__law_chain sc__law_chain fun cdv A outer s H E hcdv hr => ?_
  exact (ms_cons (ms_if (mp_tnot (mp_tst (mp_call (fn__law_table c) (hr.mono (by decide)) (by rfl) c.d__law_table.g c.d__law_table.f.kp (bd__law_table c) (L2N.takes_of rfl rfl rfl rfl) (ma_cons (mp_var 2) (ma_cons (mp_ix ix_X ix_s (mp_var 1) mp_int (fun _ _ => rfl)) (ma_cons (mp_ix ix_X ix_s (mp_var 0) mp_int (fun _ _ => rfl)) ma_nil)))))) (ms_one (ms_ret mp_bl)) ms_nil) (ms_cons (ms_for (passes_of rfl) (by rfl) (mi_rng1 (by rfl) c.n_range (mp_op op_shlW shl_s mp_int (mp_ix ix_X ix_s (mp_var 1) mp_int (fun _ _ => rfl)))) (mg_name 3 sc__law_chain.nd) (ms_one (ms_for (passes_of rfl) (by rfl) (mi_rng1 (by rfl) c.n_range (mp_op op_shlW shl_s mp_int (mp_ix ix_X ix_s (mp_var 0) mp_int (fun _ _ => rfl)))) (mg_name 4 sc__law_chain.nd) (ms_cons (ms_set 5 sc__law_chain.nd mp_int) (ms_cons (ms_for (passes_of rfl) (by rfl) (mi_rng1 (by rfl) c.n_range (mp_op op_shlW shl_s mp_int (mp_ix ix_X ix_s (mp_var 0) mp_int (fun _ _ => rfl)))) (mg_name 6 sc__law_chain.nd) (ms_one (ms_set 5 sc__law_chain.nd (mp_op op_addX add_s (mp_var 5) (mp_op op_mulX' mul_s (mp_call (fn__law_value c) (hr.mono (by decide)) (by rfl) c.d__law_value.g c.d__law_value.f.kp (bd__law_value c) (L2N.takes_of rfl rfl rfl rfl) (ma_cons (mp_ix ix_X ix_s (mp_ix ix_X ix_s (mp_ix ix_X ix_s (mp_var 1) mp_int (fun _ _ => rfl)) (mp_var 3) (fun _ _ => rfl)) (mp_var 6) (fun _ _ => rfl)) ma_nil)) (mp_call (fn__law_value c) (hr.mono (by decide)) (by rfl) c.d__law_value.g c.d__law_value.f.kp (bd__law_value c) (L2N.takes_of rfl rfl rfl rfl) (ma_cons (mp_ix ix_X ix_s (mp_ix ix_X ix_s (mp_ix ix_X ix_s (mp_var 0) mp_int (fun _ _ => rfl)) (mp_var 6) (fun _ _ => rfl)) (mp_var 4) (fun _ _ => rfl)) ma_nil))))))) (ms_one (ms_if (mp_tnot (mp_tst (mp_call (fn__law_entry c) (hr.mono (by decide)) (by rfl) c.d__law_entry.g c.d__law_entry.f.kp (bd__law_entry c) (L2N.takes_of rfl rfl rfl rfl) (ma_cons (mp_tup (ma_cons (mp_ix ix_X ix_s (mp_ix ix_X ix_s (mp_ix ix_X ix_s (mp_var 2) mp_int (fun _ _ => rfl)) (mp_var 3) (fun _ _ => rfl)) (mp_var 4) (fun _ _ => rfl)) (ma_cons (mp_ix ix_X ix_s (mp_var 2) mp_int (fun _ _ => rfl)) ma_nil))) (ma_cons (mp_var 5) (ma_cons (mp_op op_addX add_s (mp_ix ix_X ix_s (mp_var 0) mp_int (fun _ _ => rfl)) (mp_ix ix_X ix_s (mp_var 1) mp_int (fun _ _ => rfl))) ma_nil)))))) (ms_one (ms_ret mp_bl)) ms_nil))))))) (ms_one (ms_ret mp_bl))))
theorem sc__law_beside : FnScope ["base", "above", "told", "tall", "wide", "down", "across", "left", "right"] ["base", "above", "told"] (defScope s__law_beside) := C8.fnScope_by (by decide +kernel)
theorem bd__law_beside (c : Cx K mg base T) : Binds K (fdK K "_law_beside") ["base", "above", "told"] [] := c.d__law_beside.f.bindsN fun _ _ _ _ _ _ us hl => match us, hl with | [_, _, _], _ => rfl
theorem fn__law_beside (c : Cx K mg base T) : FnOk P w K mg base (L2N.CX P w) 22 (He.ga K "_law_beside") (fdK K "_law_beside") ["base", "above", "told"] (spI K T 3 (m__law_beside (He.ga K))) := by
  refine fn_mkD (ps := ["base", "above", "told"]) c.d__law_beside sc__law_beside fun cdv A outer s H E hcdv hr => ?_
  exact (ms_cons (ms_set 3 sc__law_beside.nd (mp_op op_addX add_s (mp_ix ix_X ix_s (mp_var 0) mp_int (fun _ _ => rfl)) (mp_ix ix_X ix_s (mp_var 1) mp_int (fun _ _ => rfl)))) (ms_cons (ms_set 4 sc__law_beside.nd (mp_op op_addX add_s (mp_ix ix_X ix_s (mp_var 0) mp_int (fun _ _ => rfl)) (mp_ix ix_X ix_s (mp_var 1) mp_int (fun _ _ => rfl)))) (ms_cons (ms_if (mp_tnot (mp_tst (mp_call (fn__law_table c) (hr.mono (by decide)) (by rfl) c.d__law_table.g c.d__law_table.f.kp (bd__law_table c) (L2N.takes_of rfl rfl rfl rfl) (ma_cons (mp_var 2) (ma_cons (mp_var 3) (ma_cons (mp_var 4) ma_nil)))))) (ms_one (ms_ret mp_bl)) ms_nil) (ms_cons (ms_for (passes_of rfl) (by rfl) (mi_rng1 (by rfl) c.n_range (mp_op op_shlW shl_s mp_int (mp_var 3))) (mg_name 5 sc__law_beside.nd) (ms_one (ms_for (passes_of rfl) (by rfl) (mi_rng1 (by rfl) c.n_range (mp_op op_shlW shl_s mp_int (mp_var 4))) (mg_name 6 sc__law_beside.nd) (ms_cons (ms_set 7 sc__law_beside.nd (mp_ix ix_X ix_s (mp_ix ix_X ix_s (mp_ix ix_X ix_s (mp_var 0) mp_int (fun _ _ => rfl)) (mp_op op_and and_s (mp_var 5) (mp_op op_sub sub_s (mp_op op_shlW shl_s mp_int (mp_ix ix_X ix_s (mp_var 0) mp_int (fun _ _ => rfl))) mp_int)) (fun _ _ => rfl)) (mp_op op_and and_s (mp_var 6) (mp_op op_sub sub_s (mp_op op_shlW shl_s mp_int (mp_ix ix_X ix_s (mp_var 0) mp_int (fun _ _ => rfl))) mp_int)) (fun _ _ => rfl))) (ms_cons (ms_set 8 sc__law_beside.nd (mp_ix ix_X ix_s (mp_ix ix_X ix_s (mp_ix ix_X ix_s (mp_var 1) mp_int (fun _ _ => rfl)) (mp_op op_shr shr_s (mp_var 5) (mp_ix ix_X ix_s (mp_var 0) mp_int (fun _ _ => rfl))) (fun _ _ => rfl)) (mp_op op_shr shr_s (mp_var 6) (mp_ix ix_X ix_s (mp_var 0) mp_int (fun _ _ => rfl))) (fun _ _ => rfl))) (ms_one (ms_if (mp_tnot (mp_tst (mp_call (fn__law_entry c) (hr.mono (by decide)) (by rfl) c.d__law_entry.g c.d__law_entry.f.kp (bd__law_entry c) (L2N.takes_of rfl rfl rfl rfl) (ma_cons (mp_tup (ma_cons (mp_ix ix_X ix_s (mp_ix ix_X ix_s (mp_ix ix_X ix_s (mp_var 2) mp_int (fun _ _ => rfl)) (mp_var 5) (fun _ _ => rfl)) (mp_var 6) (fun _ _ => rfl)) (ma_cons (mp_ix ix_X ix_s (mp_var 2) mp_int (fun _ _ => rfl)) ma_nil))) (ma_cons (mp_op op_mulX' mul_s (mp_call (fn__law_value c) (hr.mono (by decide)) (by rfl) c.d__law_value.g c.d__law_value.f.kp (bd__law_value c) (L2N.takes_of rfl rfl rfl rfl) (ma_cons (mp_var 7) ma_nil)) (mp_call (fn__law_value c) (hr.mono (by decide)) (by rfl) c.d__law_value.g c.d__law_value.f.kp (bd__law_value c) (L2N.takes_of rfl rfl rfl rfl) (ma_cons (mp_var 8) ma_nil))) (ma_cons (mp_op op_addX add_s (mp_ix ix_X ix_s (mp_var 0) mp_int (fun _ _ => rfl)) (mp_ix ix_X ix_s (mp_var 1) mp_int (fun _ _ => rfl))) ma_nil)))))) (ms_one (ms_ret mp_bl)) ms_nil))))))) (ms_one (ms_ret mp_bl))))))
theorem sc__law_over : FnScope ["asked", "told", "down", "across", "quad", "due"] ["asked", "told"] (defScope s__law_over) := C8.fnScope_by (by decide +kernel)
theorem bd__law_over (c : Cx K mg base T) : Binds K (fdK K "_law_over") ["asked", "told"] [] := c.d__law_over.f.bindsN fun _ _ _ _ _ _ us hl => match us, hl with | [_, _], _ => rfl
theorem fn__law_over (c : Cx K mg base T) : FnOk P w K mg base (L2N.CX P w) 22 (He.ga K "_law_over") (fdK K "_law_over") ["asked", "told"] (spI K T 2 (m__law_over (He.ga K))) := by
  refine fn_mkD (ps := ["asked", "told"]) c.d__law_over sc__law_over fun cdv A outer s H E hcdv hr => ?_
  exact (ms_cons (ms_if (PW.pt (mw_or (mp_tnot (mp_tst (mp_call (fn__law_table c) (hr.mono (by decide)) (by rfl) c.d__law_table.g c.d__law_table.f.kp (bd__law_table c) (L2N.takes_of rfl rfl rfl rfl) (ma_cons (mp_var 1) (ma_cons (mp_ix ix_X ix_s (mp_var 0) mp_int (fun _ _ => rfl)) (ma_cons (mp_ix ix_X ix_s (mp_var 0) mp_int (fun _ _ => rfl)) ma_nil)))))) (mw_or1 (mp_tcmp (op_neD hr.units) ne_s (mp_ix ix_X ix_s (mp_var 1) mp_int (fun _ _ => rfl)) (mp_ix ix_X ix_s (mp_var 0) mp_int (fun _ _ => rfl)) (nomark _))))) (ms_one (ms_ret mp_bl)) ms_nil) (ms_cons (ms_for (passes_of rfl) (by rfl) (mi_rng1 (by rfl) c.n_range (mp_op op_shlW shl_s mp_int (mp_ix ix_X ix_s (mp_var 0) mp_int (fun _ _ => rfl)))) (mg_name 2 sc__law_over.nd) (ms_one (ms_for (passes_of rfl) (by rfl) (mi_rng1 (by rfl) c.n_range (mp_op op_shlW shl_s mp_int (mp_ix ix_X ix_s (mp_var 0) mp_int (fun _ _ => rfl)))) (mg_name 3 sc__law_over.nd) (ms_cons (ms_set 4 sc__law_over.nd (mp_ix ix_X ix_s (mp_ix ix_X ix_s (mp_ix ix_X ix_s (mp_var 0) mp_int (fun _ _ => rfl)) (mp_var 2) (fun _ _ => rfl)) (mp_var 3) (fun _ _ => rfl))) (ms_cons (ms_set 5 sc__law_over.nd (mp_op op_sub sub_s (mp_op op_sub sub_s (mp_op op_sub sub_s (mp_ix ix_X ix_s (mp_var 4) mp_int (fun _ _ => rfl)) (mp_op op_mulX' mul_s (mp_ix ix_X ix_s (mp_var 4) mp_int (fun _ _ => rfl)) (mp_op op_shlW shl_s mp_int mp_int))) (mp_op op_mulX' mul_s (mp_ix ix_X ix_s (mp_var 4) mp_int (fun _ _ => rfl)) (mp_op op_shlW shl_s mp_int mp_int))) (mp_op op_mulX' mul_s (mp_ix ix_X ix_s (mp_var 4) mp_int (fun _ _ => rfl)) (mp_op op_shlW shl_s mp_int mp_int)))) (ms_one (ms_if (mp_tcmp (op_neD hr.units) ne_s (mp_op op_mod mod_s (mp_callTy call_int1 int_s (by rfl) c.n_int (by rfl) (ma_cons (mp_op op_sub sub_s (mp_call (fn__law_value c) (hr.mono (by decide)) (by rfl) c.d__law_value.g c.d__law_value.f.kp (bd__law_value c) (L2N.takes_of rfl rfl rfl rfl) (ma_cons (mp_ix ix_X ix_s (mp_ix ix_X ix_s (mp_ix ix_X ix_s (mp_var 1) mp_int (fun _ _ => rfl)) (mp_var 3) (fun _ _ => rfl)) (mp_var 2) (fun _ _ => rfl)) ma_nil)) (mp_var 5)) ma_nil)) (mp_op op_addX add_s (mp_op op_shlW shl_s mp_int mp_int) mp_int)) mp_int (nomark _)) (ms_one (ms_ret mp_bl)) ms_nil))))))) (ms_one (ms_ret mp_bl))))
theorem sc__law_sum : FnScope ["left", "right", "told", "down", "across", "due"] ["left", "right", "told"] (defScope s__law_sum) := C8.fnScope_by (by decide +kernel)
theorem bd__law_sum (c : Cx K mg base T) : Binds K (fdK K "_law_sum") ["left", "right", "told"] [] := c.d__law_sum.f.bindsN fun _ _ _ _ _ _ us hl => match us, hl with | [_, _, _], _ => rfl
theorem fn__law_sum (c : Cx K mg base T) : FnOk P w K mg base (L2N.CX P w) 22 (He.ga K "_law_sum") (fdK K "_law_sum") ["left", "right", "told"] (spI K T 3 (m__law_sum (He.ga K))) := by
  refine fn_mkD (ps := ["left", "right", "told"]) c.d__law_sum sc__law_sum fun cdv A outer s H E hcdv hr => ?_
  exact (ms_cons (ms_if (mp_tnot (mp_tst (mp_call (fn__law_table c) (hr.mono (by decide)) (by rfl) c.d__law_table.g c.d__law_table.f.kp (bd__law_table c) (L2N.takes_of rfl rfl rfl rfl) (ma_cons (mp_var 2) (ma_cons (mp_ix ix_X ix_s (mp_var 0) mp_int (fun _ _ => rfl)) (ma_cons (mp_ix ix_X ix_s (mp_var 0) mp_int (fun _ _ => rfl)) ma_nil)))))) (ms_one (ms_ret mp_bl)) ms_nil) (ms_cons (ms_for (passes_of rfl) (by rfl) (mi_rng1 (by rfl) c.n_range (mp_op op_shlW shl_s mp_int (mp_ix ix_X ix_s (mp_var 0) mp_int (fun _ _ => rfl)))) (mg_name 3 sc__law_sum.nd) (ms_one (ms_for (passes_of rfl) (by rfl) (mi_rng1 (by rfl) c.n_range (mp_op op_shlW shl_s mp_int (mp_ix ix_X ix_s (mp_var 0) mp_int (fun _ _ => rfl)))) (mg_name 4 sc__law_sum.nd) (ms_cons (ms_set 5 sc__law_sum.nd (mp_op op_addX add_s (mp_op op_mulX' mul_s (mp_call (fn__law_value c) (hr.mono (by decide)) (by rfl) c.d__law_value.g c.d__law_value.f.kp (bd__law_value c) (L2N.takes_of rfl rfl rfl rfl) (ma_cons (mp_ix ix_X ix_s (mp_ix ix_X ix_s (mp_ix ix_X ix_s (mp_var 0) mp_int (fun _ _ => rfl)) (mp_var 3) (fun _ _ => rfl)) (mp_var 4) (fun _ _ => rfl)) ma_nil)) (mp_call (fn__law_root c) (hr.mono (by decide)) (by rfl) c.d__law_root.g c.d__law_root.f.kp (bd__law_root c) (L2N.takes_of rfl rfl rfl rfl) (ma_cons (mp_ix ix_X ix_s (mp_var 1) mp_int (fun _ _ => rfl)) ma_nil))) (mp_op op_mulX' mul_s (mp_call (fn__law_value c) (hr.mono (by decide)) (by rfl) c.d__law_value.g c.d__law_value.f.kp (bd__law_value c) (L2N.takes_of rfl rfl rfl rfl) (ma_cons (mp_ix ix_X ix_s (mp_ix ix_X ix_s (mp_ix ix_X ix_s (mp_var 1) mp_int (fun _ _ => rfl)) (mp_var 3) (fun _ _ => rfl)) (mp_var 4) (fun _ _ => rfl)) ma_nil)) (mp_call (fn__law_root c) (hr.mono (by decide)) (by rfl) c.d__law_root.g c.d__law_root.f.kp (bd__law_root c) (L2N.takes_of rfl rfl rfl rfl) (ma_cons (mp_ix ix_X ix_s (mp_var 0) mp_int (fun _ _ => rfl)) ma_nil))))) (ms_one (ms_if (mp_tnot (mp_tst (mp_call (fn__law_entry c) (hr.mono (by decide)) (by rfl) c.d__law_entry.g c.d__law_entry.f.kp (bd__law_entry c) (L2N.takes_of rfl rfl rfl rfl) (ma_cons (mp_tup (ma_cons (mp_ix ix_X ix_s (mp_ix ix_X ix_s (mp_ix ix_X ix_s (mp_var 2) mp_int (fun _ _ => rfl)) (mp_var 3) (fun _ _ => rfl)) (mp_var 4) (fun _ _ => rfl)) (ma_cons (mp_ix ix_X ix_s (mp_var 2) mp_int (fun _ _ => rfl)) ma_nil))) (ma_cons (mp_var 5) (ma_cons (mp_op op_addX add_s (mp_ix ix_X ix_s (mp_var 0) mp_int (fun _ _ => rfl)) (mp_ix ix_X ix_s (mp_var 1) mp_int (fun _ _ => rfl))) ma_nil)))))) (ms_one (ms_ret mp_bl)) ms_nil)))))) (ms_one (ms_ret mp_bl))))
theorem sc__law_nought : FnScope ["tall", "wide"] ["tall", "wide"] (defScope s__law_nought) := C8.fnScope_by (by decide +kernel)
theorem bd__law_nought (c : Cx K mg base T) : Binds K (fdK K "_law_nought") ["tall", "wide"] [] := c.d__law_nought.f.bindsN fun _ _ _ _ _ _ us hl => match us, hl with | [_, _], _ => rfl
theorem fn__law_nought (c : Cx K mg base T) : FnOk P w K mg base (L2N.CX P w) 7 (He.ga K "_law_nought") (fdK K "_law_nought") ["tall", "wide"] (spI K T 2 (m__law_nought (He.ga K))) := by
  refine fn_mkD (ps := ["tall", "wide"]) c.d__law_nought sc__law_nought fun cdv A outer s H E hcdv hr => ?_
  exact (ms_one (ms_ret (mp_tup (ma_cons (mp_var 0) (ma_cons (mp_var 1) (ma_cons mp_int (ma_cons (mp_callTy tuple_X tuple_s (by rfl) c.n_tuple (by rfl) (ma_cons (mp_op op_mulX' mul_s (mp_lst (ma_cons (mp_callTy tuple_X tuple_s (by rfl) c.n_tuple (by rfl) (ma_cons (mp_op op_mulX' mul_s (mp_lst (ma_cons (mp_tup (ma_cons mp_int (ma_cons mp_int (ma_cons mp_int (ma_cons mp_int ma_nil))))) ma_nil)) (mp_op op_shlW shl_s mp_int (mp_var 1))) ma_nil)) ma_nil)) (mp_op op_shlW shl_s mp_int (mp_var 0))) ma_nil)) ma_nil)))))))
theorem sc__law_bent : FnScope ["tape", "good", "down", "across", "spot", "line", "quad", "twice", "spoilt", "found", "row", "each", "cell"] ["tape", "good"] (defScope s__law_bent) := C8.fnScope_by (by decide +kernel)
theorem bd__law_bent (c : Cx K mg base T) : Binds K (fdK K "_law_bent") ["tape", "good"] [] := c.d__law_bent.f.bindsN fun _ _ _ _ _ _ us hl => match us, hl with | [_, _], _ => rfl
theorem fn__law_bent (c : Cx K mg base T) : FnOk P w K mg base (L2N.CX P w) 8 (He.ga K "_law_bent") (fdK K "_law_bent") ["tape", "good"] (spI K T 2 (m__law_bent (He.ga K))) := by
  refine fn_mkD (ps := ["tape", "good"]) c.d__law_bent sc__law_bent fun cdv A outer s H E hcdv hr => ?_
  exact (ms_cons (ms_set 2 sc__law_bent.nd (mp_call (fn__law_draw c) (hr.mono (by decide)) (by rfl) c.d__law_draw.g c.d__law_draw.f.kp (bd__law_draw c) (L2N.takes_of rfl rfl rfl rfl) (ma_cons (mp_var 0) (ma_cons (mp_callB len_X len_s (by rfl) c.n_len (by rfl) (ma_cons (mp_ix ix_X ix_s (mp_var 1) mp_int (fun _ _ => rfl)) ma_nil)) ma_nil)))) (ms_cons (ms_set 3 sc__law_bent.nd (mp_call (fn__law_draw c) (hr.mono (by decide)) (by rfl) c.d__law_draw.g c.d__law_draw.f.kp (bd__law_draw c) (L2N.takes_of rfl rfl rfl rfl) (ma_cons (mp_var 0) (ma_cons (mp_callB len_X len_s (by rfl) c.n_len (by rfl) (ma_cons (mp_ix ix_X ix_s (mp_ix ix_X ix_s (mp_var 1) mp_int (fun _ _ => rfl)) (mp_var 2) (fun _ _ => rfl)) ma_nil)) ma_nil)))) (ms_cons (ms_set 4 sc__law_bent.nd (mp_call (fn__law_draw c) (hr.mono (by decide)) (by rfl) c.d__law_draw.g c.d__law_draw.f.kp (bd__law_draw c) (L2N.takes_of rfl rfl rfl rfl) (ma_cons (mp_var 0) (ma_cons mp_int ma_nil)))) (ms_cons (ms_set 5 sc__law_bent.nd (mp_ix ix_X ix_s (mp_ix ix_X ix_s (mp_var 1) mp_int (fun _ _ => rfl)) (mp_var 2) (fun _ _ => rfl))) (ms_cons (ms_set 6 sc__law_bent.nd (mp_callTy list_X list_s (by rfl) c.n_list (by rfl) (ma_cons (mp_ix ix_X ix_s (mp_var 5) (mp_var 3) (fun _ _ => rfl)) ma_nil))) (ms_cons (ms_sub (mp_var 6) (mp_var 4) (mp_ix ix_X ix_s (mp_tup (ma_cons mp_bl (ma_cons mp_non (ma_cons mp_str ma_nil)))) (mp_call (fn__law_draw c) (hr.mono (by decide)) (by rfl) c.d__law_draw.g c.d__law_draw.f.kp (bd__law_draw c) (L2N.takes_of rfl rfl rfl rfl) (ma_cons (mp_var 0) (ma_cons mp_int ma_nil))) (fun _ _ => rfl))) (ms_cons (ms_set 7 sc__law_bent.nd (mp_callTy tuple_X tuple_s (by rfl) c.n_tuple (by rfl) (ma_cons (mp_lc (by rfl) sc__law_bent.nd (mi_val (mp_ix ix_X ix_s (mp_var 1) mp_int (fun _ _ => rfl))) (blkOk_by (own := [("row", 10)]) (by rfl)) (fun _ _ _ _ _ => (mg_name 10 sc__law_bent.nd)) (fun _ _ _ _ _ => mts_nil) (fun _ _ _ _ _ => (mp_callTy tuple_X tuple_s (by rfl) c.n_tuple (by rfl) (ma_cons (mp_lc (by rfl) sc__law_bent.nd (mi_val (mp_var 10)) (blkOk_by (own := [("each", 11)]) (by rfl)) (fun _ _ _ _ _ => (mg_name 11 sc__law_bent.nd)) (fun _ _ _ _ _ => mts_nil) (fun _ _ _ _ _ => (mp_callTy tuple_X tuple_s (by rfl) c.n_tuple (by rfl) (ma_cons (mp_lc (by rfl) sc__law_bent.nd (mi_val (mp_var 11)) (blkOk_by (own := [("cell", 12)]) (by rfl)) (fun _ _ _ _ _ => (mg_name 12 sc__law_bent.nd)) (fun _ _ _ _ _ => mts_nil) (fun _ _ _ _ _ => (mp_op op_mulX' mul_s mp_int (mp_var 12)))) ma_nil)))) ma_nil)))) ma_nil))) (ms_cons (ms_set 8 sc__law_bent.nd (mp_op op_addX add_s (mp_op op_addX add_s (mp_slice (mp_var 5) mo_none (mo_some (mp_var 3))) (mp_tup (ma_cons (mp_callTy tuple_X tuple_s (by rfl) c.n_tuple (by rfl) (ma_cons (mp_var 6) ma_nil)) ma_nil))) (mp_slice (mp_var 5) (mo_some (mp_op op_addX add_s (mp_var 3) mp_int)) mo_none))) (ms_cons (ms_set 9 sc__law_bent.nd (mp_lst (ma_cons mp_non (ma_cons mp_bl (ma_cons mp_int (ma_cons mp_str (ma_cons (mp_tup ma_nil) (ma_cons (mp_callTy list_X list_s (by rfl) c.n_list (by rfl) (ma_cons (mp_var 1) ma_nil)) (ma_cons (mp_slice (mp_var 1) mo_none (mo_some mp_int)) (ma_cons (mp_op op_addX add_s (mp_var 1) (mp_tup (ma_cons mp_int ma_nil))) (ma_cons (mp_tup (ma_cons (mp_ix ix_X ix_s (mp_var 1) mp_int (fun _ _ => rfl)) (ma_cons (mp_ix ix_X ix_s (mp_var 1) mp_int (fun _ _ => rfl)) (ma_cons (mp_op op_addX add_s (mp_ix ix_X ix_s (mp_var 1) mp_int (fun _ _ => rfl)) mp_int) (ma_cons (mp_var 7) ma_nil))))) ma_nil))))))))))) (ms_cons (ms_exp (mp_append (mp_var 9) (ma_cons (mp_tup (ma_cons (mp_ix ix_X ix_s (mp_var 1) mp_int (fun _ _ => rfl)) (ma_cons (mp_ix ix_X ix_s (mp_var 1) mp_int (fun _ _ => rfl)) (ma_cons (mp_un un_neg neg_s mp_int) (ma_cons (mp_ix ix_X ix_s (mp_var 1) mp_int (fun _ _ => rfl)) ma_nil))))) ma_nil))) (ms_cons (ms_exp (mp_append (mp_var 9) (ma_cons (mp_tup (ma_cons (mp_ix ix_X ix_s (mp_var 1) mp_int (fun _ _ => rfl)) (ma_cons (mp_ix ix_X ix_s (mp_var 1) mp_int (fun _ _ => rfl)) (ma_cons mp_str (ma_cons (mp_ix ix_X ix_s (mp_var 1) mp_int (fun _ _ => rfl)) ma_nil))))) ma_nil))) (ms_cons (ms_exp (mp_append (mp_var 9) (ma_cons (mp_tup (ma_cons (mp_ix ix_X ix_s (mp_var 1) mp_int (fun _ _ => rfl)) (ma_cons (mp_ix ix_X ix_s (mp_var 1) mp_int (fun _ _ => rfl)) (ma_cons (mp_ix ix_X ix_s (mp_var 1) mp_int (fun _ _ => rfl)) (ma_cons (mp_callTy list_X list_s (by rfl) c.n_list (by rfl) (ma_cons (mp_ix ix_X ix_s (mp_var 1) mp_int (fun _ _ => rfl)) ma_nil)) ma_nil))))) ma_nil))) (ms_cons (ms_exp (mp_append (mp_var 9) (ma_cons (mp_tup (ma_cons (mp_ix ix_X ix_s (mp_var 1) mp_int (fun _ _ => rfl)) (ma_cons (mp_ix ix_X ix_s (mp_var 1) mp_int (fun _ _ => rfl)) (ma_cons (mp_ix ix_X ix_s (mp_var 1) mp_int (fun _ _ => rfl)) (ma_cons (mp_slice (mp_ix ix_X ix_s (mp_var 1) mp_int (fun _ _ => rfl)) (mo_some mp_int) mo_none) ma_nil))))) ma_nil))) (ms_cons (ms_exp (mp_append (mp_var 9) (ma_cons (mp_tup (ma_cons (mp_ix ix_X ix_s (mp_var 1) mp_int (fun _ _ => rfl)) (ma_cons (mp_ix ix_X ix_s (mp_var 1) mp_int (fun _ _ => rfl)) (ma_cons (mp_ix ix_X ix_s (mp_var 1) mp_int (fun _ _ => rfl)) (ma_cons (mp_op op_addX add_s (mp_ix ix_X ix_s (mp_var 1) mp_int (fun _ _ => rfl)) (mp_slice (mp_ix ix_X ix_s (mp_var 1) mp_int (fun _ _ => rfl)) mo_none (mo_some mp_int))) ma_nil))))) ma_nil))) (ms_cons (ms_exp (mp_append (mp_var 9) (ma_cons (mp_tup (ma_cons (mp_ix ix_X ix_s (mp_var 1) mp_int (fun _ _ => rfl)) (ma_cons (mp_ix ix_X ix_s (mp_var 1) mp_int (fun _ _ => rfl)) (ma_cons (mp_ix ix_X ix_s (mp_var 1) mp_int (fun _ _ => rfl)) (ma_cons (mp_op op_addX add_s (mp_op op_addX add_s (mp_slice (mp_ix ix_X ix_s (mp_var 1) mp_int (fun _ _ => rfl)) mo_none (mo_some (mp_var 2))) (mp_tup (ma_cons (mp_var 8) ma_nil))) (mp_slice (mp_ix ix_X ix_s (mp_var 1) mp_int (fun _ _ => rfl)) (mo_some (mp_op op_addX add_s (mp_var 2) mp_int)) mo_none)) ma_nil))))) ma_nil))) (ms_cons (ms_exp (mp_append (mp_var 9) (ma_cons (mp_tup (ma_cons (mp_ix ix_X ix_s (mp_var 1) mp_int (fun _ _ => rfl)) (ma_cons (mp_ix ix_X ix_s (mp_var 1) mp_int (fun _ _ => rfl)) (ma_cons (mp_ix ix_X ix_s (mp_var 1) mp_int (fun _ _ => rfl)) (ma_cons (mp_op op_addX add_s (mp_op op_addX add_s (mp_slice (mp_ix ix_X ix_s (mp_var 1) mp_int (fun _ _ => rfl)) mo_none (mo_some (mp_var 2))) (mp_tup (ma_cons (mp_slice (mp_var 5) (mo_some mp_int) mo_none) ma_nil))) (mp_slice (mp_ix ix_X ix_s (mp_var 1) mp_int (fun _ _ => rfl)) (mo_some (mp_op op_addX add_s (mp_var 2) mp_int)) mo_none)) ma_nil))))) ma_nil))) (ms_cons (ms_exp (mp_append (mp_var 9) (ma_cons (mp_tup (ma_cons (mp_ix ix_X ix_s (mp_var 1) mp_int (fun _ _ => rfl)) (ma_cons (mp_ix ix_X ix_s (mp_var 1) mp_int (fun _ _ => rfl)) (ma_cons (mp_ix ix_X ix_s (mp_var 1) mp_int (fun _ _ => rfl)) (ma_cons (mp_op op_addX add_s (mp_op op_addX add_s (mp_slice (mp_ix ix_X ix_s (mp_var 1) mp_int (fun _ _ => rfl)) mo_none (mo_some (mp_var 2))) (mp_tup (ma_cons (mp_callTy list_X list_s (by rfl) c.n_list (by rfl) (ma_cons (mp_var 5) ma_nil)) ma_nil))) (mp_slice (mp_ix ix_X ix_s (mp_var 1) mp_int (fun _ _ => rfl)) (mo_some (mp_op op_addX add_s (mp_var 2) mp_int)) mo_none)) ma_nil))))) ma_nil))) (ms_cons (ms_exp (mp_append (mp_var 9) (ma_cons (mp_tup (ma_cons (mp_op op_pow pow_s mp_int mp_int) (ma_cons (mp_ix ix_X ix_s (mp_var 1) mp_int (fun _ _ => rfl)) (ma_cons (mp_ix ix_X ix_s (mp_var 1) mp_int (fun _ _ => rfl)) (ma_cons (mp_ix ix_X ix_s (mp_var 1) mp_int (fun _ _ => rfl)) ma_nil))))) ma_nil))) (ms_one (ms_ret (mp_var 9)))))))))))))))))))))
theorem sc__law_refusals : FnScope ["tape", "front", "back", "tall", "wide", "up", "out", "near", "bad"] ["tape", "front", "back"] (defScope s__law_refusals) := C8.fnScope_by (by decide +kernel)
theorem bd__law_refusals (c : Cx K mg base T) : Binds K (fdK K "_law_refusals") ["tape", "front", "back"] [] := c.d__law_refusals.f.bindsN fun _ _ _ _ _ _ us hl => match us, hl with | [_, _, _], _ => rfl
theorem fn__law_refusals (c : Cx K mg base T) : FnOk P w K mg base (L2N.CX P w) 24 (He.ga K "_law_refusals") (fdK K "_law_refusals") ["tape", "front", "back"] (spI K T 3 (m__law_refusals (He.ga K))) := by
  refine fn_mkD (ps := ["tape", "front", "back"]) c.d__law_refusals sc__law_refusals fun cdv A outer s H E hcdv hr => ?_
  obtain ⟨a0, P0, hcd0, TB0, hm0, hu0⟩ := c.l__law_refusals.ex
  obtain rfl := hcdv.symm.trans hcd0
  exact (ms_cons (ms_for (passes_of rfl) (by rfl) (mi_val (mp_call (fn__law_bent c) (hr.mono (by decide)) (by rfl) c.d__law_bent.g c.d__law_bent.f.kp (bd__law_bent c) (L2N.takes_of rfl rfl rfl rfl) (ma_cons (mp_var 0) (ma_cons (mp_var 2) ma_nil)))) (mg_name 8 sc__law_refusals.nd) (ms_cons (ms_if (mp_tnot (mp_tst (rf__law_refused c c.rf (by rfl) TB0 (by rfl) (by rfl) hm0 hu0 (hr.mono (by decide)) (LamX.lamS_by (by show LamX.lamSB (defScope s__law_refusals) _ = true; decide +kernel)) (by rfl) (fun _ _ _ _ _ => by rfl) (fun A2 outer2 s2 H2 E2 f2 c2 hr2 => (mp_call (fn_chained c) (hr2.mono (by decide)) (by rfl) c.d_chained.g c.d_chained.f.kp (bd_chained c) Lx.lamN_takes (ma_cons (mp_var 1) (ma_cons (mp_var 8) ma_nil))))))) (ms_one (ms_ret mp_bl)) ms_nil) (ms_one (ms_if (mp_tnot (mp_tst (rf__law_refused c c.rf (by rfl) TB0 (by rfl) (by rfl) hm0 hu0 (hr.mono (by decide)) (LamX.lamS_by (by show LamX.lamSB (defScope s__law_refusals) _ = true; decide +kernel)) (by rfl) (fun _ _ _ _ _ => by rfl) (fun A2 outer2 s2 H2 E2 f2 c2 hr2 => (mp_callK0 [1, 0] (fn_side_by_side c) (hr2.mono (by decide)) (by rfl) c.d_side_by_side.g c.d_side_by_side.f.kp (kb_side_by_side_high_low c) Lx.lamN_takes (mk_cons (mp_var 8) (mk_cons (mp_var 1) mk_nil))))))) (ms_one (ms_ret mp_bl)) ms_nil)))) (ms_cons (ms_for (passes_of rfl) (by rfl) (mi_val (mp_call (fn__law_bent c) (hr.mono (by decide)) (by rfl) c.d__law_bent.g c.d__law_bent.f.kp (bd__law_bent c) (L2N.takes_of rfl rfl rfl rfl) (ma_cons (mp_var 0) (ma_cons (mp_var 1) ma_nil)))) (mg_name 8 sc__law_refusals.nd) (ms_one (ms_if (mp_tnot (mp_tst (rf__law_refused c c.rf (by rfl) TB0 (by rfl) (by rfl) hm0 hu0 (hr.mono (by decide)) (LamX.lamS_by (by show LamX.lamSB (defScope s__law_refusals) _ = true; decide +kernel)) (by rfl) (fun _ _ _ _ _ => by rfl) (fun A2 outer2 s2 H2 E2 f2 c2 hr2 => (mp_call (fn_added c) (hr2.mono (by decide)) (by rfl) c.d_added.g c.d_added.f.kp (bd_added c) Lx.lamN_takes (ma_cons (mp_var 1) (ma_cons (mp_var 8) ma_nil))))))) (ms_one (ms_ret mp_bl)) ms_nil))) (ms_cons (ms_set 3 sc__law_refusals.nd (mp_ix ix_X ix_s (mp_var 1) mp_int (fun _ _ => rfl))) (ms_cons (ms_set 4 sc__law_refusals.nd (mp_ix ix_X ix_s (mp_var 1) mp_int (fun _ _ => rfl))) (ms_cons (ms_set 5 sc__law_refusals.nd (mp_if (mp_tcmp op_lt lt_s (mp_var 3) mp_int (nomark _)) (mp_op op_addX add_s (mp_var 3) mp_int) mp_int)) (ms_cons (ms_set 6 sc__law_refusals.nd (mp_if (mp_tcmp op_lt lt_s (mp_var 4) mp_int (nomark _)) (mp_op op_addX add_s (mp_var 4) mp_int) mp_int)) (ms_cons (ms_for (passes_of rfl) (by rfl) (mi_val (mp_tup (ma_cons (mp_call (fn__law_nought c) (hr.mono (by decide)) (by rfl) c.d__law_nought.g c.d__law_nought.f.kp (bd__law_nought c) (L2N.takes_of rfl rfl rfl rfl) (ma_cons mp_int (ma_cons (mp_var 5) ma_nil))) (ma_cons (mp_call (fn__law_drawn c) (hr.mono (by decide)) (by rfl) c.d__law_drawn.g c.d__law_drawn.f.kp (bd__law_drawn c) (L2N.takes_of rfl rfl rfl rfl) (ma_cons (mp_var 0) (ma_cons mp_int (ma_cons (mp_var 5) ma_nil)))) (ma_cons (mp_call (fn__law_nought c) (hr.mono (by decide)) (by rfl) c.d__law_nought.g c.d__law_nought.f.kp (bd__law_nought c) (L2N.takes_of rfl rfl rfl rfl) (ma_cons mp_int (ma_cons (mp_if (mp_tcmp op_gt gt_s (mp_var 3) mp_int (nomark _)) (mp_op op_sub sub_s (mp_var 3) mp_int) mp_int) ma_nil))) ma_nil))))) (mg_name 8 sc__law_refusals.nd) (ms_one (ms_if (mp_tnot (mp_tst (rf__law_refused c c.rf (by rfl) TB0 (by rfl) (by rfl) hm0 hu0 (hr.mono (by decide)) (LamX.lamS_by (by show LamX.lamSB (defScope s__law_refusals) _ = true; decide +kernel)) (by rfl) (fun _ _ _ _ _ => by rfl) (fun A2 outer2 s2 H2 E2 f2 c2 hr2 => (mp_callK0 [1, 0] (fn_chained c) (hr2.mono (by decide)) (by rfl) c.d_chained.g c.d_chained.f.kp (kb_chained_second_first c) Lx.lamN_takes (mk_cons (mp_var 8) (mk_cons (mp_var 1) mk_nil))))))) (ms_one (ms_ret mp_bl)) ms_nil))) (ms_cons (ms_set 7 sc__law_refusals.nd (mp_lst (ma_cons (mp_call (fn__law_nought c) (hr.mono (by decide)) (by rfl) c.d__law_nought.g c.d__law_nought.f.kp (bd__law_nought c) (L2N.takes_of rfl rfl rfl rfl) (ma_cons (mp_var 3) (ma_cons (mp_var 6) ma_nil))) (ma_cons (mp_call (fn__law_nought c) (hr.mono (by decide)) (by rfl) c.d__law_nought.g c.d__law_nought.f.kp (bd__law_nought c) (L2N.takes_of rfl rfl rfl rfl) (ma_cons (mp_var 5) (ma_cons (mp_var 4) ma_nil))) (ma_cons (mp_call (fn__law_drawn c) (hr.mono (by decide)) (by rfl) c.d__law_drawn.g c.d__law_drawn.f.kp (bd__law_drawn c) (L2N.takes_of rfl rfl rfl rfl) (ma_cons (mp_var 0) (ma_cons (mp_var 5) (ma_cons (mp_callB (min_X (by rfl)) min_s (by rfl) c.n_min (by rfl) (ma_cons (mp_var 4) (ma_cons mp_int ma_nil))) ma_nil)))) ma_nil))))) (ms_cons (ms_if (mp_tcmp (op_neD hr.units) ne_s (mp_var 3) (mp_var 4) (nomark _)) (ms_one (ms_exp (mp_append (mp_var 7) (ma_cons (mp_call (fn__law_nought c) (hr.mono (by decide)) (by rfl) c.d__law_nought.g c.d__law_nought.f.kp (bd__law_nought c) (L2N.takes_of rfl rfl rfl rfl) (ma_cons (mp_var 4) (ma_cons (mp_var 3) ma_nil))) ma_nil)))) ms_nil) (ms_cons (ms_for (passes_of rfl) (by rfl) (mi_val (mp_var 7)) (mg_name 8 sc__law_refusals.nd) (ms_one (ms_if (mp_tnot (mp_tst (rf__law_refused c c.rf (by rfl) TB0 (by rfl) (by rfl) hm0 hu0 (hr.mono (by decide)) (LamX.lamS_by (by show LamX.lamSB (defScope s__law_refusals) _ = true; decide +kernel)) (by rfl) (fun _ _ _ _ _ => by rfl) (fun A2 outer2 s2 H2 E2 f2 c2 hr2 => (mp_callK0 [1, 0] (fn_added c) (hr2.mono (by decide)) (by rfl) c.d_added.g c.d_added.f.kp (kb_added_other_one c) Lx.lamN_takes (mk_cons (mp_var 8) (mk_cons (mp_var 1) mk_nil))))))) (ms_one (ms_ret mp_bl)) ms_nil))) (ms_one (ms_ret mp_bl))))))))))))
theorem sc__law_products : FnScope ["tape", "front", "back", "told", "over", "past", "like", "less", "right", "line", "quad", "cell"] ["tape", "front", "back"] (defScope s__law_products) := C8.fnScope_by (by decide +kernel)
theorem bd__law_products (c : Cx K mg base T) : Binds K (fdK K "_law_products") ["tape", "front", "back"] [] := c.d__law_products.f.bindsN fun _ _ _ _ _ _ us hl => match us, hl with | [_, _, _], _ => rfl
theorem fn__law_products (c : Cx K mg base T) : FnOk P w K mg base (L2N.CX P w) 23 (He.ga K "_law_products") (fdK K "_law_products") ["tape", "front", "back"] (spI K T 3 (m__law_products (He.ga K))) := by
  refine fn_mkD (ps := ["tape", "front", "back"]) c.d__law_products sc__law_products fun cdv A outer s H E hcdv hr => ?_
  exact (ms_cons (ms_set 3 sc__law_products.nd (mp_call (fn_chained c) (hr.mono (by decide)) (by rfl) c.d_chained.g c.d_chained.f.kp (bd_chained c) (L2N.takes_of rfl rfl rfl rfl) (ma_cons (mp_var 1) (ma_cons (mp_var 2) ma_nil)))) (ms_cons (ms_if (PW.pt (mw_or (mp_tnot (mp_tst (mp_call (fn__law_chain c) (hr.mono (by decide)) (by rfl) c.d__law_chain.g c.d__law_chain.f.kp (bd__law_chain c) (L2N.takes_of rfl rfl rfl rfl) (ma_cons (mp_var 1) (ma_cons (mp_var 2) (ma_cons (mp_var 3) ma_nil)))))) (mw_or1 (mp_tnot (mp_tst (mp_call (fn__law_same c 12) (hr.mono (by decide)) (by rfl) c.d__law_same.g c.d__law_same.f.kp (bd__law_same c) (L2N.takes_of rfl rfl rfl rfl) (ma_cons (mp_callK0 [1, 0] (fn_chained c) (hr.mono (by decide)) (by rfl) c.d_chained.g c.d_chained.f.kp (kb_chained_second_first c) (L2N.takes_of rfl rfl rfl rfl) (mk_cons (mp_var 2) (mk_cons (mp_var 1) mk_nil))) (ma_cons (mp_var 3) ma_nil)))))))) (ms_one (ms_ret mp_bl)) ms_nil) (ms_cons (ms_set 4 sc__law_products.nd (mp_call (fn_mirrored c) (hr.mono (by decide)) (by rfl) c.d_mirrored.g c.d_mirrored.f.kp (bd_mirrored c) (L2N.takes_of rfl rfl rfl rfl) (ma_cons (mp_var 1) ma_nil))) (ms_cons (ms_set 5 sc__law_products.nd (mp_callK0 [0] (fn_mirrored c) (hr.mono (by decide)) (by rfl) c.d_mirrored.g c.d_mirrored.f.kp (kb_mirrored_table c) (L2N.takes_of rfl rfl rfl rfl) (mk_cons (mp_var 2) mk_nil))) (ms_cons (ms_if (PW.pt (mw_or (mp_tnot (mp_tst (mp_call (fn__law_over c) (hr.mono (by decide)) (by rfl) c.d__law_over.g c.d__law_over.f.kp (bd__law_over c) (L2N.takes_of rfl rfl rfl rfl) (ma_cons (mp_var 1) (ma_cons (mp_var 4) ma_nil))))) (mw_or1 (mp_tnot (mp_tst (mp_call (fn__law_over c) (hr.mono (by decide)) (by rfl) c.d__law_over.g c.d__law_over.f.kp (bd__law_over c) (L2N.takes_of rfl rfl rfl rfl) (ma_cons (mp_var 2) (ma_cons (mp_var 5) ma_nil)))))))) (ms_one (ms_ret mp_bl)) ms_nil) (ms_cons (ms_if (mp_tnot (mp_tst (mp_call (fn__law_same c 12) (hr.mono (by decide)) (by rfl) c.d__law_same.g c.d__law_same.f.kp (bd__law_same c) (L2N.takes_of rfl rfl rfl rfl) (ma_cons (mp_call (fn_mirrored c) (hr.mono (by decide)) (by rfl) c.d_mirrored.g c.d_mirrored.f.kp (bd_mirrored c) (L2N.takes_of rfl rfl rfl rfl) (ma_cons (mp_var 4) ma_nil)) (ma_cons (mp_var 1) ma_nil))))) (ms_one (ms_ret mp_bl)) ms_nil) (ms_cons (ms_if (PW.pt (mw_and (mp_tcmp op_le le_s (mp_ix ix_X ix_s (mp_var 3) mp_int (fun _ _ => rfl)) mp_int (nomark _)) (mw_and1 (mp_tst (mp_callB (cr_all (by rfl)) all_s (by rfl) c.n_all (by rfl) (ma_cons (mp_lc (by rfl) sc__law_products.nd (mi_val (mp_ix ix_X ix_s (mp_var 3) mp_int (fun _ _ => rfl))) (blkOk_by (own := [("line", 9)]) (by rfl)) (fun _ _ _ _ _ => (mg_name 9 sc__law_products.nd)) (fun _ _ _ _ _ => mts_nil) (fun _ _ _ _ _ => (mp_callB (cr_all (by rfl)) all_s (by rfl) c.n_all (by rfl) (ma_cons (mp_lc (by rfl) sc__law_products.nd (mi_val (mp_var 9)) (blkOk_by (own := [("quad", 10)]) (by rfl)) (fun _ _ _ _ _ => (mg_name 10 sc__law_products.nd)) (fun _ _ _ _ _ => mts_nil) (fun _ _ _ _ _ => (mp_and (mp_cmp op_lt lt_s (mp_callB (max_X (by rfl)) max_s (by rfl) c.n_max (by rfl) (ma_cons (mp_var 10) ma_nil)) (mp_op op_pow pow_s mp_int mp_int) (nomark _)) (mp_one (mp_cmp op_gt gt_s (mp_callB (min_X (by rfl)) min_s (by rfl) c.n_min (by rfl) (ma_cons (mp_var 10) ma_nil)) (mp_op op_sub sub_s mp_int (mp_op op_pow pow_s mp_int mp_int)) (nomark _)))))) ma_nil)))) ma_nil)))))) (ms_one (ms_if (mp_tnot (mp_tst (mp_call (fn__law_same c 12) (hr.mono (by decide)) (by rfl) c.d__law_same.g c.d__law_same.f.kp (bd__law_same c) (L2N.takes_of rfl rfl rfl rfl) (ma_cons (mp_call (fn_mirrored c) (hr.mono (by decide)) (by rfl) c.d_mirrored.g c.d_mirrored.f.kp (bd_mirrored c) (L2N.takes_of rfl rfl rfl rfl) (ma_cons (mp_var 3) ma_nil)) (ma_cons (mp_call (fn_chained c) (hr.mono (by decide)) (by rfl) c.d_chained.g c.d_chained.f.kp (bd_chained c) (L2N.takes_of rfl rfl rfl rfl) (ma_cons (mp_var 5) (ma_cons (mp_var 4) ma_nil))) ma_nil))))) (ms_one (ms_ret mp_bl)) ms_nil)) ms_nil) (ms_cons (ms_if (PW.pt (mw_and (mp_tcmp (op_eqD hr.units) eq_s (mp_ix ix_X ix_s (mp_var 1) mp_int (fun _ _ => rfl)) (mp_ix ix_X ix_s (mp_var 2) mp_int (fun _ _ => rfl)) (nomark _)) (mw_and (mp_tcmp (op_eqD hr.units) eq_s (mp_ix ix_X ix_s (mp_var 1) mp_int (fun _ _ => rfl)) (mp_ix ix_X ix_s (mp_var 2) mp_int (fun _ _ => rfl)) (nomark _)) (mw_and1 (mp_tnot (mp_tst (mp_call (fn__law_sum c) (hr.mono (by decide)) (by rfl) c.d__law_sum.g c.d__law_sum.f.kp (bd__law_sum c) (L2N.takes_of rfl rfl rfl rfl) (ma_cons (mp_var 1) (ma_cons (mp_var 2) (ma_cons (mp_call (fn_added c) (hr.mono (by decide)) (by rfl) c.d_added.g c.d_added.f.kp (bd_added c) (L2N.takes_of rfl rfl rfl rfl) (ma_cons (mp_var 1) (ma_cons (mp_var 2) ma_nil))) ma_nil)))))))))) (ms_one (ms_ret mp_bl)) ms_nil) (ms_cons (ms_set 6 sc__law_products.nd (mp_call (fn__law_drawn c) (hr.mono (by decide)) (by rfl) c.d__law_drawn.g c.d__law_drawn.f.kp (bd__law_drawn c) (L2N.takes_of rfl rfl rfl rfl) (ma_cons (mp_var 0) (ma_cons (mp_ix ix_X ix_s (mp_var 1) mp_int (fun _ _ => rfl)) (ma_cons (mp_ix ix_X ix_s (mp_var 1) mp_int (fun _ _ => rfl)) ma_nil))))) (ms_cons (ms_set 7 sc__law_products.nd (mp_tup (ma_cons (mp_ix ix_X ix_s (mp_var 1) mp_int (fun _ _ => rfl)) (ma_cons (mp_ix ix_X ix_s (mp_var 1) mp_int (fun _ _ => rfl)) (ma_cons (mp_ix ix_X ix_s (mp_var 1) mp_int (fun _ _ => rfl)) (ma_cons (mp_callTy tuple_X tuple_s (by rfl) c.n_tuple (by rfl) (ma_cons (mp_lc (by rfl) sc__law_products.nd (mi_val (mp_ix ix_X ix_s (mp_var 1) mp_int (fun _ _ => rfl))) (blkOk_by (own := [("line", 9)]) (by rfl)) (fun _ _ _ _ _ => (mg_name 9 sc__law_products.nd)) (fun _ _ _ _ _ => mts_nil) (fun _ _ _ _ _ => (mp_callTy tuple_X tuple_s (by rfl) c.n_tuple (by rfl) (ma_cons (mp_lc (by rfl) sc__law_products.nd (mi_val (mp_var 9)) (blkOk_by (own := [("quad", 10)]) (by rfl)) (fun _ _ _ _ _ => (mg_name 10 sc__law_products.nd)) (fun _ _ _ _ _ => mts_nil) (fun _ _ _ _ _ => (mp_callTy tuple_X tuple_s (by rfl) c.n_tuple (by rfl) (ma_cons (mp_lc (by rfl) sc__law_products.nd (mi_val (mp_var 10)) (blkOk_by (own := [("cell", 11)]) (by rfl)) (fun _ _ _ _ _ => (mg_name 11 sc__law_products.nd)) (fun _ _ _ _ _ => mts_nil) (fun _ _ _ _ _ => (mp_op op_sub sub_s mp_int (mp_var 11)))) ma_nil)))) ma_nil)))) ma_nil)) ma_nil)))))) (ms_cons (ms_for (passes_of rfl) (by rfl) (mi_val (mp_tup (ma_cons (mp_var 6) (ma_cons (mp_var 1) (ma_cons (mp_var 7) ma_nil))))) (mg_name 8 sc__law_products.nd) (ms_cons (ms_set 3 sc__law_products.nd (mp_call (fn_added c) (hr.mono (by decide)) (by rfl) c.d_added.g c.d_added.f.kp (bd_added c) (L2N.takes_of rfl rfl rfl rfl) (ma_cons (mp_var 1) (ma_cons (mp_var 8) ma_nil)))) (ms_one (ms_if (PW.pt (mw_or (mp_tnot (mp_tst (mp_call (fn__law_sum c) (hr.mono (by decide)) (by rfl) c.d__law_sum.g c.d__law_sum.f.kp (bd__law_sum c) (L2N.takes_of rfl rfl rfl rfl) (ma_cons (mp_var 1) (ma_cons (mp_var 8) (ma_cons (mp_var 3) ma_nil)))))) (mw_or1 (mp_tnot (mp_tst (mp_call (fn__law_same c 12) (hr.mono (by decide)) (by rfl) c.d__law_same.g c.d__law_same.f.kp (bd__law_same c) (L2N.takes_of rfl rfl rfl rfl) (ma_cons (mp_callK0 [1, 0] (fn_added c) (hr.mono (by decide)) (by rfl) c.d_added.g c.d_added.f.kp (kb_added_other_one c) (L2N.takes_of rfl rfl rfl rfl) (mk_cons (mp_var 1) (mk_cons (mp_var 8) mk_nil))) (ma_cons (mp_var 3) ma_nil)))))))) (ms_one (ms_ret mp_bl)) ms_nil)))) (ms_one (ms_ret (mp_call (fn__law_same c 12) (hr.mono (by decide)) (by rfl) c.d__law_same.g c.d__law_same.f.kp (bd__law_same c) (L2N.takes_of rfl rfl rfl rfl) (ma_cons (mp_call (fn_added c) (hr.mono (by decide)) (by rfl) c.d_added.g c.d_added.f.kp (bd_added c) (L2N.takes_of rfl rfl rfl rfl) (ma_cons (mp_var 1) (ma_cons (mp_var 7) ma_nil))) (ma_cons (mp_call (fn__law_nought c) (hr.mono (by decide)) (by rfl) c.d__law_nought.g c.d__law_nought.f.kp (bd__law_nought c) (L2N.takes_of rfl rfl rfl rfl) (ma_cons (mp_ix ix_X ix_s (mp_var 1) mp_int (fun _ _ => rfl)) (ma_cons (mp_ix ix_X ix_s (mp_var 1) mp_int (fun _ _ => rfl)) ma_nil))) ma_nil))))))))))))))))
theorem sc_law : FnScope ["script", "tape", "across", "middle", "tall", "front", "back", "base", "above", "told"] ["script"] (defScope s_law) := C8.fnScope_by (by decide +kernel)
theorem bd_law (c : Cx K mg base T) : Binds K (fdK K "law") ["script"] [] := c.d_law.f.bindsN fun _ _ _ _ _ _ us hl => match us, hl with | [_], _ => rfl
theorem fn_law (c : Cx K mg base T) : FnOk P w K mg base (L2N.CX P w) 25 (He.ga K "law") (fdK K "law") ["script"] (spI K T 1 (m_law (He.ga K))) := by
  refine fn_mkD (ps := ["script"]) c.d_law sc_law fun cdv A outer s H E hcdv hr => ?_
  exact (ms_cons (ms_set 1 sc_law.nd (mp_call (fn__law_start c) (hr.mono (by decide)) (by rfl) c.d__law_start.g c.d__law_start.f.kp (bd__law_start c) (L2N.takes_of rfl rfl rfl rfl) (ma_cons (mp_var 0) ma_nil))) (ms_cons (ms_set 2 sc_law.nd (mp_call (fn__law_draw c) (hr.mono (by decide)) (by rfl) c.d__law_draw.g c.d__law_draw.f.kp (bd__law_draw c) (L2N.takes_of rfl rfl rfl rfl) (ma_cons (mp_var 1) (ma_cons mp_int ma_nil)))) (ms_cons (ms_set 3 sc_law.nd (mp_call (fn__law_draw c) (hr.mono (by decide)) (by rfl) c.d__law_draw.g c.d__law_draw.f.kp (bd__law_draw c) (L2N.takes_of rfl rfl rfl rfl) (ma_cons (mp_var 1) (ma_cons mp_int ma_nil)))) (ms_cons (ms_set 4 sc_law.nd (mp_call (fn__law_draw c) (hr.mono (by decide)) (by rfl) c.d__law_draw.g c.d__law_draw.f.kp (bd__law_draw c) (L2N.takes_of rfl rfl rfl rfl) (ma_cons (mp_var 1) (ma_cons mp_int ma_nil)))) (ms_cons (ms_if (mp_tcmp op_gt gt_s (mp_op op_addX add_s (mp_op op_addX add_s (mp_var 2) (mp_var 3)) (mp_var 4)) mp_int (nomark _)) (ms_one (ms_set 4 sc_law.nd mp_int)) ms_nil) (ms_cons (ms_if (mp_tcmp (op_eqD hr.units) eq_s (mp_call (fn__law_draw c) (hr.mono (by decide)) (by rfl) c.d__law_draw.g c.d__law_draw.f.kp (bd__law_draw c) (L2N.takes_of rfl rfl rfl rfl) (ma_cons (mp_var 1) (ma_cons mp_int ma_nil))) mp_int (nomark _)) (ms_one (ms_asg (mp_ix ix_X ix_s (mp_tup (ma_cons (mp_tup (ma_cons mp_int (ma_cons mp_int (ma_cons mp_int ma_nil)))) (ma_cons (mp_tup (ma_cons mp_int (ma_cons mp_int (ma_cons mp_int ma_nil)))) (ma_cons (mp_tup (ma_cons mp_int (ma_cons mp_int (ma_cons mp_int ma_nil)))) (ma_cons (mp_tup (ma_cons mp_int (ma_cons mp_int (ma_cons mp_int ma_nil)))) (ma_cons (mp_tup (ma_cons mp_int (ma_cons mp_int (ma_cons mp_int ma_nil)))) ma_nil)))))) (mp_call (fn__law_draw c) (hr.mono (by decide)) (by rfl) c.d__law_draw.g c.d__law_draw.f.kp (bd__law_draw c) (L2N.takes_of rfl rfl rfl rfl) (ma_cons (mp_var 1) (ma_cons mp_int ma_nil))) (fun _ _ => rfl)) (mg_tup rfl (mgs_cons (mg_name 2 sc_law.nd) (mgs_cons (mg_name 3 sc_law.nd) (mgs_cons (mg_name 4 sc_law.nd) mgs_nil)))))) ms_nil) (ms_cons (ms_set 5 sc_law.nd (mp_call (fn__law_drawn c) (hr.mono (by decide)) (by rfl) c.d__law_drawn.g c.d__law_drawn.f.kp (bd__law_drawn c) (L2N.takes_of rfl rfl rfl rfl) (ma_cons (mp_var 1) (ma_cons (mp_var 3) (ma_cons (mp_var 2) ma_nil))))) (ms_cons (ms_set 6 sc_law.nd (mp_call (fn__law_drawn c) (hr.mono (by decide)) (by rfl) c.d__law_drawn.g c.d__law_drawn.f.kp (bd__law_drawn c) (L2N.takes_of rfl rfl rfl rfl) (ma_cons (mp_var 1) (ma_cons (mp_var 4) (ma_cons (mp_var 3) ma_nil))))) (ms_cons (ms_if (PW.pt (mw_or (mp_tnot (mp_tst (mp_call (fn__law_products c) (hr.mono (by decide)) (by rfl) c.d__law_products.g c.d__law_products.f.kp (bd__law_products c) (L2N.takes_of rfl rfl rfl rfl) (ma_cons (mp_var 1) (ma_cons (mp_var 5) (ma_cons (mp_var 6) ma_nil)))))) (mw_or1 (mp_tnot (mp_tst (mp_call (fn__law_refusals c) (hr.mono (by decide)) (by rfl) c.d__law_refusals.g c.d__law_refusals.f.kp (bd__law_refusals c) (L2N.takes_of rfl rfl rfl rfl) (ma_cons (mp_var 1) (ma_cons (mp_var 5) (ma_cons (mp_var 6) ma_nil))))))))) (ms_one (ms_ret mp_bl)) ms_nil) (ms_cons (ms_set 7 sc_law.nd (mp_call (fn__law_drawn c) (hr.mono (by decide)) (by rfl) c.d__law_drawn.g c.d__law_drawn.f.kp (bd__law_drawn c) (L2N.takes_of rfl rfl rfl rfl) (ma_cons (mp_var 1) (ma_cons (mp_call (fn__law_draw c) (hr.mono (by decide)) (by rfl) c.d__law_draw.g c.d__law_draw.f.kp (bd__law_draw c) (L2N.takes_of rfl rfl rfl rfl) (ma_cons (mp_var 1) (ma_cons mp_int ma_nil))) (ma_cons (mp_call (fn__law_draw c) (hr.mono (by decide)) (by rfl) c.d__law_draw.g c.d__law_draw.f.kp (bd__law_draw c) (L2N.takes_of rfl rfl rfl rfl) (ma_cons (mp_var 1) (ma_cons mp_int ma_nil))) ma_nil))))) (ms_cons (ms_set 8 sc_law.nd (mp_call (fn__law_drawn c) (hr.mono (by decide)) (by rfl) c.d__law_drawn.g c.d__law_drawn.f.kp (bd__law_drawn c) (L2N.takes_of rfl rfl rfl rfl) (ma_cons (mp_var 1) (ma_cons (mp_call (fn__law_draw c) (hr.mono (by decide)) (by rfl) c.d__law_draw.g c.d__law_draw.f.kp (bd__law_draw c) (L2N.takes_of rfl rfl rfl rfl) (ma_cons (mp_var 1) (ma_cons mp_int ma_nil))) (ma_cons (mp_call (fn__law_draw c) (hr.mono (by decide)) (by rfl) c.d__law_draw.g c.d__law_draw.f.kp (bd__law_draw c) (L2N.takes_of rfl rfl rfl rfl) (ma_cons (mp_var 1) (ma_cons mp_int ma_nil))) ma_nil))))) (ms_cons (ms_if (mp_tcmp (op_eqD hr.units) eq_s (mp_call (fn__law_draw c) (hr.mono (by decide)) (by rfl) c.d__law_draw.g c.d__law_draw.f.kp (bd__law_draw c) (L2N.takes_of rfl rfl rfl rfl) (ma_cons (mp_var 1) (ma_cons mp_int ma_nil))) mp_int (nomark _)) (ms_cons (ms_set 7 sc_law.nd (mp_call (fn__law_drawn c) (hr.mono (by decide)) (by rfl) c.d__law_drawn.g c.d__law_drawn.f.kp (bd__law_drawn c) (L2N.takes_of rfl rfl rfl rfl) (ma_cons (mp_var 1) (ma_cons mp_int (ma_cons (mp_call (fn__law_draw c) (hr.mono (by decide)) (by rfl) c.d__law_draw.g c.d__law_draw.f.kp (bd__law_draw c) (L2N.takes_of rfl rfl rfl rfl) (ma_cons (mp_var 1) (ma_cons mp_int ma_nil))) ma_nil))))) (ms_one (ms_set 8 sc_law.nd (mp_call (fn__law_drawn c) (hr.mono (by decide)) (by rfl) c.d__law_drawn.g c.d__law_drawn.f.kp (bd__law_drawn c) (L2N.takes_of rfl rfl rfl rfl) (ma_cons (mp_var 1) (ma_cons mp_int (ma_cons (mp_call (fn__law_draw c) (hr.mono (by decide)) (by rfl) c.d__law_draw.g c.d__law_draw.f.kp (bd__law_draw c) (L2N.takes_of rfl rfl rfl rfl) (ma_cons (mp_var 1) (ma_cons mp_int ma_nil))) ma_nil))))))) ms_nil) (ms_cons (ms_set 9 sc_law.nd (mp_call (fn_side_by_side c) (hr.mono (by decide)) (by rfl) c.d_side_by_side.g c.d_side_by_side.f.kp (bd_side_by_side c) (L2N.takes_of rfl rfl rfl rfl) (ma_cons (mp_var 7) (ma_cons (mp_var 8) ma_nil)))) (ms_cons (ms_if (PW.pt (mw_or (mp_tnot (mp_tst (mp_call (fn__law_beside c) (hr.mono (by decide)) (by rfl) c.d__law_beside.g c.d__law_beside.f.kp (bd__law_beside c) (L2N.takes_of rfl rfl rfl rfl) (ma_cons (mp_var 7) (ma_cons (mp_var 8) (ma_cons (mp_var 9) ma_nil)))))) (mw_or1 (mp_tnot (mp_tst (mp_call (fn__law_same c 12) (hr.mono (by decide)) (by rfl) c.d__law_same.g c.d__law_same.f.kp (bd__law_same c) (L2N.takes_of rfl rfl rfl rfl) (ma_cons (mp_callK0 [1, 0] (fn_side_by_side c) (hr.mono (by decide)) (by rfl) c.d_side_by_side.g c.d_side_by_side.f.kp (kb_side_by_side_high_low c) (L2N.takes_of rfl rfl rfl rfl) (mk_cons (mp_var 8) (mk_cons (mp_var 7) mk_nil))) (ma_cons (mp_var 9) ma_nil)))))))) (ms_one (ms_ret mp_bl)) ms_nil) (ms_one (ms_ret (mp_call (fn__law_beside c) (hr.mono (by decide)) (by rfl) c.d__law_beside.g c.d__law_beside.f.kp (bd__law_beside c) (L2N.takes_of rfl rfl rfl rfl) (ma_cons (mp_var 8) (ma_cons (mp_var 7) (ma_cons (mp_call (fn_side_by_side c) (hr.mono (by decide)) (by rfl) c.d_side_by_side.g c.d_side_by_side.f.kp (bd_side_by_side c) (L2N.takes_of rfl rfl rfl rfl) (ma_cons (mp_var 8) (ma_cons (mp_var 7) ma_nil))) ma_nil))))))))))))))))))))
end
end K29

set_option Elab.async false
set_option linter.all false
set_option maxRecDepth 100000
set_option maxHeartbeats 0
namespace K29
open PySem PySem.Spec PyProof.Rows L2 Mp

def dd_need : He.DefD := ⟨("need", none), "need", "need", defArgs s_need, defBody s_need, defScope s_need, [], []⟩
def dd_is_integer : He.DefD := ⟨("is_integer", none), "is_integer", "is_integer", defArgs s_is_integer, defBody s_is_integer, defScope s_is_integer, [], []⟩
def dd_is_number : He.DefD := ⟨("is_number", none), "is_number", "is_number", defArgs s_is_number, defBody s_is_number, defScope s_is_number, [], []⟩
def dd_is_tuple_of : He.DefD := ⟨("is_tuple_of", none), "is_tuple_of", "is_tuple_of", defArgs s_is_tuple_of, defBody s_is_tuple_of, defScope s_is_tuple_of, [], []⟩
def dd_is_exact : He.DefD := ⟨("is_exact", none), "is_exact", "is_exact", defArgs s_is_exact, defBody s_is_exact, defScope s_is_exact, [], []⟩
def dd_exact_sum : He.DefD := ⟨("exact_sum", none), "exact_sum", "exact_sum", defArgs s_exact_sum, defBody s_exact_sum, defScope s_exact_sum, [], []⟩
def dd_exact_product : He.DefD := ⟨("exact_product", none), "exact_product", "exact_product", defArgs s_exact_product, defBody s_exact_product, defScope s_exact_product, [], []⟩
def dd_mirror_of : He.DefD := ⟨("mirror_of", none), "mirror_of", "mirror_of", defArgs s_mirror_of, defBody s_mirror_of, defScope s_mirror_of, [], []⟩
def dd_by_root : He.DefD := ⟨("by_root", none), "by_root", "by_root", defArgs s_by_root, defBody s_by_root, defScope s_by_root, [], []⟩
def dd_times_roots : He.DefD := ⟨("times_roots", none), "times_roots", "times_roots", defArgs s_times_roots, defBody s_times_roots, defScope s_times_roots, [], []⟩
def dd_is_width_of : He.DefD := ⟨("is_width_of", none), "is_width_of", "is_width_of", defArgs s_is_width_of, defBody s_is_width_of, defScope s_is_width_of, [], []⟩
def dd_is_row : He.DefD := ⟨("is_row", none), "is_row", "is_row", defArgs s_is_row, defBody s_is_row, defScope s_is_row, [], []⟩
def dd_is_rows : He.DefD := ⟨("is_rows", none), "is_rows", "is_rows", defArgs s_is_rows, defBody s_is_rows, defScope s_is_rows, [], []⟩
def dd_rows_by_root : He.DefD := ⟨("rows_by_root", none), "rows_by_root", "rows_by_root", defArgs s_rows_by_root, defBody s_rows_by_root, defScope s_rows_by_root, [], []⟩
def dd_is_nought_rows : He.DefD := ⟨("is_nought_rows", none), "is_nought_rows", "is_nought_rows", defArgs s_is_nought_rows, defBody s_is_nought_rows, defScope s_is_nought_rows, [], []⟩
def dd_is_table : He.DefD := ⟨("is_table", none), "is_table", "is_table", defArgs s_is_table, defBody s_is_table, defScope s_is_table, [], []⟩
def dd_one_form : He.DefD := ⟨("one_form", none), "one_form", "one_form", defArgs s_one_form, defBody s_one_form, defScope s_one_form, [], []⟩
def dd_chained_row : He.DefD := ⟨("chained_row", none), "chained_row", "chained_row", defArgs s_chained_row, defBody s_chained_row, defScope s_chained_row, [], []⟩
def dd_chained : He.DefD := ⟨("chained", none), "chained", "chained", defArgs s_chained, defBody s_chained, defScope s_chained, [], []⟩
def dd_side_by_side : He.DefD := ⟨("side_by_side", none), "side_by_side", "side_by_side", defArgs s_side_by_side, defBody s_side_by_side, defScope s_side_by_side, [], []⟩
def dd_mirrored : He.DefD := ⟨("mirrored", none), "mirrored", "mirrored", defArgs s_mirrored, defBody s_mirrored, defScope s_mirrored, [], []⟩
def dd_rows_over : He.DefD := ⟨("rows_over", none), "rows_over", "rows_over", defArgs s_rows_over, defBody s_rows_over, defScope s_rows_over, [], []⟩
def dd_added : He.DefD := ⟨("added", none), "added", "added", defArgs s_added, defBody s_added, defScope s_added, [], []⟩
def dd__law_start : He.DefD := ⟨("_law_start", none), "_law_start", "_law_start", defArgs s__law_start, defBody s__law_start, defScope s__law_start, [], []⟩
def dd__law_draw : He.DefD := ⟨("_law_draw", none), "_law_draw", "_law_draw", defArgs s__law_draw, defBody s__law_draw, defScope s__law_draw, [], []⟩
def dd__law_signed : He.DefD := ⟨("_law_signed", none), "_law_signed", "_law_signed", defArgs s__law_signed, defBody s__law_signed, defScope s__law_signed, [], []⟩
def dd__law_whole : He.DefD := ⟨("_law_whole", none), "_law_whole", "_law_whole", defArgs s__law_whole, defBody s__law_whole, defScope s__law_whole, [], []⟩
def dd__law_same : He.DefD := ⟨("_law_same", none), "_law_same", "_law_same", defArgs s__law_same, defBody s__law_same, defScope s__law_same, [], []⟩
def dd__law_value : He.DefD := ⟨("_law_value", none), "_law_value", "_law_value", defArgs s__law_value, defBody s__law_value, defScope s__law_value, [], []⟩
def dd__law_root : He.DefD := ⟨("_law_root", none), "_law_root", "_law_root", defArgs s__law_root, defBody s__law_root, defScope s__law_root, [], []⟩
def dd__law_has_r : He.DefD := ⟨("_law_has_r", none), "_law_has_r", "_law_has_r", defArgs s__law_has_r, defBody s__law_has_r, defScope s__law_has_r, [], []⟩
def dd__law_formed : He.DefD := ⟨("_law_formed", none), "_law_formed", "_law_formed", defArgs s__law_formed, defBody s__law_formed, defScope s__law_formed, [], []⟩
def dd__law_table : He.DefD := ⟨("_law_table", none), "_law_table", "_law_table", defArgs s__law_table, defBody s__law_table, defScope s__law_table, [], []⟩
def dd__law_unit : He.DefD := ⟨("_law_unit", none), "_law_unit", "_law_unit", defArgs s__law_unit, defBody s__law_unit, defScope s__law_unit, [], []⟩
def dd__law_small : He.DefD := ⟨("_law_small", none), "_law_small", "_law_small", defArgs s__law_small, defBody s__law_small, defScope s__law_small, [], []⟩
def dd__law_drawn : He.DefD := ⟨("_law_drawn", none), "_law_drawn", "_law_drawn", defArgs s__law_drawn, defBody s__law_drawn, defScope s__law_drawn, [], []⟩
def dd__law_entry : He.DefD := ⟨("_law_entry", none), "_law_entry", "_law_entry", defArgs s__law_entry, defBody s__law_entry, defScope s__law_entry, [], []⟩
def dd__law_chain : He.DefD := ⟨("_law_chain", none), "_law_chain", "_law_chain", defArgs s__law_chain, defBody s__law_chain, defScope s__law_chain, [], []⟩
def dd__law_beside : He.DefD := ⟨("_law_beside", none), "_law_beside", "_law_beside", defArgs s__law_beside, defBody s__law_beside, defScope s__law_beside, [], []⟩
def dd__law_over : He.DefD := ⟨("_law_over", none), "_law_over", "_law_over", defArgs s__law_over, defBody s__law_over, defScope s__law_over, [], []⟩
def dd__law_sum : He.DefD := ⟨("_law_sum", none), "_law_sum", "_law_sum", defArgs s__law_sum, defBody s__law_sum, defScope s__law_sum, [], []⟩
def dd__law_refused : He.DefD := ⟨("_law_refused", none), "_law_refused", "_law_refused", defArgs s__law_refused, defBody s__law_refused, defScope s__law_refused, [], []⟩
def dd__law_nought : He.DefD := ⟨("_law_nought", none), "_law_nought", "_law_nought", defArgs s__law_nought, defBody s__law_nought, defScope s__law_nought, [], []⟩
def dd__law_bent : He.DefD := ⟨("_law_bent", none), "_law_bent", "_law_bent", defArgs s__law_bent, defBody s__law_bent, defScope s__law_bent, [], []⟩
def dd__law_refusals : He.DefD := ⟨("_law_refusals", none), "_law_refusals", "_law_refusals", defArgs s__law_refusals, defBody s__law_refusals, defScope s__law_refusals, [], []⟩
def dd__law_products : He.DefD := ⟨("_law_products", none), "_law_products", "_law_products", defArgs s__law_products, defBody s__law_products, defScope s__law_products, [], []⟩
def dd_law : He.DefD := ⟨("law", none), "law", "law", defArgs s_law, defBody s_law, defScope s_law, [], []⟩
def dd_init : He.DefD := ⟨("NotUsable", some "__init__"), "__init__", "NotUsable.__init__", defArgs i_NotUsable, defBody i_NotUsable, defScope i_NotUsable, [], []⟩
def hFn : List He.DefD := ([dd_need, dd_is_integer, dd_is_number, dd_is_tuple_of, dd_is_exact, dd_exact_sum, dd_exact_product, dd_mirror_of, dd_by_root, dd_times_roots, dd_is_width_of, dd_is_row, dd_is_rows, dd_rows_by_root, dd_is_nought_rows, dd_is_table, dd_one_form, dd_chained_row, dd_chained, dd_side_by_side, dd_mirrored, dd_rows_over, dd_added, dd__law_start, dd__law_draw, dd__law_signed, dd__law_whole, dd__law_same, dd__law_value, dd__law_root] : List He.DefD) ++ ([dd__law_has_r, dd__law_formed, dd__law_table, dd__law_unit, dd__law_small, dd__law_drawn, dd__law_entry, dd__law_chain, dd__law_beside, dd__law_over, dd__law_sum, dd__law_refused, dd__law_nought, dd__law_bent, dd__law_refusals, dd__law_products, dd_law, dd_init] : List He.DefD)
def hFa : List He.Fa := ([.glo "need", .glo "is_integer", .glo "is_number", .glo "is_tuple_of", .glo "is_exact", .glo "exact_sum", .glo "exact_product", .glo "mirror_of", .glo "by_root", .glo "times_roots", .glo "is_width_of", .glo "is_row", .glo "is_rows", .glo "rows_by_root", .glo "is_nought_rows", .glo "is_table", .glo "one_form", .glo "chained_row", .glo "chained", .glo "side_by_side", .glo "mirrored", .glo "rows_over", .glo "added", .glo "_law_start", .glo "_law_draw", .glo "_law_signed", .glo "_law_whole", .glo "_law_same", .glo "_law_value", .glo "_law_root"] : List He.Fa) ++ ([.glo "_law_has_r", .glo "_law_formed", .glo "_law_table", .glo "_law_unit", .glo "_law_small", .glo "_law_drawn", .glo "_law_entry", .glo "_law_chain", .glo "_law_beside", .glo "_law_over", .glo "_law_sum", .glo "_law_refused", .glo "_law_nought", .glo "_law_bent", .glo "_law_refusals", .glo "_law_products", .glo "law", .glo "LookError", .glo "WebError", .glo "NotUsable", .glo "NOUGHT", .glo "ROOT", .free "ValueError", .free "abs", .free "all", .free "bool", .free "int", .free "isinstance", .free "len", .free "list"] : List He.Fa) ++ ([.free "max", .free "min", .free "range", .free "str", .free "tuple", .free "zip"] : List He.Fa)
def hLoose : List PySem.Str := (["need", "is_integer", "is_number", "is_tuple_of", "is_exact", "exact_sum", "exact_product", "mirror_of", "by_root", "times_roots", "is_width_of", "is_row", "is_rows", "rows_by_root", "is_nought_rows", "is_table", "one_form", "chained_row", "chained", "side_by_side", "mirrored", "rows_over", "added", "_law_start", "_law_draw", "_law_signed", "_law_whole", "_law_same", "_law_value", "_law_root"] : List PySem.Str) ++ (["_law_has_r", "_law_formed", "_law_table", "_law_unit", "_law_small", "_law_drawn", "_law_entry", "_law_chain", "_law_beside", "_law_over", "_law_sum", "_law_refused", "_law_nought", "_law_bent", "_law_refusals", "_law_products", "LookError", "WebError", "NotUsable", "NOUGHT", "ROOT"] : List PySem.Str)
def hTf : List He.Defn := [("is_exact", none), ("is_nought_rows", none), ("is_row", none), ("is_rows", none), ("one_form", none), ("_law_refusals", none)]
/-- an own error class, made of ValueError's -/
def oexB (K : PySem.W.Frag) (C : Addr) : Bool := match K.lookup C with
  | some ⟨.type "type", _, .cls cd, sl⟩ => (match cd.mro, sl.toList with
    | .ref C' :: bm, [_, _, _, _, some (.builtin n), _] => decide (C' = C) && (decide (n = "ValueError.__new__") && (!cd.hasDel && (cd.hasDict && PySem.HandSPX.refsVE bm)))
    | _, _ => false)
  | _ => false
def excB (K : PySem.W.Frag) (D : Addr) : Bool := decide (PySem.W.findIn K (.ref D) "__getattribute__" = some (some (.builtin "BaseException.__getattribute__"))) && (decide (PySem.W.findIn K (.ref D) "__getattr__" = some none) && (decide (PySem.W.subIn K (.ref D) (.type "BaseException") = some true) && (PySem.W.hasDictIn K D &&
  (decide (PySem.W.findIn K (.ref D) "__class__" = some (some (.builtin "object.__class__"))) && (decide (PySem.W.specialIn K (.builtin "object.__class__") "__get__" = some (some (.builtin "getset_descriptor.__get__"))) && (decide (PySem.W.takesIn K (.builtin "object.__class__") = some true) && decide (PySem.W.mroIn K D (.type "object") = some true)))))))
def intsB : List Int → List Value → Bool
  | [], [] => true
  | i :: r, .int j _ :: u => decide (i = j) && intsB r u
  | _, _ => false
def tupB (K : PySem.W.Frag) (a : Addr) (ns : List Int) : Bool := match K.lookup a with
  | some ⟨.type c, _, .seq its _, _⟩ => decide (c = "tuple") && (decide (its.size ≤ 100) && intsB ns its.toList)
  | _ => false
def noLB (K : PySem.W.Frag) : Bool := K.all fun q => match q.2.cls with
  | .type c => !decide (c = "list")
  | _ => true
def codB (K : PySem.W.Frag) (x : Str) : Bool := match K.lookup (He.ga K x) with
  | some ⟨_, _, .func fd, _⟩ => (match fd.code with
    | .ref _ => true
    | _ => false)
  | _ => false
def hEx (K : PySem.W.Frag) : Bool := oexB K (He.ga K "NotUsable") && (xfB K (He.ga K "NotUsable") && (excB K (He.ga K "NotUsable") &&
  (decide (PySem.W.findIn K (.ref (He.ga K "NotUsable")) "__init__" = some (some (.ref (He.ma K (He.ga K "NotUsable") "__init__")))) && (decide (PySem.W.typeIn K (.ref (He.ma K (He.ga K "NotUsable") "__init__")) = some (.type "function")) &&
  (decide (PySem.W.findIn K (.ref (He.ga K "NotUsable")) "word" = some none) && (decide (PySem.W.findIn K (.ref (He.ga K "NotUsable")) "at" = some none) &&
  (decide (PySem.W.kitOne K (.ref (He.ga K "NotUsable")) (.ref (He.ga K "WebError")) = some true) && (decide (PySem.W.kitOne K (.ref (He.ga K "NotUsable")) (.type "ValueError") = some true) && (decide (PySem.W.exmOne K (.ref (He.ga K "NotUsable")) (.ref (He.ga K "NotUsable")) = some true) &&
  (decide (PySem.W.findIn K (.ref (He.ga K "NotUsable")) "__setattr__" = some (some (.builtin "object.__setattr__"))) && (decide (PySem.W.typeIn K (.ref (He.ga K "NotUsable")) = some (.type "type")) && (PySem.W.keepIn K (.ref (He.ga K "NotUsable")) &&
  (tupB K (He.ga K "NOUGHT") [0, 0, 0, 0] && (tupB K (He.ga K "ROOT") [0, 1, 0, -1] && (noLB K && ((["is_exact", "is_nought_rows", "is_row", "is_rows", "one_form", "_law_refusals"] : List Str).all (codB K) && (["is_exact", "is_nought_rows", "is_row", "is_rows", "one_form"] : List Str).all fun x => !decide (pA K "_law_refusals" = pA K x)))))))))))))))))

abbrev hR : PySem.W.OpenRow := PySem.W.OpenLaw.row PySem.Challenge.rw_lookundone_k29_products_of_tables
abbrev hHk : PySem.W.Hook := He.hookX 6 hFa hFn [] hTf hEx
def hOb (s : PySem.W.SharedT) : He.AlX := He.obsX 6 hFa hFn [] hTf hEx (HandSHeadRun.getT s)
theorem hOb_eq (s : PySem.W.SharedT) : hOb s = hHk.obs s.abs := He.obsX_eq (HandSHeadRun.getT_eq s)
theorem hRun (w : World) : HandSHeadRun.RunEq hR (PySem.W.view hR.prog [57]) hHk hOb 4000 hLoose w := by
  intro os
  kernel_rfl
end K29

set_option Elab.async false
set_option linter.all false
set_option maxRecDepth 100000
set_option maxHeartbeats 0
namespace K29
open PySem PySem.Spec PyProof.Rows L2 Mp
section
variable {w : World} {h : Heap} {K : PySem.W.Frag} {mg : Str → Option Value} {base : Heap}
theorem oexB_ok {C : Addr} (e : oexB K C = true) : ∃ nm q N bs bm sn sub ab col dd k0 k1 k2 k3 k5, K.lookup C = some (excClassObj nm q C N bs bm true sn sub ab col dd k0 k1 k2 k3 k5 "ValueError.__new__") ∧ PySem.HandSPX.refsVE bm = true := by
  unfold oexB at e
  split at e
  · rename_i dd cd sl ho
    split at e
    · rename_i C' bm k0 k1 k2 k3 n k5 hm hs
      simp only [Bool.and_eq_true, decide_eq_true_eq, Bool.not_eq_true'] at e
      obtain ⟨rfl, rfl, hdel, hdct, hbm⟩ := e
      obtain ⟨nm, bs, mro, ns, qn, hd, sn, sub, ab, col, del⟩ := cd
      dsimp only at hm hdel hdct
      subst hm hdel hdct
      have hsl : sl = #[k0, k1, k2, k3, some (.builtin "ValueError.__new__"), k5] := by
        obtain ⟨l⟩ := sl
        simp only at hs
        rw [hs]
      subst hsl
      exact ⟨nm, qn, ns, bs, bm, sn, sub, ab, col, dd, k0, k1, k2, k3, k5, ho, hbm⟩
    · cases e
  · cases e
theorem excB_ok {D : Addr} (e : excB K D = true) : L2.ExcC K D := by
  unfold excB at e
  simp only [Bool.and_eq_true, decide_eq_true_eq] at e
  obtain ⟨h1, h2, h3, h4, h5, h6, h7, h8⟩ := e
  exact ⟨h1, h2, h3, h4, h5, h6, h7, h8⟩
theorem intsB_ok : ∀ {ns : List Int} {us : List Value}, intsB ns us = true → Vals (ns.map V.int) us
  | [], [], _ => .nil
  | [], _ :: _, e => by cases e
  | _ :: _, [], e => by cases e
  | i :: r, u :: us, e => by
    cases u with
    | int j t =>
      have e2 : (decide (i = j) && intsB r us) = true := e
      simp only [Bool.and_eq_true, decide_eq_true_eq] at e2
      exact .cons ⟨t, by rw [e2.1]⟩ (intsB_ok e2.2)
    | _ => cases e
theorem tupB_ok {a : Addr} {ns : List Int} (e : tupB K a ns = true) (H : Hp) : SqT K H a (ns.map V.int) := by
  unfold tupB at e
  split at e
  · rename_i c dd its n sl ho
    simp only [Bool.and_eq_true, decide_eq_true_eq] at e
    obtain ⟨rfl, h1, h2⟩ := e
    exact .inr ⟨_, its, n, ho, rfl, rfl, by rw [sizeLine_eq]; omega, intsB_ok h2⟩
  · cases e
theorem noLB_ok (e : noLB K = true) {a : Addr} {o : Obj} (l : K.lookup a = some o) : o.cls ≠ .type "list" := fun z => by
  have h := List.all_eq_true.mp e _ (He.lookup_mem l)
  dsimp only at h
  rw [z] at h
  simp at h
theorem codB_ok {x : Str} (e : codB K x = true) : (fdK K x).code = .ref (cA K x) := by
  unfold codB at e
  unfold fdK
  show _ = Value.ref (He.codeOf K (x, none))
  unfold He.codeOf He.fAd
  dsimp only
  cases q : K.lookup (He.ga K x) with
  | none => rw [q] at e; cases e
  | some o =>
    obtain ⟨oc, od, dt, osl⟩ := o
    rw [q] at e
    cases dt with
    | func fd =>
      dsimp only at e ⊢
      split at e
      · next c hc => rw [hc]
      · cases e
    | _ => cases e
/-- all that hEx tells -/
structure HxF (K : PySem.W.Frag) : Prop where
  oex : oexB K (He.ga K "NotUsable") = true
  xf : xfB K (He.ga K "NotUsable") = true
  exc : excB K (He.ga K "NotUsable") = true
  iC : PySem.W.findIn K (.ref (He.ga K "NotUsable")) "__init__" = some (some (.ref (He.ma K (He.ga K "NotUsable") "__init__")))
  tI : PySem.W.typeIn K (.ref (He.ma K (He.ga K "NotUsable") "__init__")) = some (.type "function")
  n1 : PySem.W.findIn K (.ref (He.ga K "NotUsable")) "word" = some none
  n2 : PySem.W.findIn K (.ref (He.ga K "NotUsable")) "at" = some none
  k1 : PySem.W.kitOne K (.ref (He.ga K "NotUsable")) (.ref (He.ga K "WebError")) = some true
  k2 : PySem.W.kitOne K (.ref (He.ga K "NotUsable")) (.type "ValueError") = some true
  ex : PySem.W.exmOne K (.ref (He.ga K "NotUsable")) (.ref (He.ga K "NotUsable")) = some true
  sa : PySem.W.findIn K (.ref (He.ga K "NotUsable")) "__setattr__" = some (some (.builtin "object.__setattr__"))
  ty : PySem.W.typeIn K (.ref (He.ga K "NotUsable")) = some (.type "type")
  kp : PySem.W.keepIn K (.ref (He.ga K "NotUsable")) = true
  no : tupB K (He.ga K "NOUGHT") [0, 0, 0, 0] = true
  ro : tupB K (He.ga K "ROOT") [0, 1, 0, -1] = true
  nl : noLB K = true
  cd : (["is_exact", "is_nought_rows", "is_row", "is_rows", "one_form", "_law_refusals"] : List Str).all (codB K) = true
  df : (["is_exact", "is_nought_rows", "is_row", "is_rows", "one_form"] : List Str).all (fun x => !decide (pA K "_law_refusals" = pA K x)) = true
theorem hEx_ok (e : hEx K = true) : HxF K := by
  unfold hEx at e
  simp only [Bool.and_eq_true, decide_eq_true_eq] at e
  obtain ⟨a1, a2, a3, a4, a5, a6, a7, a8, a9, a10, a11, a12, a13, a14, a15, a16, a17, a18⟩ := e
  exact ⟨a1, a2, a3, a4, a5, a6, a7, a8, a9, a10, a11, a12, a13, a14, a15, a16, a17, a18⟩
def hT (K : PySem.W.Frag) : Tb := ⟨[pA K "is_exact", pA K "is_nought_rows", pA K "is_row", pA K "is_rows", pA K "one_form"], [(pA K "_law_refusals", (envOfC "_law_refusals" (defScope s__law_refusals) 0 0 .none).qual ++ "<lambda>")]⟩
abbrev hCs (K : PySem.W.Frag) : List (Addr × Addr) := hTf.map (He.cT K)
theorem hCx (X : K.In h) (G : h.Ns mainGlobals mg) (c : He.SaysX hFa hFn [] hTf hEx w h K) (hb : ∀ p ∈ hCs K, LamX.TabB base mg p.1 p.2) : Cx K mg base (hT K) := by
  have d := c.t.d
  have f := hEx_ok c.more
  have glo : ∀ x : Str, He.Fa.glo x ∈ hFa → mg x = some (.ref (He.ga K x)) := fun x hx => He.glo_ok X G (d.facts hx)
  have free : ∀ x : Str, He.Fa.free x ∈ hFa → mg x = none := fun x hx => He.free_ok X G (d.facts hx)
  have gl : ∀ x : Str, (x, (none : Option Str)) ∈ hTf → GxR.TabB base mg (cA K x) (pA K x) := fun x hx => by
    obtain ⟨h1, h2, h3⟩ := hb (He.cT K (x, none)) (List.mem_map_of_mem hx)
    exact ⟨h1, h2, h3⟩
  have ld := hb (He.cT K ("_law_refusals", none)) (List.mem_map_of_mem (by simp [hTf]))
  have cod : ∀ x ∈ (["is_exact", "is_nought_rows", "is_row", "is_rows", "one_form", "_law_refusals"] : List Str), (fdK K x).code = .ref (cA K x) := fun x hx => codB_ok (List.all_eq_true.mp f.cd x hx)
  exact {
    d_need := by
      obtain ⟨fd, F⟩ := d.defs (d := dd_need) (by simp [hFn])
      exact defC_of F (glo "need" (by simp [hFa]))
    d_is_integer := by
      obtain ⟨fd, F⟩ := d.defs (d := dd_is_integer) (by simp [hFn])
      exact defC_of F (glo "is_integer" (by simp [hFa]))
    d_is_number := by
      obtain ⟨fd, F⟩ := d.defs (d := dd_is_number) (by simp [hFn])
      exact defC_of F (glo "is_number" (by simp [hFa]))
    d_is_tuple_of := by
      obtain ⟨fd, F⟩ := d.defs (d := dd_is_tuple_of) (by simp [hFn])
      exact defC_of F (glo "is_tuple_of" (by simp [hFa]))
    d_is_exact := by
      obtain ⟨fd, F⟩ := d.defs (d := dd_is_exact) (by simp [hFn])
      exact defC_of F (glo "is_exact" (by simp [hFa]))
    d_exact_sum := by
      obtain ⟨fd, F⟩ := d.defs (d := dd_exact_sum) (by simp [hFn])
      exact defC_of F (glo "exact_sum" (by simp [hFa]))
    d_exact_product := by
      obtain ⟨fd, F⟩ := d.defs (d := dd_exact_product) (by simp [hFn])
      exact defC_of F (glo "exact_product" (by simp [hFa]))
    d_mirror_of := by
      obtain ⟨fd, F⟩ := d.defs (d := dd_mirror_of) (by simp [hFn])
      exact defC_of F (glo "mirror_of" (by simp [hFa]))
    d_by_root := by
      obtain ⟨fd, F⟩ := d.defs (d := dd_by_root) (by simp [hFn])
      exact defC_of F (glo "by_root" (by simp [hFa]))
    d_times_roots := by
      obtain ⟨fd, F⟩ := d.defs (d := dd_times_roots) (by simp [hFn])
      exact defC_of F (glo "times_roots" (by simp [hFa]))
    d_is_width_of := by
      obtain ⟨fd, F⟩ := d.defs (d := dd_is_width_of) (by simp [hFn])
      exact defC_of F (glo "is_width_of" (by simp [hFa]))
    d_is_row := by
      obtain ⟨fd, F⟩ := d.defs (d := dd_is_row) (by simp [hFn])
      exact defC_of F (glo "is_row" (by simp [hFa]))
    d_is_rows := by
      obtain ⟨fd, F⟩ := d.defs (d := dd_is_rows) (by simp [hFn])
      exact defC_of F (glo "is_rows" (by simp [hFa]))
    d_rows_by_root := by
      obtain ⟨fd, F⟩ := d.defs (d := dd_rows_by_root) (by simp [hFn])
      exact defC_of F (glo "rows_by_root" (by simp [hFa]))
    d_is_nought_rows := by
      obtain ⟨fd, F⟩ := d.defs (d := dd_is_nought_rows) (by simp [hFn])
      exact defC_of F (glo "is_nought_rows" (by simp [hFa]))
    d_is_table := by
      obtain ⟨fd, F⟩ := d.defs (d := dd_is_table) (by simp [hFn])
      exact defC_of F (glo "is_table" (by simp [hFa]))
    d_one_form := by
      obtain ⟨fd, F⟩ := d.defs (d := dd_one_form) (by simp [hFn])
      exact defC_of F (glo "one_form" (by simp [hFa]))
    d_chained_row := by
      obtain ⟨fd, F⟩ := d.defs (d := dd_chained_row) (by simp [hFn])
      exact defC_of F (glo "chained_row" (by simp [hFa]))
    d_chained := by
      obtain ⟨fd, F⟩ := d.defs (d := dd_chained) (by simp [hFn])
      exact defC_of F (glo "chained" (by simp [hFa]))
    d_side_by_side := by
      obtain ⟨fd, F⟩ := d.defs (d := dd_side_by_side) (by simp [hFn])
      exact defC_of F (glo "side_by_side" (by simp [hFa]))
    d_mirrored := by
      obtain ⟨fd, F⟩ := d.defs (d := dd_mirrored) (by simp [hFn])
      exact defC_of F (glo "mirrored" (by simp [hFa]))
    d_rows_over := by
      obtain ⟨fd, F⟩ := d.defs (d := dd_rows_over) (by simp [hFn])
      exact defC_of F (glo "rows_over" (by simp [hFa]))
    d_added := by
      obtain ⟨fd, F⟩ := d.defs (d := dd_added) (by simp [hFn])
      exact defC_of F (glo "added" (by simp [hFa]))
    d__law_start := by
      obtain ⟨fd, F⟩ := d.defs (d := dd__law_start) (by simp [hFn])
      exact defC_of F (glo "_law_start" (by simp [hFa]))
    d__law_draw := by
      obtain ⟨fd, F⟩ := d.defs (d := dd__law_draw) (by simp [hFn])
      exact defC_of F (glo "_law_draw" (by simp [hFa]))
    d__law_signed := by
      obtain ⟨fd, F⟩ := d.defs (d := dd__law_signed) (by simp [hFn])
      exact defC_of F (glo "_law_signed" (by simp [hFa]))
    d__law_whole := by
      obtain ⟨fd, F⟩ := d.defs (d := dd__law_whole) (by simp [hFn])
      exact defC_of F (glo "_law_whole" (by simp [hFa]))
    d__law_same := by
      obtain ⟨fd, F⟩ := d.defs (d := dd__law_same) (by simp [hFn])
      exact defC_of F (glo "_law_same" (by simp [hFa]))
    d__law_value := by
      obtain ⟨fd, F⟩ := d.defs (d := dd__law_value) (by simp [hFn])
      exact defC_of F (glo "_law_value" (by simp [hFa]))
    d__law_root := by
      obtain ⟨fd, F⟩ := d.defs (d := dd__law_root) (by simp [hFn])
      exact defC_of F (glo "_law_root" (by simp [hFa]))
    d__law_has_r := by
      obtain ⟨fd, F⟩ := d.defs (d := dd__law_has_r) (by simp [hFn])
      exact defC_of F (glo "_law_has_r" (by simp [hFa]))
    d__law_formed := by
      obtain ⟨fd, F⟩ := d.defs (d := dd__law_formed) (by simp [hFn])
      exact defC_of F (glo "_law_formed" (by simp [hFa]))
    d__law_table := by
      obtain ⟨fd, F⟩ := d.defs (d := dd__law_table) (by simp [hFn])
      exact defC_of F (glo "_law_table" (by simp [hFa]))
    d__law_unit := by
      obtain ⟨fd, F⟩ := d.defs (d := dd__law_unit) (by simp [hFn])
      exact defC_of F (glo "_law_unit" (by simp [hFa]))
    d__law_small := by
      obtain ⟨fd, F⟩ := d.defs (d := dd__law_small) (by simp [hFn])
      exact defC_of F (glo "_law_small" (by simp [hFa]))
    d__law_drawn := by
      obtain ⟨fd, F⟩ := d.defs (d := dd__law_drawn) (by simp [hFn])
      exact defC_of F (glo "_law_drawn" (by simp [hFa]))
    d__law_entry := by
      obtain ⟨fd, F⟩ := d.defs (d := dd__law_entry) (by simp [hFn])
      exact defC_of F (glo "_law_entry" (by simp [hFa]))
    d__law_chain := by
      obtain ⟨fd, F⟩ := d.defs (d := dd__law_chain) (by simp [hFn])
      exact defC_of F (glo "_law_chain" (by simp [hFa]))
    d__law_beside := by
      obtain ⟨fd, F⟩ := d.defs (d := dd__law_beside) (by simp [hFn])
      exact defC_of F (glo "_law_beside" (by simp [hFa]))
    d__law_over := by
      obtain ⟨fd, F⟩ := d.defs (d := dd__law_over) (by simp [hFn])
      exact defC_of F (glo "_law_over" (by simp [hFa]))
    d__law_sum := by
      obtain ⟨fd, F⟩ := d.defs (d := dd__law_sum) (by simp [hFn])
      exact defC_of F (glo "_law_sum" (by simp [hFa]))
    d__law_refused := by
      obtain ⟨fd, F⟩ := d.defs (d := dd__law_refused) (by simp [hFn])
      exact defC_of F (glo "_law_refused" (by simp [hFa]))
    d__law_nought := by
      obtain ⟨fd, F⟩ := d.defs (d := dd__law_nought) (by simp [hFn])
      exact defC_of F (glo "_law_nought" (by simp [hFa]))
    d__law_bent := by
      obtain ⟨fd, F⟩ := d.defs (d := dd__law_bent) (by simp [hFn])
      exact defC_of F (glo "_law_bent" (by simp [hFa]))
    d__law_refusals := by
      obtain ⟨fd, F⟩ := d.defs (d := dd__law_refusals) (by simp [hFn])
      exact defC_of F (glo "_law_refusals" (by simp [hFa]))
    d__law_products := by
      obtain ⟨fd, F⟩ := d.defs (d := dd__law_products) (by simp [hFn])
      exact defC_of F (glo "_law_products" (by simp [hFa]))
    d_law := by
      obtain ⟨fd, F⟩ := d.defs (d := dd_law) (by simp [hFn])
      exact defC_of F (glo "law" (by simp [hFa]))
    n_abs := free "abs" (by simp [hFa])
    n_all := free "all" (by simp [hFa])
    n_bool := free "bool" (by simp [hFa])
    n_int := free "int" (by simp [hFa])
    n_isinstance := free "isinstance" (by simp [hFa])
    n_len := free "len" (by simp [hFa])
    n_list := free "list" (by simp [hFa])
    n_max := free "max" (by simp [hFa])
    n_min := free "min" (by simp [hFa])
    n_range := free "range" (by simp [hFa])
    n_str := free "str" (by simp [hFa])
    n_tuple := free "tuple" (by simp [hFa])
    n_zip := free "zip" (by simp [hFa])
    g_NOUGHT := glo "NOUGHT" (by simp [hFa])
    k_NOUGHT := fun H => tupB_ok f.no H
    g_ROOT := glo "ROOT" (by simp [hFa])
    k_ROOT := fun H => tupB_ok f.ro H
    e_NotUsable := ⟨⟨oexB_ok f.oex, f.sa, (excB_ok f.exc).hs, f.ty, f.kp⟩, glo "NotUsable" (by simp [hFa]), f.iC, f.tI, f.n1, f.n2, by
      obtain ⟨fd, F⟩ := d.defs (d := dd_init) (by simp [hFn])
      exact ⟨fd, F⟩⟩
    t_is_exact := ⟨cod "is_exact" (by simp), by simp [hT], gl "is_exact" (by simp [hTf])⟩
    t_is_nought_rows := ⟨cod "is_nought_rows" (by simp), by simp [hT], gl "is_nought_rows" (by simp [hTf])⟩
    t_is_row := ⟨cod "is_row" (by simp), by simp [hT], gl "is_row" (by simp [hTf])⟩
    t_is_rows := ⟨cod "is_rows" (by simp), by simp [hT], gl "is_rows" (by simp [hTf])⟩
    t_one_form := ⟨cod "one_form" (by simp), by simp [hT], gl "one_form" (by simp [hTf])⟩
    l__law_refusals := ⟨⟨cA K "_law_refusals", pA K "_law_refusals", cod "_law_refusals" (by simp), ld, by simp [hT], fun p hp _ => by simp [hT] at hp; rw [hp]⟩⟩
    rf := ⟨glo "NotUsable" (by simp [hFa]), glo "WebError" (by simp [hFa]), glo "LookError" (by simp [hFa]), free "isinstance" (by simp [hFa]), free "ValueError" (by simp [hFa]), excB_ok f.exc, xfB_ok f.xf, f.n1, f.n2, f.k1, f.k2, f.ex⟩
  }
theorem hSp (f : HxF K) {H : Hp} {a : Addr} {ns : List Int} (hlen : ns.length ≤ 63) (hbits : ∀ z ∈ ns, Builtin.Int.intBits z ≤ 1048576) (hH : ∀ p ∈ hCs K, H p.2 = some (.tbl #[])) (hS : SqL K H a (ns.map V.int)) : spI K (hT K) 1 (m_law (He.ga K)) [.ref a] H (fun v _ => v = .bl true) fun _ _ _ => False := by
  have hlog : ∀ z ∈ ns, z.natAbs.log2 ≤ 1048576 := fun z hz => by
    have h := hbits z hz
    unfold Builtin.Int.intBits at h
    split at h
    · next e => have : z = 0 := by simpa using e
                subst this; decide
    · omega
  have tab : ∀ x : Str, (x, (none : Option Str)) ∈ hTf → H (pA K x) = some (.tbl #[]) := fun x hx => hH (He.cT K (x, none)) (List.mem_map_of_mem hx)
  have dl : DenL K H [a] (ns.map D.int) (ns.map V.int) := by
    clear hlen hbits hS hlog
    induction ns with
    | nil => exact DenL.nil_iff.mpr rfl
    | cons n r ih => exact DenL.cons_iff.mpr ⟨.int n, r.map V.int, rfl, den_int.mpr rfl, ih⟩
  have lowI : D.lowL 1 (ns.map D.int) = true := by
    rw [D.lowL_iff]
    intro d hd
    obtain ⟨i, _, rfl⟩ := List.mem_map.mp hd
    rfl
  have mk : ∀ o : MO, MOk K H [a] a o → o.low 1 = true → seqOf (.adr 0) [o] = some (ns.map D.int) → spI K (hT K) 1 (m_law (He.ga K)) [.ref a] H (fun v _ => v = .bl true) fun _ _ _ => False := fun o ho hlo hs => by
    refine ⟨[a], [o], [.adr 0], rfl, ⟨rfl, by simp, fun n o' e => ?_, fun o' ho' => ?_, fun P hP => ?_, fun p hp => ?_, fun P hP p hp => ?_⟩, ?_, ?_⟩
    · cases n with
      | zero => cases e; exact ⟨a, rfl, ho⟩
      | succ n => cases e
    · rw [List.mem_singleton.mp ho']; exact hlo
    · simp only [hT, List.mem_cons, List.not_mem_nil, or_false] at hP
      rcases hP with rfl | rfl | rfl | rfl | rfl
      · exact ⟨#[], tab "is_exact" (by simp [hTf]), trivial⟩
      · exact ⟨#[], tab "is_nought_rows" (by simp [hTf]), trivial⟩
      · exact ⟨#[], tab "is_row" (by simp [hTf]), trivial⟩
      · exact ⟨#[], tab "is_rows" (by simp [hTf]), trivial⟩
      · exact ⟨#[], tab "one_form" (by simp [hTf]), trivial⟩
    · simp only [hT, List.mem_cons, List.not_mem_nil, or_false] at hp
      subst hp
      exact ⟨#[], tab "_law_refusals" (by simp [hTf]), trivial, fun pos cv e => by cases e⟩
    · simp only [hT, List.mem_cons, List.not_mem_nil, or_false] at hp
      subst hp
      have df := f.df
      simp only [List.all_cons, List.all_nil, Bool.and_true, Bool.and_eq_true, Bool.not_eq_true', decide_eq_false_iff_not] at df
      simp only [hT, List.mem_cons, List.not_mem_nil, or_false] at hP
      obtain ⟨q0, q1, q2, q3, q4⟩ := df
      rcases hP with rfl | rfl | rfl | rfl | rfl
      · exact q0
      · exact q1
      · exact q2
      · exact q3
      · exact q4
    · exact DenL.cons_iff.mpr ⟨.ref a, [], rfl, by unfold Den; exact ⟨a, rfl, rfl⟩, DenL.nil_iff.mpr rfl⟩
    · obtain ⟨v, M', e, ev⟩ := Kp.W_iff.mp (Kp.law_ok (CN := He.ga K) (M := [o]) (s := 0) hs hlog (by omega))
      subst ev
      rw [e]
      exact fun ρ' H' _ _ v hv => by unfold Den at hv; exact hv
  rcases hS with (h | ⟨o, h⟩) | ⟨o, its, n, hl, hc, _⟩
  · exact mk (.lst (ns.map D.int)) ⟨_, h, dl⟩ lowI rfl
  · exact mk (.frz (ns.map D.int)) ⟨o, _, h, dl⟩ lowI rfl
  · exact absurd hc (noLB_ok f.nl hl)
end
end K29
open PySem PySem.W PySem.Calls PyProof.Rows
theorem PySem.Challenge.cw_lookundone_k29_products_of_tables_holds : PySem.Challenge.rw_lookundone_k29_products_of_tables.Holds := by
  w_on; o_law
  refine HandSHeadRun.head_any (r := OpenLaw.row PySem.Challenge.rw_lookundone_k29_products_of_tables) (q := view (OpenLaw.row PySem.Challenge.rw_lookundone_k29_products_of_tables).prog [57]) (H := K29.hHk) (ob := K29.hOb) (M := 4000) (loose := K29.hLoose) (d := HandSHeadRun.topDef (OpenLaw.row PySem.Challenge.rw_lookundone_k29_products_of_tables).prog 57) (kwd := []) K29.hOb_eq
    (by kernel_rfl) (fun s => by kernel_rfl) K29.hRun (by kernel_rfl) (by kernel_rfl) (by kernel_rfl) (by rfl) (by first | assumption | decide +kernel) (by decide +kernel) ⟨rfl, rfl, rfl, rfl, rfl, by decide +kernel⟩ ?hw ?hc
  case hw => w_witness2
  case hc =>
    refine LamX.walk_ofTsE (l := PySem.Challenge.rw_lookundone_k29_products_of_tables) (n := 63) (k := 25) (x := "script") (CX := fun w => L2N.CX (PySem.Challenge.rw_lookundone_k29_products_of_tables).prog w) rfl (by decide) (by kernel_rfl) ⟨rfl, by decide, by decide⟩ ?F (fun w H s e s' z => ?_)
    · intro w mg fa h Y G hmg0
      obtain ⟨K, KX, c⟩ := Y
      have hmg : mg ("law" : PySem.Str) = some (.ref fa) := by
        have e : (HandSHeadRun.topDef (OpenLaw.row PySem.Challenge.rw_lookundone_k29_products_of_tables).prog 57).name = ("law" : PySem.Str) := by kernel_rfl
        rw [← e]
        exact hmg0
      have hga : fa = He.ga K "law" := by
        have h2 := He.glo_ok KX G (c.t.d.facts (f := .glo "law") (by simp [K29.hFa]))
        rw [hmg] at h2
        cases h2; rfl
      subst hga
      refine ⟨K, KX, Mp.fdK K "law", K29.hCs K, Mp.spI K (K29.hT K) 1 (K29.m_law (He.ga K)), fun p hp => ?_, fun p hp => ?_, fun p hp => ?_, fun s v => ?_, fun H a ns hl hb hH hS => K29.hSp (K29.hEx_ok c.more) hl hb hH hS, fun base _ _ hb => K29.fn_law (K29.hCx KX G c hb)⟩
      · obtain ⟨q, hq, rfl⟩ := List.mem_map.mp hp
        exact c.empty q hq
      · obtain ⟨q, hq, rfl⟩ := List.mem_map.mp hp
        exact c.out q hq
      · obtain ⟨q, hq, rfl⟩ := List.mem_map.mp hp
        exact PySem.W.codeHd_of_K KX (c.hd q hq)
      · obtain ⟨fd, F⟩ := c.t.d.defs (d := K29.dd_law) (by simp [K29.hFn])
        exact (Mp.defC_of (st := K29.s_law) F hmg).f.bindsA (ps := ["script"]) (fun _ _ _ _ _ _ us hl => match us, hl with | [_], _ => rfl) s [v] rfl
    · obtain ⟨_, _, _, _, _, _, _, _, _, _, _, _, _, _, _, _, w⟩ := z
      first | done | exact w.elim
