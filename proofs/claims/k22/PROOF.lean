import PyProof.Rows.All
import Wide.All
import OpenK.AllK
import Wide.FinOn
import HandS.ForMost
import HandS.Exc
import HandS.GenCall
import HandS.AnyAll
import HandS.GenList
import HandS.Zip
import HandS.TupAny
import HandS.IsInst
import HandS.Walk
import HandS.EndOwn
import HandS.Style
import PyProof.StrLawsRepr
import KE.KDictZip
import KE.GoesEnum
import HandS.Iter
import HandS.DictComp
import KE.SortData
import HandS.More
import KE.DataMinKey
import KE.KIndexOf
import HandS.SortKw
import PyProof.FitsInt
import KE.KStateDown
import HandS.Head0
import HandS.Head1
import HandS.Head2
import HandS.HeadEnd
import HandS.HeadHook1
import HandS.HeadHook2
import HandS.HeadHook3
import HandS.HeadHook4
import HandS.HeadWalk
import PyProof.EqKinds
import PyProof.FactsAll.dict
import PyProof.FactsAll.subtypes
import KE.SortKeyHeap
import KE.SortLaws
import KE.KLam
import HandS.Lambda
import PySem.Challenge.RW_keywait_k22_splits_recognized
set_option Elab.async false
set_option linter.all false
set_option maxRecDepth 100000
set_option maxHeartbeats 2000000
/-! Generator expressions whose element is any expression of the hand layer, under all, any, sum. -/
namespace Gx
open PySem PySem.Spec PyProof.Rows L2 GenW GxR

abbrev gexp (elt tg iter : Expr) (ifs : List Expr) (scope : Scope) (gpos : Pos) : Expr := .GeneratorExp elt [⟨tg, iter, ifs, 0⟩] scope gpos
/-- the frame of the expression -/
abbrev gcx (X : Cx) (s : Shared) (H : Hp) (scope : Scope) (cl : List (Str × Addr)) (C : Addr) (code : Value) (A' : Around) (fp : List Addr) (pn : List (Addr × Obj)) : Cx :=
  { X with A := A', s_0 := s, H_0 := H, env := genEnv scope cl C code builtinsNs X.env, outer := X.stack, stack := genEnv scope cl C code builtinsNs X.env :: X.stack, ex := fp, fn := fun _ => false, calm := true, pn := pn, xe := fun _ _ => False }

theorem over_cs {A : Around} {elt tg iter : Expr} {ifs : List Expr} {scope : Scope} {gpos : Pos} {it acc : Value} {env : Env} : A.over (.compStart (gexp elt tg iter ifs scope gpos) 0 it acc env) [] = A.deeper env := by
  first
    | rfl
    | (obtain ⟨hd, d, fr, gs, u⟩ := A; simp [Around.over, Around.deeper, marksOver, frameCount, unitsOf, envsOf, guardsOf, pushEnvs, pushGuards, Code.envs, Code.env?, Code.isFrame, Code.guards, Code.isGuard, Code.weight, Code.frames, Code.isCreation, Code.isCaller, Code.cUnits])
theorem over_cl {A : Around} {elt tg iter : Expr} {ifs : List Expr} {scope : Scope} {gpos : Pos} {it acc : Value} {env : Env} : A.over (.compLoop (gexp elt tg iter ifs scope gpos) 0 it acc env) [] = A.deeper env := by
  first
    | rfl
    | (obtain ⟨hd, d, fr, gs, u⟩ := A; simp [Around.over, Around.deeper, marksOver, frameCount, unitsOf, envsOf, guardsOf, pushEnvs, pushGuards, Code.envs, Code.env?, Code.isFrame, Code.guards, Code.isGuard, Code.weight, Code.frames, Code.isCreation, Code.isCaller, Code.cUnits])

section
variable {X : Cx} {pins : List (Addr × Obj)} {σ : L2.St} {H : Hp} {s : Shared}
/-- what a captured name's cell is -/
theorem clo_at {scope : Scope} {own : List (Str × Nat)} (I : Inv X pins σ H s) (ok : BlkOk X.N X.env.scope scope own) {y : Str} {c : Addr} (hm : (y, c) ∈ cloFrom X.env.cells scope.names []) :
    X.env.cells.lookup y = some c ∧ c < s.heap.objs.size ∧ scope.names.lookup y = some .free := by
  rcases cloFrom_mem hm with z | ⟨h1, h2⟩
  · cases z
  · have hc : ∃ c', X.env.cells.lookup y = some c' := (ok.free _ h1 rfl).elim (fun k => I.ok.has _ (.inl k)) fun k => I.ok.has _ (.inr k)
    obtain ⟨c', hc'⟩ := hc
    rw [hc'] at h2
    have e : c = c' := h2
    obtain ⟨v, z⟩ := I.cell _ _ hc'
    rw [e]
    exact ⟨hc', z.lt, ok.uniq _ h1⟩
theorem clo_get {scope : Scope} {own : List (Str × Nat)} (I : Inv X pins σ H s) (ok : BlkOk X.N X.env.scope scope own) {y : Str} {c : Addr} (h : (cloFrom X.env.cells scope.names []).lookup y = some c) :
    X.env.cells.lookup y = some c ∧ c < s.heap.objs.size ∧ scope.names.lookup y = some .free := clo_at I ok (PySem.mem_of_lookup h)
theorem clo_has {scope : Scope} {own : List (Str × Nat)} (I : Inv X pins σ H s) (ok : BlkOk X.N X.env.scope scope own) {y : Str} (h : scope.names.lookup y = some .free) :
    ∃ c, (cloFrom X.env.cells scope.names []).lookup y = some c ∧ X.env.cells.lookup y = some c := by
  obtain ⟨c, e⟩ := mem_lookup (cloFrom_has (cells := X.env.cells) (acc := []) (PySem.mem_of_lookup h))
  exact ⟨c, e, (clo_get I ok e).1⟩

theorem gen_ok {scope : Scope} {own : List (Str × Nat)} {fp : List Addr} {code : Value} {A' : Around} {pn : List (Addr × Obj)} (I : Inv X pins σ H s) (ok : BlkOk X.N X.env.scope scope own) (hfp : ∀ b ∈ fp, FpOk X pins H b ∧ b < s.heap.objs.size)
    (noCell : ∀ {y : Str}, (y, NameKind.cell) ∉ scope.names) (hA : A'.handled = none) (hF : A'.frames = some (genEnv scope (cloFrom X.env.cells scope.names []) s.heap.objs.size code builtinsNs X.env :: X.stack)) :
    (gcx X s H scope (cloFrom X.env.cells scope.names []) s.heap.objs.size code A' fp pn).Ok where
  mod := I.ok.mod
  kind := ok.kind
  glob := I.ok.glob
  blt := rfl
  above := Nat.le_refl _
  inj := fun y z c e1 e2 => I.ok.inj y z c (clo_get I ok e1).1 (clo_get I ok e2).1
  has := fun y hy => by
    rcases hy with hy | hy
    · have hm := PySem.mem_of_lookup (show scope.names.lookup y = some .cell from hy)
      have hl : scope.names.lookup y = some .cell := hy
      exact absurd hl (by
        intro _
        exact False.elim (noCell hm))
    · obtain ⟨c, e, _⟩ := clo_has I ok (show scope.names.lookup y = some .free from hy)
      exact ⟨c, e⟩
  cab := fun y c z _ => by cases z
  hd := fun _ => hA
  frames := hF
  stk := .inr ⟨rfl, rfl⟩
  exf := fun b hb => ⟨Nat.ne_of_lt (hfp b hb).2, fun y c e => (hfp b hb).1.2.2.2.2.1 y c (clo_get I ok e).1⟩
  bs := I.bs
  bsz := Nat.le_trans I.ok.bsz I.sz
  noex := fun b o e hb => by
    rcases (hfp b hb).1.2.2.2.1 with z | z
    · exact I.ok.noex b o e z
    · exact absurd (Nat.lt_of_lt_of_le (Heap.lt_size e) (Nat.le_trans I.ok.bsz z)) (Nat.lt_irrefl _)
  exfs := fun b hb z => by
    rcases List.mem_cons.mp (I.stkSub b z) with z | z
    · exact (hfp b hb).1.2.1 z
    · exact (hfp b hb).1.2.2.1 z
  funs := I.stack
  frf := I.stkFree

theorem gen_start {scope : Scope} {own : List (Str × Nat)} {fp : List Addr} {code : Value} {A' : Around} {h' : Heap} {go : Obj} {g' : Array GenState} {t' : Nat} {it : Value} (I : Inv X pins σ H s) (ok : BlkOk X.N X.env.scope scope own) (hN : X.N.Nodup) (hfp : ∀ b ∈ fp, FpOk X pins H b ∧ b < s.heap.objs.size)
    (noCell : ∀ {y : Str}, (y, NameKind.cell) ∉ scope.names) (hA : A'.handled = none) (hF : A'.frames = some (genEnv scope (cloFrom X.env.cells scope.names []) s.heap.objs.size code builtinsNs X.env :: X.stack))
    (hns : h'.Ns s.heap.objs.size (fun y => if y = ".0" then some it else none)) (hsb : Heap.SameBut s.heap.objs.size (s.heap.push { cls := .type "frame", data := .dict #[] }) h') (hgo : ∀ v, go.data ≠ .cell v) (hgf : ∀ h : Heap, (h.push go).get? h.objs.size = some go) (hbare : AllBare g') :
    Inv (gcx X s H scope (cloFrom X.env.cells scope.names []) s.heap.objs.size code A' fp [(h'.objs.size, go)]) [] (wipe σ (own.map (·.2))) H { s with heap := h'.push go, gens := g', toks := t' } := by
  have hsz : h'.objs.size = s.heap.objs.size + 1 := by rw [hsb.1, Heap.size_push]
  have kp : ∀ b o, s.heap.get? b = some o → (h'.push go).get? b = some o := fun b o e =>
    Heap.get?_push_of_some _ (hsb.extBut b o (Nat.ne_of_lt (Heap.lt_size e)) (Heap.get?_push_of_some _ e))
  have okB := gen_ok (pn := [(h'.objs.size, go)]) I ok hfp noCell hA hF
  refine ⟨okB, rfl, hbare, Un.kept kp, ⟨_, hns.push _, fun i y av e1 e2 e3 => ?_⟩, fun y c e => ?_, I.hok.fresh (Nat.le_refl _), fun y c e => ?_, fun p hp => ?_, I.hok.kept kp, by rw [wipe_length]; exact I.len⟩
  · obtain ⟨e2, hne⟩ := wipe_some e2
    have e3 : Vis scope y := e3
    have noOwn : ∀ k, scope.names.lookup y = some k → k = .local ∨ k = .cell → False := fun k e hk => by
      rcases ok.own _ (PySem.mem_of_lookup e) hk with e' | e'
      · obtain ⟨p, hp, hpy⟩ := List.mem_map.mp e'
        have e4 := ok.ix p hp
        have q : p.1 = y := hpy
        rw [q] at e4
        exact hne (List.mem_map.mpr ⟨p, hp, nodup_ix hN e4 e1⟩)
      · exact e' (List.mem_of_getElem? e1)
    rcases e3 with z | z | z
    · exact (noOwn _ z (.inl rfl)).elim
    · exact (noOwn _ z (.inr rfl)).elim
    · have hv : Vis X.env.scope y := (ok.free _ (PySem.mem_of_lookup z) rfl).elim (fun k => .inr (.inl k)) (fun k => .inr (.inr k))
      obtain ⟨m, hn, hl⟩ := I.loc
      obtain ⟨u, r, q⟩ := hl i y av e1 e2 hv
      obtain ⟨c, h1, h2⟩ := clo_has I ok z
      refine ⟨u, r, .inr ⟨.inr z, c, h1, ?_⟩⟩
      rcases q with ⟨k, _⟩ | ⟨_, c', e', z'⟩
      · have k : X.env.scope.names.lookup y = some .local := k
        rcases ok.free _ (PySem.mem_of_lookup z) rfl with k' | k'
        · rw [show X.env.scope.names.lookup y = _ from k'] at k
          cases k
        · rw [show X.env.scope.names.lookup y = _ from k'] at k
          cases k
      · rw [h2] at e'
        cases e'
        exact z'.keeps kp
  · obtain ⟨h1, _, _⟩ := clo_get I ok e
    obtain ⟨v, z⟩ := I.cell y c h1
    exact ⟨v, z.keeps kp⟩
  · exact I.freeC y c (clo_get I ok e).1
  · have e : p = (h'.objs.size, go) := by simpa using hp
    rw [e]
    have hle : s.heap.objs.size ≤ h'.objs.size := by omega
    refine ⟨hgf _, I.hok.fresh hle, ?_, fun z => ?_, hgo⟩
    · show h'.objs.size ≠ s.heap.objs.size
      omega
    · rcases List.mem_cons.mp (I.stkSub _ z) with z | z
      · have hlt := I.lt
        rw [← z] at hlt
        exact absurd (Nat.lt_of_lt_of_le hlt hle) (Nat.lt_irrefl _)
      · exact I.nofs hle z
end
end Gx
namespace Gx
open PySem PySem.Spec PyProof.Rows L2 GenW GxR
open Sem (wp)

/-- while the frame sleeps: its consumer changes the objects at ss alone -/
structure Asl (ss : List Addr) (s s' : Shared) : Prop where
  os : s'.os = s.os
  bare : AllBare s'.gens
  keep : ∀ b o, b ∉ ss → s.heap.get? b = some o → s'.heap.get? b = some o
  own : ∀ b ∈ ss, ∃ o, s'.heap.get? b = some o ∧ ∀ v, o.data ≠ .cell v
/-- between two turns -/
structure Rest (Y : Cx) (ss : List Addr) (σ : L2.St) (H : Hp) (s : Shared) : Prop where
  inv : Inv Y (pinsAt ss s.heap) σ H s
  own : ∀ b ∈ ss, ∃ o, s.heap.get? b = some o ∧ ∀ v, o.data ≠ .cell v
/-- the consumer's own objects stand apart -/
def ApL (Y : Cx) (ss : List Addr) : Prop := ∀ b ∈ ss, Y.s_0.heap.objs.size ≤ b ∧ b ≠ Y.env.locals ∧ (∀ x c, Y.env.cells.lookup x = some c → c ≠ b) ∧ ∀ p ∈ Y.pn, p.1 ≠ b

section
variable {Y : Cx} {ss : List Addr} {σ σ' : L2.St} {H H' : Hp} {s s' : Shared}
theorem Rest.free (r : Rest Y ss σ H s) : ∀ b ∈ ss, H b = none := fun b hb => by
  obtain ⟨o, e, _⟩ := r.own b hb
  exact (r.inv.pin (b, o) (List.mem_append_right _ (mem_pinsAt hb e))).2.1
/-- behind a turn -/
theorem Rest.turn {pl : List (Addr × Obj)} (r : Rest Y ss σ H s) (J : Inv Y (pinsAt ss s.heap ++ pl) σ' H' s') : Rest Y ss σ' H' s' := by
  have same : ∀ b ∈ ss, ∀ o, s.heap.get? b = some o → s'.heap.get? b = some o := fun b hb o e => (J.pin (b, o) (List.mem_append_right _ (List.mem_append_left _ (mem_pinsAt hb e)))).1
  have own : ∀ b ∈ ss, ∃ o, s'.heap.get? b = some o ∧ ∀ v, o.data ≠ .cell v := fun b hb => by
    obtain ⟨o, e, d⟩ := r.own b hb
    exact ⟨o, same b hb o e, d⟩
  refine ⟨J.pins_of fun p hp => ?_, own⟩
  obtain ⟨hb, e⟩ := of_pinsAt hp
  obtain ⟨o, e0, _⟩ := r.own p.1 hb
  obtain ⟨z1, z2, z3, z4, z5⟩ := J.pin (p.1, o) (List.mem_append_right _ (List.mem_append_left _ (mem_pinsAt hb e0)))
  have z1' : s'.heap.get? p.1 = some o := z1
  rw [e] at z1'
  cases z1'
  exact ⟨e, z2, z3, z4, z5⟩
theorem Rest.weak (r : Rest Y ss σ H s) (hl : σ'.length = σ.length) (w : ∀ (i : Nat) v, σ'[i]? = some (some v) → σ[i]? = some (some v)) : Rest Y ss σ' H s := ⟨r.inv.weak hl w, r.own⟩
/-- woken again -/
theorem Rest.woken (r : Rest Y ss σ H s) (ap : ApL Y ss) (z : Asl ss s s') : Rest Y ss σ H s' := by
  have hfree := r.free
  obtain ⟨hh, g, d, t, o⟩ := s'
  obtain ⟨z1, z2, z3, z4⟩ := z
  have ho : o = s.os := z1
  subst ho
  have I0 : Inv Y [] σ H s := r.inv.pins_of fun p hp => absurd hp (by simp)
  have nt : ∀ b u, H b = some u → b ∉ ss := fun b u q hb => by
    rw [hfree b hb] at q
    cases q
  have J : Inv Y [] σ H { s with heap := hh, gens := g, drawn := d, toks := t } := by
    refine I0.step (g' := g) (t' := t) (d' := d) (ch := ss) (fun b hb => ?_)
      (fun b ob _ _ hc q _ => z3 b ob hc q) (fun b ob _ _ hc q _ => ⟨ob.slots, z3 b ob hc q⟩) (fun _ _ _ _ n => n) (fun b ob hc q => ⟨ob, z3 b ob hc q⟩)
      (fun _ _ q => q) (fun _ _ _ q => q) (fun b ps q => ⟨#[], by rw [q]; simp⟩) (fun m hm => ?_) (fun b u q => ?_) z2
    · obtain ⟨a1, a2, a3, a4⟩ := ap b hb
      exact ⟨.inr a1, a2, a3, fun p hp => a4 p (by simpa using hp)⟩
    · obtain ⟨ob, es, ep, ho, w⟩ := hm
      exact ⟨ob, es, ep, z3 _ ob (fun hb => (ap _ hb).2.1 rfl) ho, w⟩
    · refine (I0.hok b u q).stay (fun c v hc y => z3 c v ?_ y) (fun _ y => y) fun _ _ y => y
      rcases hc with y | y
      · rw [y]
        exact nt b u q
      · exact nt c _ y
  refine ⟨J.pins_of fun p hp => ?_, z4⟩
  obtain ⟨hb, e⟩ := of_pinsAt hp
  obtain ⟨o', e', dd⟩ := z4 p.1 hb
  rw [e] at e'
  cases e'
  obtain ⟨a1, a2, a3, a4⟩ := ap p.1 hb
  obtain ⟨o0, e0, _⟩ := r.own p.1 hb
  obtain ⟨_, _, _, y4, _⟩ := r.inv.pin (p.1, o0) (List.mem_append_right _ (mem_pinsAt hb e0))
  exact ⟨e, hfree p.1 hb, a2, y4, dd⟩
end

section
variable {α : Type} (Y : Cx) (ss : List Addr) (σ : L2.St) (Lk : α → Shared → Prop) (Got : α → (α → Hp → Prop) → V → Hp → Prop) (Fin : α → Hp → Prop)
/-- an item is handed out -/
def gxY : Protocol := fun _ s₀ v s kap =>
  (∀ b ∈ ss, ∀ o, s₀.heap.get? b = some o → s.heap.get? b = some o) ∧ ∃ a H y Nx σ', RelV y v ∧ Rest Y ss σ' H s ∧ Lk a s ∧ Got a Nx y H ∧ ∀ a' s', Nx a' H → Asl ss s s' → Lk a' s' → kap (.send .none) s'
/-- no more items -/
def gxE (_ : Nat) (s₀ : Shared) (s : Shared) : Prop := (∀ b ∈ ss, ∀ o, s₀.heap.get? b = some o → s.heap.get? b = some o) ∧ ∃ a H σ', Rest Y ss σ' H s ∧ Lk a s ∧ Fin a H
/-- what is asked of the turns -/
def Turns (J : It) (g : TG) (tt : TT) (te : TE) (vs : List Nat) (W : Nat → Nat → α → Hp → Prop) : Prop := ∀ i m a H, W i m a H →
  (J.stop i H ∧ Fin a H) ∨ (J.go i H ∧ ∃ Nx : α → Hp → Prop, (∀ a' H', Nx a' H' → ∃ m', m' < m ∧ W (i + 1) m' a' H') ∧ ∀ x H', J.yld i H x H' → g x σ H' fun σ2 H2 => wipe σ2 vs = σ ∧ tt σ2 H2 fun b H3 =>
    if b = true then te σ2 H3 fun y H4 => Got a Nx y H4 else Nx a H3)
end

section
variable {α : Type} {Y : Cx} {ss : List Addr} {σ : L2.St} {Lk : α → Shared → Prop} {Got : α → (α → Hp → Prop) → V → Hp → Prop} {Fin : α → Hp → Prop}
theorem seg_turns {A : Around} {elt tg iter : Expr} {ifs : List Expr} {scope : Scope} {gpos : Pos} {it : Addr} {fp : List Addr} {tn : Nat → Heap → Prop} {J : It} {g : TG} {tt : TT} {te : TE} {vs : List Nat} {W : Nat → Nat → α → Hp → Prop}
    (hov : A.deeper Y.env = Y.A) (hxe : Y.xe = fun _ _ => False) (hc : Y.calm = true) (hco : Y.env.scope.isCoroutine = false) (hex : Y.ex = fp) (hvs : wipe σ vs = σ)
    (ap : ApL Y ss) (hfs : ∀ b ∈ fp, b ∉ ss) (hpn : ∀ p ∈ Y.pn, p.1 ∉ fp)
    (hLk : ∀ a s s', (∀ b ∈ ss, ∀ o, s.heap.get? b = some o → s'.heap.get? b = some o) → Lk a s → Lk a s')
    (T : Turn Y.prog Y.w Y.K tg J fp it tn) (pg : PG Y tg g) (pt : PTs Y ifs tt) (pe : PE Y elt te) (turns : Turns σ Got Fin J g tt te vs W) :
    ∀ (m n i : Nat) (a : α) (s₀ s : Shared) (H : Hp), m < n → (∀ b ∈ ss, ∀ o, s₀.heap.get? b = some o → s.heap.get? b = some o) → Rest Y ss σ H s → tn i s.heap → (∀ b ∈ fp, H b = none) → Lk a s → W i m a H →
      Seg (model Y.prog Y.w) A (fun n s₀ r s₁ => r = .ok .next ∧ gxE Y ss Lk Fin n s₀ s₁) (gxY Y ss Lk Got) n s₀
        (.compLoop (gexp elt tg iter ifs scope gpos) 0 (.ref it) .none Y.env) ((model Y.prog Y.w).den (.compLoop (gexp elt tg iter ifs scope gpos) 0 (.ref it) .none Y.env)) [] s := by
  have ov : A.over (.compLoop (gexp elt tg iter ifs scope gpos) 0 (.ref it) .none Y.env) [] = Y.A := over_cl.trans hov
  intro m
  induction m using Nat.strongRecOn with
  | ind m ih =>
    intro n i a s₀ s H hmn hk0 r st fr lk w
    have stat : ∀ {pl : List (Addr × Obj)} {σ' : L2.St} {H' : Hp} {s' : Shared}, Inv Y pl σ' H' s' → (∀ p ∈ pl, p.1 ∉ fp) → (∀ b ∈ fp, H' b = none) → ∀ b ∈ fp, FpOk Y pl H' b := fun {pl σ' H' s'} I' hpl hn b hb => by
      have hb' : b ∈ Y.ex := by rw [hex]; exact hb
      refine ⟨hn b hb, (I'.ok.exf b hb').1, I'.ok.exfs b hb', .inl hb', fun x c e => (I'.ok.exf b hb').2 x c e, fun p hp => ?_⟩
      rcases List.mem_append.mp hp with z | z
      · exact fun q => hpn p z (by rw [q]; exact hb)
      · exact fun q => hpl p z (by rw [q]; exact hb)
    have hpl : ∀ {h : Heap}, ∀ p ∈ pinsAt ss h, p.1 ∉ fp := fun {h} p hp hf => hfs p.1 hf (of_pinsAt hp).1
    show Seg _ A _ _ _ s₀ _ ((compTurn (gexp elt tg iter ifs scope gpos) 0 (.ref it) .none Y.env).onRaise (leaving Y.env)) [] s
    rw [compTurn_gen, Sem.onRaise_eq_wrap]
    refine seg_bind_wrap (wpAny_standAt ?_)
    rcases turns i m a H w with ⟨stop, q⟩ | ⟨go, Nx, hNx, step⟩
    · refine seg_bind_wrap ?_
      rw [ov]
      refine wpAny_mono (T.done Y rfl rfl rfl hc i _ s σ H (fun _ _ => False) r.inv (stat r.inv hpl fr) st stop) (fun rr s1 ⟨hr, I1⟩ => ?_) fun _ _ z => z.elim
      subst hr
      have r1 : Rest Y ss σ H s1 := r.turn (pl := []) (by rw [List.append_nil]; exact I1)
      have ks : ∀ b ∈ ss, ∀ o, s.heap.get? b = some o → s1.heap.get? b = some o := fun b hb o e => (I1.pin (b, o) (List.mem_append_right _ (mem_pinsAt hb e))).1
      refine seg_end (.ok .next) ⟨rfl, fun b hb o e => ks b hb o (hk0 b hb o e), a, H, σ, r1, hLk a s s1 ks lk, q⟩
    · refine seg_bind_wrap ?_
      rw [ov]
      refine wpAny_mono (T.item Y rfl rfl rfl hc i _ s σ H (fun _ _ => False) r.inv (stat r.inv hpl fr) st go) (fun rr s1 ⟨u, hr, h1⟩ => ?_) fun _ _ z => z.elim
      subst hr
      dsimp only
      refine seg_bind_wrap ?_
      rw [ov]
      refine wpAny_mono h1 (fun _ s2 ⟨x, H2, I2, r2, y2, st2, fr2⟩ => ?_) fun _ _ z => z.elim
      have I2' := I2.pinned (stat I2 hpl fr2) (T.obj _ _ st2)
      refine seg_bind_wrap ?_
      rw [ov]
      refine wpAny_mono (pg.run _ s2 σ H2 x u _ I2' r2 (step x H2 y2)) (fun _ s3 ⟨σ3, H3, I3, hw3, q3⟩ => ?_) fun _ _ z => by rw [hxe] at z; exact z.elim
      refine seg_bind_wrap ?_
      rw [ov]
      refine wpAny_mono (pt.run _ s3 σ3 H3 _ I3 q3) (fun b s4 ⟨H4, I4, q4⟩ => ?_) fun _ _ z => by rw [hxe] at z; exact z.elim
      -- the turn's end
      have fin : ∀ {s' : Shared} {H' : Hp}, Inv Y (pinsAt ss s.heap ++ pinsAt fp s2.heap) σ3 H' s' → Rest Y ss σ H' s' ∧ tn (i + 1) s'.heap ∧ (∀ b ∈ fp, H' b = none) ∧ Lk a s' ∧ (∀ b ∈ ss, ∀ o, s₀.heap.get? b = some o → s'.heap.get? b = some o) := fun {s' H'} I' => by
        have pin' : ∀ b ∈ fp, ∀ o, s2.heap.get? b = some o → s'.heap.get? b = some o ∧ H' b = none := fun b hb o e =>
          let z := I'.pin (b, o) (List.mem_append_right _ (List.mem_append_right _ (mem_pinsAt hb e)))
          ⟨z.1, z.2.1⟩
        have hl : σ.length = σ3.length := by rw [← hw3, wipe_length]
        refine ⟨(r.turn I').weak hl fun j v e => ?_, T.keep _ _ _ st2 fun b hb o e => (pin' b hb o e).1, fun b hb => ?_, hLk a s s' (fun b hb o e => (I'.pin (b, o) (List.mem_append_right _ (List.mem_append_left _ (mem_pinsAt hb e)))).1) lk, fun b hb o e => (I'.pin (b, o) (List.mem_append_right _ (List.mem_append_left _ (mem_pinsAt hb (hk0 b hb o e))))).1⟩
        · rw [← hw3] at e
          exact (wipe_some e).1
        · obtain ⟨o, e, _⟩ := T.obj _ _ st2 b hb
          exact (pin' b hb o e).2
      cases b with
      | false =>
        have q4 : Nx a H4 := q4
        obtain ⟨f1, f2, f3, f4, f5⟩ := fin I4
        obtain ⟨m', hm', w'⟩ := hNx a H4 q4
        simp only [Bool.false_eq_true, if_false]
        exact seg_again rfl (ih m' hm' n (i + 1) a s₀ s4 H4 (by omega) f5 f1 f2 f3 f4 w')
      | true =>
        simp only [if_true] at q4 ⊢
        have hy : ∀ v, yieldOut Y.env v = yieldValue v := fun v => by simp only [yieldOut, hco, Bool.false_eq_true, if_false]
        simp only [hy]
        rw [Sem.bind_eq_wrap', Sem.bind_eq_wrap', Sem.wrap_wrap, Sem.wrap_wrap]
        refine seg_wrap ?_
        rw [ov]
        refine wpAny_mono (pe.run _ s4 σ3 H4 _ I4 q4) (fun v s5 ⟨y, H5, I5, r5, q5⟩ => ?_) fun _ _ z => by rw [hxe] at z; exact z.elim
        obtain ⟨f1, f2, f3, f4, f5⟩ := fin I5
        obtain ⟨n, rfl⟩ : ∃ k, n = k + 1 := ⟨n - 1, by omega⟩
        refine seg_at (seg_yield rfl rfl rfl ⟨f5, a, H5, y, Nx, σ, r5, f1, f4, q5, fun a' s6 hn hs hl => ?_⟩)
        obtain ⟨m', hm', w'⟩ := hNx a' H5 hn
        refine seg_again rfl (ih m' hm' n (i + 1) a' s6 s6 H5 (by omega) (fun _ _ _ e => e) (f1.woken ap hs) (T.keep _ _ _ f2 fun b hb o e => hs.keep b o (hfs b hb) e) f3 hl w')
end
end Gx
namespace Gx
open PySem PySem.Spec PyProof.Rows L2 GenW GxR
open Sem (wp)

section
variable {α : Type} {Y : Cx} {ss : List Addr} {σ : L2.St} {Lk : α → Shared → Prop} {Got : α → (α → Hp → Prop) → V → Hp → Prop} {Fin : α → Hp → Prop}
theorem seg_begin {A : Around} {elt tg iter : Expr} {ifs : List Expr} {scope : Scope} {gpos : Pos} {it : Addr} {R : GenEnd} {Pr : Protocol} {n : Nat} {s₀ s : Shared} {tn : Nat → Heap → Prop}
    (hself : ∀ (A : Around) (s : Shared) (Q : Value → Shared → Prop) (E : Value → Shared → Prop), tn 0 s.heap → Q (.ref it) s → wpAny (model Y.prog Y.w) A (pyIter (.ref it)) Q E s) (st : tn 0 s.heap)
    (loop : Seg (model Y.prog Y.w) A R Pr n s₀ (.compLoop (gexp elt tg iter ifs scope gpos) 0 (.ref it) .none Y.env) ((model Y.prog Y.w).den (.compLoop (gexp elt tg iter ifs scope gpos) 0 (.ref it) .none Y.env)) [] s) :
    Seg (model Y.prog Y.w) A R Pr n s₀ (.compStart (gexp elt tg iter ifs scope gpos) 0 (.ref it) .none Y.env) ((model Y.prog Y.w).den (.compStart (gexp elt tg iter ifs scope gpos) 0 (.ref it) .none Y.env)) [] s := by
  show Seg _ A _ _ _ s₀ _ ((compStart (gexp elt tg iter ifs scope gpos) 0 (.ref it) .none Y.env).onRaise (leaving Y.env)) [] s
  unfold compStart
  rw [Sem.onRaise_eq_wrap]
  show Seg _ A _ _ _ s₀ _ ((ask >>= _).wrap _ _ _ _) [] s
  refine seg_bind_wrap (wpAny_askSetting ?_)
  split
  · exact seg_again rfl loop
  · first
      | exact seg_bind_wrap (wpAny_rule (seg_bind_wrap (wpAny_standAt (seg_bind_wrap (hself _ s _ _ st (seg_again rfl loop))))))
      | (refine seg_bind_wrap (wpAny_rule ?_); show Seg _ A _ _ _ s₀ _ ((standAt iter.pos >>= _).wrap _ _ _ _) [] s; exact seg_bind_wrap (wpAny_standAt (seg_bind_wrap (hself _ s _ _ st (seg_again rfl loop)))))

/-- the generator at a, its state g, can be woken -/
def Ready (Y : Cx) (ss : List Addr) (Lk : α → Shared → Prop) (Got : α → (α → Hp → Prop) → V → Hp → Prop) (Fin : α → Hp → Prop) (A : Around) (a : Addr) (g n : Nat) (s : Shared) : Prop :=
  s.heap.IsGen a g ∧ s.heap.NoLimit ∧ AllBare s.gens ∧ ∃ gs, s.gens[g]? = some gs ∧ gs.Goes (model Y.prog Y.w) A.in1 (fun n s₀ r s₁ => r = .ok .next ∧ gxE Y ss Lk Fin n s₀ s₁) (gxY Y ss Lk Got) n (.send .none) (s.setGen g .running)

theorem asl_gens {s s' : Shared} (h : s'.heap = s.heap) (ho : s'.os = s.os) (hb : AllBare s'.gens) : Asl [] s s' := ⟨ho, hb, fun b o _ e => by rw [h]; exact e, fun b hb => absurd hb (by simp)⟩

/-- one item more, or the end -/
theorem pull {A : Around} {a : Addr} {go : Obj} {g n : Nat} {s : Shared} {E : Value → Shared → Prop} (hh : A.handled = none) (hroom : A.depth < recursionLimit) (hpn : (a, go) ∈ Y.pn) (hgo : ∀ h : Heap, h.get? a = some go → h.IsGen a g) (ap : ApL Y ss) (lkk : ∀ {al : α} {s s2 : Shared}, Lk al s → s2.heap = s.heap → Lk al s2) (hLk : ∀ a s s2, (∀ b ∈ ss, ∀ o, s.heap.get? b = some o → s2.heap.get? b = some o) → Lk a s → Lk a s2) (rd : Ready Y ss Lk Got Fin A a g n s) :
    wpAny (model Y.prog Y.w) A (pyNext (.ref a)) (fun r s1 => AllBare s1.gens ∧ (∀ b ∈ ss, ∀ o, s.heap.get? b = some o → s1.heap.get? b = some o) ∧ ((r = none ∧ ∃ al H σ', Rest Y ss σ' H s1 ∧ Lk al s1 ∧ Fin al H) ∨
      ∃ v al H y Nx σ', r = some v ∧ RelV y v ∧ Rest Y ss σ' H s1 ∧ Lk al s1 ∧ Got al Nx y H ∧ ∀ al' s', Nx al' H → Asl ss s1 s' → s'.gens = s1.gens → Lk al' s' → ∃ k, n = k + 1 ∧ Ready Y ss Lk Got Fin A a g k s')) E s := by
  obtain ⟨hg, hl, hb, gs, hgs, hgoes⟩ := rd
  have hgl : g < s.gens.size := (Array.getElem?_eq_some_iff.mp hgs).1
  have quiet : ∀ {σ' : L2.St} {H : Hp} {s1 s2 : Shared}, Rest Y ss σ' H s1 → (∀ b o, s1.heap.get? b = some o → s2.heap.get? b = some o) → s2.os = s1.os → AllBare s2.gens → Rest Y ss σ' H s2 := fun {σ' H s1 s2} r hk ho hb =>
    r.woken ap ⟨ho, hb, fun b o _ e => hk b o e, fun b hb => let ⟨o, e, d⟩ := r.own b hb; ⟨o, hk b o e, d⟩⟩
  refine wpAny_gsz (n := g + 1) hgl (wpAny_pyNext_genexpQ (P := gxE Y ss Lk Fin) hh hl hroom hg hgs hgoes (fun v s₁ gs' hbare hv => ?_) fun s₁ hp h' hk => ?_)
  · intro hsz
    obtain ⟨ks, al, H, y, Nx, σ', rv, r1, lk, got, kap⟩ := hv
    have hb1 : AllBare (s₁.setGen g gs').gens := allBare_setGen r1.inv.bare hbare
    have hsz1 : g < s₁.gens.size := by
      have q : (s₁.setGen g gs').gens.size = s₁.gens.size := setGen_size _ _ _
      have hsz' : g + 1 ≤ (s₁.setGen g gs').gens.size := hsz
      omega
    have r2 : Rest Y ss σ' H (s₁.setGen g gs') := quiet r1 (fun _ _ e => e) rfl hb1
    refine ⟨hb1, ks, .inr ⟨v, al, H, y, Nx, σ', rfl, rv, r2, lkk lk rfl, got, fun al' s' nx z hgens lk' => ?_⟩⟩
    have hb3 : AllBare (s'.setGen g .running).gens := allBare_setGen z.bare rfl
    have kp := kap al' (s'.setGen g .running) nx ⟨z.os, hb3, z.keep, z.own⟩ (lkk lk' rfl)
    cases n with
    | zero => exact False.elim kp
    | succ k =>
      refine ⟨k, rfl, ?_⟩
      have r3 : Rest Y ss σ' H s' := r2.woken ap z
      refine ⟨hgo _ (r3.inv.pin (a, go) (List.mem_append_left _ hpn)).1, r3.inv.nolimit, z.bare, gs', ?_, kp⟩
      rw [hgens]
      exact setGen_at hsz1
  · intro hsz
    obtain ⟨ks, al, H, σ', r1, lk, f⟩ := hp
    have hb1 : AllBare (s₁.setGen g .finished).gens := allBare_setGen r1.inv.bare rfl
    exact ⟨hb1, fun b hb o e => hk b o (ks b hb o e), .inl ⟨rfl, al, H, σ', quiet r1 hk rfl hb1, hLk _ _ _ (fun b _ o e => hk b o e) lk, f⟩⟩
end
end Gx
namespace Gx
open PySem PySem.Spec PyProof.Rows L2 GenW GxR
open Sem (wp)

def noLk : Unit → Shared → Prop := fun _ _ => True
def gotAll (Q : VK) : Unit → (Unit → Hp → Prop) → V → Hp → Prop := fun _ Nx y H => ∃ c, y = .bl c ∧ if c = true then Nx () H else Q (.bl false) H
def gotAny (Q : VK) : Unit → (Unit → Hp → Prop) → V → Hp → Prop := fun _ Nx y H => ∃ c, y = .bl c ∧ if c = true then Q (.bl true) H else Nx () H
section
variable {Y : Cx} {Q : VK} {R : Result → Shared → Prop}
/-- all of a generator that is ready -/
theorem all_loop {A : Around} {a : Addr} {go : Obj} {g : Nat} (hh : A.handled = none) (hroom : A.depth < recursionLimit) (hpn : (a, go) ∈ Y.pn) (hgo : ∀ h : Heap, h.get? a = some go → h.IsGen a g)
    (hR : ∀ c s1 σ' H, Rest Y [] σ' H s1 → AllBare s1.gens → Q (.bl c) H → R (.ok (.ret (.bool c))) s1) :
    ∀ (n : Nat) (s : Shared), Ready Y [] noLk (gotAll Q) (fun _ H => Q (.bl true) H) A.in1 a g n s → codeAny (model Y.prog Y.w) A (.builtin "all.loop" ⟨[.ref a], []⟩) R s := by
  intro n
  induction n with
  | zero =>
    intro s rd
    refine codeAny_builtin F.entry_all_loop ?_
    rw [Around.under_plainId F.plain_all_loop _]
    show wpAny _ A.in1 (pyNext (.ref a) >>= _) _ _ s
    refine wpAny_bind (wpAny_mono (pull (A := A.in1) hh hroom hpn hgo (fun b hb => absurd hb (by simp)) (fun _ _ => True.intro) (fun _ _ _ _ _ => True.intro) rd) (fun r s1 ⟨hb1, _, h⟩ => ?_) fun _ _ e => e)
    rcases h with ⟨rfl, al, H, σ', r1, _, q⟩ | ⟨v, al, H, y, Nx, σ', rfl, rv, r1, _, ⟨c, hc, q⟩, more⟩
    · exact wpAny_bind (wpAny_rule (wpAny_pure (hR true s1 σ' H r1 hb1 q)))
    · subst hc
      obtain rfl : v = Value.bool c := rv
      refine wpAny_bind (wpAny_holding (wpAny_truthy_bool ?_))
      refine wpAny_bind (wpAny_letGo ?_)
      cases c with
      | true =>
        obtain ⟨k, hk, _⟩ := more () s1 q (asl_gens rfl rfl hb1) rfl True.intro
        cases hk
      | false =>
        simp only [Bool.false_eq_true, if_false]
        exact wpAny_bind (wpAny_rule (wpAny_pure (hR false s1 σ' H r1 hb1 q)))
  | succ n ih =>
    intro s rd
    refine codeAny_builtin F.entry_all_loop ?_
    rw [Around.under_plainId F.plain_all_loop _]
    show wpAny _ A.in1 (pyNext (.ref a) >>= _) _ _ s
    refine wpAny_bind (wpAny_mono (pull (A := A.in1) hh hroom hpn hgo (fun b hb => absurd hb (by simp)) (fun _ _ => True.intro) (fun _ _ _ _ _ => True.intro) rd) (fun r s1 ⟨hb1, _, h⟩ => ?_) fun _ _ e => e)
    rcases h with ⟨rfl, al, H, σ', r1, _, q⟩ | ⟨v, al, H, y, Nx, σ', rfl, rv, r1, _, ⟨c, hc, q⟩, more⟩
    · exact wpAny_bind (wpAny_rule (wpAny_pure (hR true s1 σ' H r1 hb1 q)))
    · subst hc
      obtain rfl : v = Value.bool c := rv
      refine wpAny_bind (wpAny_holding (wpAny_truthy_bool ?_))
      refine wpAny_bind (wpAny_letGo ?_)
      cases c with
      | true =>
        obtain ⟨k, hk, rd'⟩ := more () s1 q (asl_gens rfl rfl hb1) rfl True.intro
        obtain rfl : n = k := Nat.succ.inj hk
        simp only [if_true]
        exact wpAny_pure ⟨plainId_quiet F.plain_all_loop _, ih s1 rd'⟩
      | false =>
        simp only [Bool.false_eq_true, if_false]
        exact wpAny_bind (wpAny_rule (wpAny_pure (hR false s1 σ' H r1 hb1 q)))
theorem any_loop {A : Around} {a : Addr} {go : Obj} {g : Nat} (hh : A.handled = none) (hroom : A.depth < recursionLimit) (hpn : (a, go) ∈ Y.pn) (hgo : ∀ h : Heap, h.get? a = some go → h.IsGen a g)
    (hR : ∀ c s1 σ' H, Rest Y [] σ' H s1 → AllBare s1.gens → Q (.bl c) H → R (.ok (.ret (.bool c))) s1) :
    ∀ (n : Nat) (s : Shared), Ready Y [] noLk (gotAny Q) (fun _ H => Q (.bl false) H) A.in1 a g n s → codeAny (model Y.prog Y.w) A (.builtin "any.loop" ⟨[.ref a], []⟩) R s := by
  intro n
  induction n with
  | zero =>
    intro s rd
    refine codeAny_builtin F.entry_any_loop ?_
    rw [Around.under_plainId F.plain_any_loop _]
    show wpAny _ A.in1 (pyNext (.ref a) >>= _) _ _ s
    refine wpAny_bind (wpAny_mono (pull (A := A.in1) hh hroom hpn hgo (fun b hb => absurd hb (by simp)) (fun _ _ => True.intro) (fun _ _ _ _ _ => True.intro) rd) (fun r s1 ⟨hb1, _, h⟩ => ?_) fun _ _ e => e)
    rcases h with ⟨rfl, al, H, σ', r1, _, q⟩ | ⟨v, al, H, y, Nx, σ', rfl, rv, r1, _, ⟨c, hc, q⟩, more⟩
    · exact wpAny_bind (wpAny_rule (wpAny_pure (hR false s1 σ' H r1 hb1 q)))
    · subst hc
      obtain rfl : v = Value.bool c := rv
      refine wpAny_bind (wpAny_holding (wpAny_truthy_bool ?_))
      refine wpAny_bind (wpAny_letGo ?_)
      cases c with
      | false =>
        obtain ⟨k, hk, _⟩ := more () s1 q (asl_gens rfl rfl hb1) rfl True.intro
        cases hk
      | true =>
        simp only [if_true]
        exact wpAny_bind (wpAny_rule (wpAny_pure (hR true s1 σ' H r1 hb1 q)))
  | succ n ih =>
    intro s rd
    refine codeAny_builtin F.entry_any_loop ?_
    rw [Around.under_plainId F.plain_any_loop _]
    show wpAny _ A.in1 (pyNext (.ref a) >>= _) _ _ s
    refine wpAny_bind (wpAny_mono (pull (A := A.in1) hh hroom hpn hgo (fun b hb => absurd hb (by simp)) (fun _ _ => True.intro) (fun _ _ _ _ _ => True.intro) rd) (fun r s1 ⟨hb1, _, h⟩ => ?_) fun _ _ e => e)
    rcases h with ⟨rfl, al, H, σ', r1, _, q⟩ | ⟨v, al, H, y, Nx, σ', rfl, rv, r1, _, ⟨c, hc, q⟩, more⟩
    · exact wpAny_bind (wpAny_rule (wpAny_pure (hR false s1 σ' H r1 hb1 q)))
    · subst hc
      obtain rfl : v = Value.bool c := rv
      refine wpAny_bind (wpAny_holding (wpAny_truthy_bool ?_))
      refine wpAny_bind (wpAny_letGo ?_)
      cases c with
      | false =>
        obtain ⟨k, hk, rd'⟩ := more () s1 q (asl_gens rfl rfl hb1) rfl True.intro
        obtain rfl : n = k := Nat.succ.inj hk
        simp only [Bool.false_eq_true, if_false]
        exact wpAny_pure ⟨plainId_quiet F.plain_any_loop _, ih s1 rd'⟩
      | true =>
        simp only [if_true]
        exact wpAny_bind (wpAny_rule (wpAny_pure (hR true s1 σ' H r1 hb1 q)))
end
end Gx
namespace Gx
open PySem PySem.Spec PyProof.Rows L2 GenW GxR
open Sem (wp)

/-- the running total stands in the consumer's list -/
def sumLk (S : Addr) : Int → Shared → Prop := fun i s => ∃ t c, s.heap.get? S = some { cls := .type "list", dict := none, data := .seq #[.int i t] c, slots := #[] }
def gotSum (Q : VK) : Int → (Int → Hp → Prop) → V → Hp → Prop := fun i Nx y H => ∃ j, y = .int j ∧ (-(2 ^ 63) ≤ j ∧ j < 2 ^ 63) ∧ (-(2 ^ 63) ≤ i + j ∧ i + j < 2 ^ 63) ∧ Nx (i + j) H
theorem sumLk_keep {S : Addr} : ∀ (i : Int) (s s2 : Shared), (∀ b ∈ [S], ∀ o, s.heap.get? b = some o → s2.heap.get? b = some o) → sumLk S i s → sumLk S i s2 := fun i s s2 hk ⟨t, c, e⟩ => ⟨t, c, hk S (by simp) _ e⟩
theorem sumLk_one {S : Addr} {i j : Int} {s : Shared} (h : sumLk S i s) (h' : sumLk S j s) : i = j := by
  obtain ⟨t, c, e⟩ := h
  obtain ⟨t', c', e'⟩ := h'
  rw [e] at e'
  have z := congrArg Obj.data (Option.some.inj e')
  injection z with z1 _
  have z2 := congrArg Array.toList z1
  simp at z2
  exact z2.1
section
variable {Y : Cx} {Q : VK} {R : Result → Shared → Prop}
theorem sum_loop {A : Around} {a S : Addr} {go : Obj} {g : Nat} (hh : A.handled = none) (hroom : A.depth < recursionLimit) (hpn : (a, go) ∈ Y.pn) (hgo : ∀ h : Heap, h.get? a = some go → h.IsGen a g) (ap : ApL Y [S])
    (hR : ∀ i t s1 σ' H, Rest Y [S] σ' H s1 → AllBare s1.gens → Q (.int i) H → R (.ok (.ret (.int i t))) s1) :
    ∀ (n : Nat) (i : Int) (s : Shared), sumLk S i s → Ready Y [S] (sumLk S) (gotSum Q) (fun i H => Q (.int i) H) A.in1 a g n s → codeAny (model Y.prog Y.w) A (.builtin "sum.loop" ⟨[.ref a, .ref S, rawInt 0, rawInt 0], []⟩) R s := by
  intro n
  induction n with
  | zero =>
    intro i s lk rd
    obtain ⟨tS, cS, hS⟩ := lk
    refine codeAny_builtin F.entry_sum_loop ?_
    rw [Around.under_plainId F.plain_sum_loop _]
    show wpAny _ A.in1 (seqItems? (.ref S) >>= _) _ _ s
    refine wpAny_bind (wpAny_seqItems hS rfl ?_)
    show wpAny _ A.in1 (tryCatch (pyNext (.ref a)) _ >>= _) _ _ s
    refine wpAny_bind (wpAny_tryCatch (wpAny_mono (pull (A := A.in1) (E := fun _ _ => False) hh hroom hpn hgo ap (fun {al s s2} l e => sumLk_keep al s s2 (fun b _ o q => by rw [e]; exact q) l) sumLk_keep rd) (fun r s1 ⟨hb1, hks, h⟩ => ?_) fun _ _ e => e.elim))
    have hS1 := hks S (by simp) _ hS
    rcases h with ⟨rfl, al, H, σ', r1, lk1, q⟩ | ⟨v, al, H, y, Nx, σ', rfl, rv, r1, lk1, ⟨j, hj, hf, hg, q⟩, more⟩
    · obtain rfl := sumLk_one lk1 ⟨tS, cS, hS1⟩
      exact wpAny_pure (hR al tS s1 σ' H r1 hb1 q)
    · obtain rfl := sumLk_one lk1 ⟨tS, cS, hS1⟩
      subst hj
      obtain ⟨tv, rfl⟩ : ∃ t, v = Value.int j t := rv
      exfalso
      have hS2 := Heap.get?_update_self (h := s1.heap) (Obj.mapSeq (fun _ => #[Value.int (al + j) 0])) hS1 rfl
      obtain ⟨k, hk, _⟩ := more (al + j) { s1 with heap := s1.heap.update S (Obj.mapSeq fun _ => #[Value.int (al + j) 0]) } q
        ⟨rfl, hb1, fun b o hb e => (Heap.get?_update_other _ _ (fun z : S = b => hb (by simp [z]))).trans e, fun b hb => by
          obtain rfl : b = S := by simpa using hb
          exact ⟨_, hS2, fun v z => by cases z⟩⟩ rfl ⟨_, _, hS2⟩
      cases hk
  | succ n ih =>
    intro i s lk rd
    obtain ⟨tS, cS, hS⟩ := lk
    refine codeAny_builtin F.entry_sum_loop ?_
    rw [Around.under_plainId F.plain_sum_loop _]
    show wpAny _ A.in1 (seqItems? (.ref S) >>= _) _ _ s
    refine wpAny_bind (wpAny_seqItems hS rfl ?_)
    show wpAny _ A.in1 (tryCatch (pyNext (.ref a)) _ >>= _) _ _ s
    refine wpAny_bind (wpAny_tryCatch (wpAny_mono (pull (A := A.in1) (E := fun _ _ => False) hh hroom hpn hgo ap (fun {al s s2} l e => sumLk_keep al s s2 (fun b _ o q => by rw [e]; exact q) l) sumLk_keep rd) (fun r s1 ⟨hb1, hks, h⟩ => ?_) fun _ _ e => e.elim))
    have hS1 := hks S (by simp) _ hS
    rcases h with ⟨rfl, al, H, σ', r1, lk1, q⟩ | ⟨v, al, H, y, Nx, σ', rfl, rv, r1, lk1, ⟨j, hj, ⟨f1, f2⟩, ⟨g1, g2⟩, q⟩, more⟩
    · obtain rfl := sumLk_one lk1 ⟨tS, cS, hS1⟩
      exact wpAny_pure (hR al tS s1 σ' H r1 hb1 q)
    · obtain rfl := sumLk_one lk1 ⟨tS, cS, hS1⟩
      subst hj
      obtain ⟨tv, rfl⟩ : ∃ t, v = Value.int j t := rv
      have hc : ((decide (-(2 ^ 63) ≤ j) && decide (j < 2 ^ 63)) && (decide (-(2 ^ 63) ≤ al + j) && decide (al + j < 2 ^ 63))) = true := by
        simp only [Bool.and_eq_true, decide_eq_true_eq]
        exact ⟨⟨f1, f2⟩, g1, g2⟩
      show wpAny _ A.in1 (if (_ : Bool) = true then (mkInt (al + j) >>= _) else _) _ _ _
      split
      · refine wpAny_bind (wpAny_mkInt ?_)
        show wpAny _ A.in1 (updateSeq S (fun _ => #[.int (al + j) s1.toks]) >>= _) _ _ _
        refine wpAny_bind ?_
        have hS2 := Heap.get?_update_self (h := s1.heap) (Obj.mapSeq (fun _ => #[Value.int (al + j) s1.toks])) hS1 rfl
        obtain ⟨k, hk, rd'⟩ := more (al + j) { s1 with toks := s1.toks + 1, heap := s1.heap.update S (Obj.mapSeq fun _ => #[Value.int (al + j) s1.toks]) } q
          ⟨rfl, hb1, fun b o hb e => (Heap.get?_update_other _ _ (fun z : S = b => hb (by simp [z]))).trans e, fun b hb => by
            obtain rfl : b = S := by simpa using hb
            exact ⟨_, hS2, fun v z => by cases z⟩⟩ rfl ⟨_, _, hS2⟩
        obtain rfl : n = k := Nat.succ.inj hk
        exact wpAny_updateSeq hS1 rfl (wpAny_pure ⟨plainId_quiet F.plain_sum_loop _, ih (al + j) _ ⟨_, _, hS2⟩ rd'⟩)
      · rename_i hneg
        exact absurd hc hneg
end
end Gx
namespace Gx
open PySem PySem.Spec PyProof.Rows L2 GenW GxR
open Sem (wp)

/-- the scope of a generator expression -/
structure GxS (N : List Str) (sc scope : Scope) (own : List (Str × Nat)) : Prop where
  blk : BlkOk N sc scope own
  co : scope.isCoroutine = false
  noCell : ∀ y ∈ scope.names, y.2 ≠ .cell
  dot : scope.names.lookup (".0" : Str) = some NameKind.local

/-- a generator that has not begun, in the state s3 -/
structure Made (X : Cx) (pins : List (Addr × Obj)) (σ : L2.St) (elt tg iter : Expr) (ifs : List Expr) (scope : Scope) (gpos : Pos) (own : List (Str × Nat)) (J : It) (H2 : Hp) (s2 : Shared) (fp : List Addr) (it : Addr) (tn : Nat → Heap → Prop) (code : Value) (a : Addr) (go : Obj) (g : Nat) (s3 : Shared) : Prop where
  inv : Inv X pins σ H2 s2
  fpk : ∀ b ∈ fp, FpOk X pins H2 b ∧ b < s2.heap.objs.size
  keep : ∀ b o, s2.heap.get? b = some o → s3.heap.get? b = some o
  os : s3.os = s2.os
  bare : AllBare s3.gens
  frame : ∀ A' : Around, A'.handled = none → A'.frames = some (genEnv scope (cloFrom X.env.cells scope.names []) s2.heap.objs.size code builtinsNs X.env :: X.stack) →
    Inv (gcx X s2 H2 scope (cloFrom X.env.cells scope.names []) s2.heap.objs.size code A' fp [(a, go)]) [] (wipe σ (own.map (·.2))) H2 s3
  turn : Turn X.prog X.w X.K tg J fp it tn
  st : tn 0 s3.heap
  gen : s3.gens[g]? = some (.fresh (.compStart (gexp elt tg iter ifs scope gpos) 0 (.ref it) .none (genEnv scope (cloFrom X.env.cells scope.names []) s2.heap.objs.size code builtinsNs X.env)))
  isg : ∀ h : Heap, h.get? a = some go → h.IsGen a g
  lt : s2.heap.objs.size < a ∧ s3.heap.objs.size > a

section
variable {X : Cx} {pins : List (Addr × Obj)} {σ : L2.St} {H : Hp} {s : Shared}
theorem gen_make {c P : Addr} {elt tg iter : Expr} {ifs : List Expr} {scope : Scope} {gpos : Pos} {own : List (Str × Nat)} {wi : TI} {k : Nat} {Q' : Value → Shared → Prop} {R : It → Hp → Prop}
    (hr : Room k X.A) (TB : TabB X.base X.mg c P) (hcode : X.env.code = .ref c) (hN : X.N.Nodup) (S : GxS X.N X.env.scope scope own) (hi : PI X tg iter wi) (hs : ∀ v, genFold iter X.env v = pure v) (I : Inv X pins σ H s)
    (h : wi σ H fun J H1 => TabG H1 P ∧ R J H1)
    (hQ : ∀ J H1 H2 s2 fp it tn code a go g s3, R J H1 → Tabbed P H1 H2 → Made X pins σ elt tg iter ifs scope gpos own J H2 s2 fp it tn code a go g s3 → Q' (.ref a) s3) :
    wpAny (model X.prog X.w) X.A (eval (gexp elt tg iter ifs scope gpos) X.env) Q' X.xe s := by
  have hfree : ∀ y ∈ scope.names, y.2 = .free → ∃ c, X.env.cells.lookup y.1 = some c := fun y hy e => by
    rcases S.blk.free y hy e with z | z
    · exact I.ok.has _ (.inl z)
    · exact I.ok.has _ (.inr z)
  refine wpAny_GeneratorExp_make S.co (closure_ok hfree) S.noCell S.dot S.blk.kind (by have := hr.dp; omega) ?_ hs
  refine wpAny_mono (hi.run pins s σ H _ I h) (fun xv s1 h1 => wpAny_mono h1 (fun itv s2 h2 => ?_) fun _ _ e => e) fun _ _ e => e
  obtain ⟨it, fp, tn, J, H1, rfl, I2, T, st2, f2, ⟨ps, hP, ht⟩, q⟩ := h2
  refine ⟨I2.nolimit, ?_⟩
  have hPs : s2.heap.get? P = some { cls := .none, data := .fields ps } := I2.hok P _ hP
  have hPlt : P < s2.heap.objs.size := Heap.lt_size hPs
  have cd : PySem.W.CodeHd s2.heap c P := TB.code.keeps I2.bk
  have fpP : ∀ b ∈ fp, b ≠ P := fun b hb z => by
    have e := (f2 b hb).1
    rw [z, hP] at e
    cases e
  -- from the code object on
  have cont : ∀ (code : Value) (h3 : Heap) (tk : Nat) (more : Array Value), Heap.ExtBut P s2.heap h3 → s2.heap.objs.size ≤ h3.objs.size → h3.get? P = some { cls := .none, data := .fields (ps ++ more) } → TriplesOk (ps ++ more).toList →
      wpAny (model X.prog X.w) X.A (builtinsFor X.env.globals X.env.builtins) (fun bi s₄ =>
        ∀ h', h'.Ns s₄.heap.objs.size (fun y => if y = ".0" then some (Value.ref it) else none) → Heap.SameBut s₄.heap.objs.size (s₄.heap.push { cls := .type "frame", data := .dict #[] }) h' →
          Q' (.ref h'.objs.size) { s₄ with
            gens := s₄.gens.push (.fresh (.compStart (gexp elt tg iter ifs scope gpos) 0 (.ref it) .none (genEnv scope (cloFrom X.env.cells scope.names []) s₄.heap.objs.size code bi X.env))),
            toks := s₄.toks + 1 + 1 + 1,
            heap := h'.push { cls := .type "generator", data := .fields #[.int s₄.gens.size 0, .str "<genexpr>" (s₄.toks + 1), .str (X.env.qual ++ "<genexpr>") (s₄.toks + 1 + 1)] } }) X.xe { s2 with heap := h3, toks := tk } := by
    intro code h3 tk more hx hsz hP3 ht3
    obtain ⟨bm, ob, e1, e2, e3, e4, e5, e6, e7, e8⟩ := TB.bm
    have keep3 : ∀ b o, b ≠ P → s2.heap.get? b = some o → h3.get? b = some o := fun b o hb e => hx b o hb e
    refine wpAny_builtinsFor (m := X.mg) (by rw [I2.ok.glob]; exact (I2.mod.glob.keeps I2.bk).extBut hx TB.gP) e1 e2 (keep3 _ _ e4 (I2.bk _ _ e5)) e6 e7 e8 ?_
    have I3 : Inv X pins σ (upd H1 P (.tbl (ps ++ more))) { s2 with heap := h3, toks := tk } := inv_tab I2 hP keep3 hP3 I2.bare
    intro h' hns hsb
    have hsz' : h'.objs.size = h3.objs.size + 1 := by rw [hsb.1, Heap.size_push]
    have f3 : ∀ b ∈ fp, FpOk X pins (upd H1 P (.tbl (ps ++ more))) b ∧ b < h3.objs.size := fun b hb => by
      refine ⟨⟨by rw [upd_ne (fpP b hb)]; exact (f2 b hb).1, (f2 b hb).2⟩, ?_⟩
      obtain ⟨o, e, _⟩ := T.obj _ _ st2 b hb
      exact Nat.lt_of_lt_of_le (Heap.lt_size e) hsz
    have kp : ∀ (u : Obj) (b : Addr) (o : Obj), h3.get? b = some o → (h'.push u).get? b = some o := fun u b o e =>
      Heap.get?_push_of_some _ (hsb.extBut b o (Nat.ne_of_lt (Heap.lt_size e)) (Heap.get?_push_of_some _ e))
    have bare3 : ∀ c : Code, AllBare (s2.gens.push (.fresh c)) := fun c => AllBare.push I2.bare rfl
    refine hQ J H1 (upd H1 P (.tbl (ps ++ more))) { s2 with heap := h3, toks := tk } fp it tn code h'.objs.size { cls := .type "generator", data := .fields #[.int s2.gens.size 0, .str "<genexpr>" (tk + 1), .str (X.env.qual ++ "<genexpr>") (tk + 1 + 1)] } s2.gens.size _ q ⟨⟨ps ++ more, upd_same, ht3⟩, fun b hb => upd_ne hb⟩
      ⟨I3, f3, kp _, rfl, bare3 _, fun A' hA hF => ?_, T, ?_, Array.getElem?_push_size .., fun h e => ⟨_, _, _, e, rfl, rfl, rfl⟩, ?_⟩
    · exact gen_start I3 S.blk hN f3 (fun {y} hm => S.noCell _ hm rfl) hA hF hns hsb (fun v z => by cases z) (fun h => Heap.get?_push_size _ rfl) (bare3 _)
    · refine T.keep 0 s2.heap _ st2 fun b hb o e => kp _ b o (keep3 b o (fpP b hb) e)
    · refine ⟨?_, ?_⟩
      · show h3.objs.size < h'.objs.size
        omega
      · show (h'.push _).objs.size > h'.objs.size
        rw [Heap.size_push]
        exact Nat.lt_succ_self _
  cases hf : codeAmong gpos ps.toList with
  | none =>
    refine wpAny_genexprCodeX hcode (cd.code hPs ht) (cd.tab hPs) hf fun c' h' tk hx hge hlt hco' _ htab' _ => ?_
    obtain ⟨o1, vs, f1, tf, fl, tg, inF, tx, tt, op, _, _, _, _, _, _, _, _, _, htr, _⟩ := hco'
    exact cont _ h' tk _ hx (Nat.le_trans hge (Nat.le_of_lt hlt)) htab'.2 htr
  | some cv =>
    refine wpAny_genexprCode_hit hcode (cd.code hPs ht) hf ?_
    exact cont cv s2.heap s2.toks #[] (Heap.ExtBut.refl _ _) (Nat.le_refl _) (by rw [Array.append_empty]; exact hPs) (by rw [Array.append_empty]; exact ht)
end
end Gx
namespace Gx
open PySem PySem.Spec PyProof.Rows L2 GenW GxR
open Sem (wp)

theorem wipe_wipe (σ : L2.St) (vs : List Nat) : wipe (wipe σ vs) vs = wipe σ vs := by
  apply List.ext_getElem?
  intro i
  have key : ∀ (τ : L2.St) (ws : List Nat), (wipe τ ws)[i]? = if i ∈ ws ∧ i < τ.length then some none else τ[i]? := by
    intro τ ws
    induction ws with
    | nil => simp [wipe]
    | cons v ws ih =>
      unfold wipe
      by_cases hv : v = i
      · subst hv
        by_cases hl : v < τ.length
        · rw [List.getElem?_set_self (by rw [wipe_length]; exact hl), if_pos ⟨List.mem_cons_self, hl⟩]
        · rw [List.getElem?_eq_none (by rw [List.length_set, wipe_length]; omega), if_neg (fun z => hl z.2), List.getElem?_eq_none (by omega)]
      · rw [List.getElem?_set_ne hv, ih]
        have e : (i ∈ v :: ws ∧ i < τ.length) ↔ (i ∈ ws ∧ i < τ.length) := by
          constructor
          · rintro ⟨z, hl⟩
            rcases List.mem_cons.mp z with z | z
            · exact absurd z.symm hv
            · exact ⟨z, hl⟩
          · rintro ⟨z, hl⟩
            exact ⟨List.mem_cons_of_mem _ z, hl⟩
        by_cases hc : i ∈ ws ∧ i < τ.length
        · rw [if_pos hc, if_pos (e.mpr hc)]
        · rw [if_neg hc, if_neg (fun z => hc (e.mp z))]
  rw [key (wipe σ vs) vs, key σ vs, wipe_length]
  by_cases hc : i ∈ vs ∧ i < σ.length
  · rw [if_pos hc, if_pos hc]
  · rw [if_neg hc]

/-- the around of the frame, under the consumer -/
abbrev gA (A : Around) (env : Env) : Around := (A.in1.in1).deeper env
theorem gA_room {k : Nat} {A : Around} (r : Room (k + 1) A) (env : Env) : Room k (gA A env) :=
  ⟨r.hd, by have := r.dp; show A.depth + 1 + 3 * k + 5 < _; omega, by have := r.un; show A.units + 1 + 1 + 3 + 16 * k + 200 < _; omega⟩
theorem gA_frames {A : Around} {st : List Env} (h : A.frames = some st) (env : Env) : (gA A env).frames = some (env :: st) := Around.frames_deeper (A := A.in1.in1) h

section
variable {X : Cx} {pins : List (Addr × Obj)} {σ : L2.St} {H : Hp} {s : Shared}
/-- what stands ready for a consumer: W the invariant of the turns -/
theorem made_ready {α : Type} {ss : List Addr} {Lk : α → Shared → Prop} {Got : α → (α → Hp → Prop) → V → Hp → Prop} {Fin : α → Hp → Prop} {k : Nat} {elt tg iter : Expr} {ifs : List Expr} {scope : Scope} {gpos : Pos} {own : List (Str × Nat)} {J : It} {H2 : Hp} {s2 : Shared} {fp : List Addr} {it : Addr} {tn : Nat → Heap → Prop} {code : Value} {a : Addr} {go : Obj} {g : Nat} {s3 s4 : Shared}
    {gt : TG} {tt : TT} {te : TE} {W : Nat → Nat → α → Hp → Prop} {m : Nat} {a0 : α} (hr : Room (k + 1) X.A) (S : GxS X.N X.env.scope scope own)
    (hg : ∀ (s : Shared) (H : Hp) (cl : List (Str × Addr)) (C : Addr) (code : Value) (A' : Around) (fp : List Addr) (pn : List (Addr × Obj)), Room k A' → PG (gcx X s H scope cl C code A' fp pn) tg gt)
    (ht : ∀ (s : Shared) (H : Hp) (cl : List (Str × Addr)) (C : Addr) (code : Value) (A' : Around) (fp : List Addr) (pn : List (Addr × Obj)), Room k A' → PTs (gcx X s H scope cl C code A' fp pn) ifs tt)
    (he : ∀ (s : Shared) (H : Hp) (cl : List (Str × Addr)) (C : Addr) (code : Value) (A' : Around) (fp : List Addr) (pn : List (Addr × Obj)), Room k A' → PE (gcx X s H scope cl C code A' fp pn) elt te)
    (M : Made X pins σ elt tg iter ifs scope gpos own J H2 s2 fp it tn code a go g s3)
    (hss : ∀ b ∈ ss, s3.heap.objs.size ≤ b) (hAs : Asl ss s3 s4) (hgn : s4.gens = s3.gens) (hLk : ∀ a s s', (∀ b ∈ ss, ∀ o, s.heap.get? b = some o → s'.heap.get? b = some o) → Lk a s → Lk a s') (lk : Lk a0 s4)
    (w0 : W 0 m a0 H2) (turns : Turns (wipe σ (own.map (·.2))) Got Fin J gt tt te (own.map (·.2)) W) :
    let Y := gcx X s2 H2 scope (cloFrom X.env.cells scope.names []) s2.heap.objs.size code (gA X.A (genEnv scope (cloFrom X.env.cells scope.names []) s2.heap.objs.size code builtinsNs X.env)) fp [(a, go)]
    ApL Y ss ∧ Ready Y ss Lk Got Fin X.A.in1 a g (m + 1) s4 := by
  intro Y
  have hA : (gA X.A (genEnv scope (cloFrom X.env.cells scope.names []) s2.heap.objs.size code builtinsNs X.env)).handled = none := hr.hd
  have hF := gA_frames M.inv.ok.frames (genEnv scope (cloFrom X.env.cells scope.names []) s2.heap.objs.size code builtinsNs X.env)
  have room := gA_room hr (genEnv scope (cloFrom X.env.cells scope.names []) s2.heap.objs.size code builtinsNs X.env)
  have I3 := M.frame _ hA hF
  have hlt := M.lt
  have hsz : s2.heap.objs.size ≤ s3.heap.objs.size := by omega
  have ap : ApL Y ss := fun b hb => by
    have h1 := hss b hb
    refine ⟨Nat.le_trans hsz h1, ?_, fun x c e z => ?_, fun p hp => ?_⟩
    · exact Nat.ne_of_gt (show s2.heap.objs.size < b by omega)
    · have h2 : c < s2.heap.objs.size := (clo_get M.inv S.blk e).2.1
      exact Nat.ne_of_lt (Nat.lt_of_lt_of_le h2 (Nat.le_trans hsz h1)) z
    · have e : p = (a, go) := List.mem_singleton.mp hp
      rw [e]
      exact Nat.ne_of_lt (Nat.lt_of_lt_of_le hlt.2 h1)
  have r3 : Rest Y ss (wipe σ (own.map (·.2))) H2 s4 := by
    have r0 : Rest Y [] (wipe σ (own.map (·.2))) H2 s3 := ⟨I3, fun b hb => absurd hb (by simp)⟩
    -- s4: the consumer's own objects are new
    have hk : ∀ b o, s3.heap.get? b = some o → s4.heap.get? b = some o := fun b o e => hAs.keep b o (fun hb => absurd (Heap.lt_size e) (Nat.not_lt.mpr (hss b hb))) e
    have r4 : Rest Y [] (wipe σ (own.map (·.2))) H2 s4 := r0.woken (fun b hb => absurd hb (by simp)) ⟨hAs.os, hAs.bare, fun b o _ e => hk b o e, fun b hb => absurd hb (by simp)⟩
    refine ⟨r4.inv.pins_of fun p hp => ?_, hAs.own⟩
    obtain ⟨hb, e⟩ := of_pinsAt hp
    obtain ⟨o, e', dd⟩ := hAs.own p.1 hb
    rw [e] at e'
    cases e'
    obtain ⟨a1, a2, a3, a4⟩ := ap p.1 hb
    refine ⟨e, I3.hok.fresh (hss p.1 hb), a2, ?_, dd⟩
    exact I3.nofs (hss p.1 hb)
  refine ⟨ap, ⟨M.isg _ (r3.inv.pin (a, go) (List.mem_append_left _ (List.mem_singleton.mpr rfl))).1, r3.inv.nolimit, hAs.bare, .fresh (.compStart (gexp elt tg iter ifs scope gpos) 0 (.ref it) .none Y.env), by rw [hgn]; exact M.gen, rfl, ?_⟩⟩
  have hbr : AllBare (s4.setGen g .running).gens := allBare_setGen hAs.bare rfl
  have r5 : Rest Y ss (wipe σ (own.map (·.2))) H2 (s4.setGen g .running) := r3.woken ap ⟨rfl, hbr, fun b o _ e => e, fun b hb => r3.own b hb⟩
  have fps : ∀ b ∈ fp, b ∉ ss := fun b hb z => by
    exact absurd (Nat.lt_of_lt_of_le (M.fpk b hb).2 (Nat.le_trans hsz (hss b z))) (Nat.lt_irrefl _)
  have st4 : tn 0 (s4.setGen g .running).heap := M.turn.keep 0 s3.heap _ M.st fun b hb o e => hAs.keep b o (fps b hb) e
  refine seg_begin (Y := Y) (tn := tn) (fun A s Q E => M.turn.self A 0 s Q E) st4 ?_
  refine seg_turns (Y := Y) (σ := wipe σ (own.map (·.2))) (vs := own.map (·.2)) (J := J) (W := W) rfl rfl rfl S.co rfl (wipe_wipe _ _) ap fps (fun p hp hf => ?_) hLk M.turn (hg _ _ _ _ _ _ _ _ room) (ht _ _ _ _ _ _ _ _ room) (he _ _ _ _ _ _ _ _ room) turns
    m (m + 1) 0 a0 _ _ H2 (Nat.lt_succ_self m) (fun _ _ _ e => e) r5 st4 (fun b hb => (M.fpk b hb).1.1) (hLk a0 s4 _ (fun _ _ _ e => e) lk) w0
  have e : p = (a, go) := List.mem_singleton.mp hp
  rw [e] at hf
  exact absurd (Nat.lt_trans (M.fpk a hf).2 hlt.1) (Nat.lt_irrefl _)
/-- back in the def -/
theorem made_back {ss : List Addr} {elt tg iter : Expr} {ifs : List Expr} {scope : Scope} {gpos : Pos} {own : List (Str × Nat)} {J : It} {H2 H' : Hp} {s2 : Shared} {fp : List Addr} {it : Addr} {tn : Nat → Heap → Prop} {code : Value} {a : Addr} {go : Obj} {g : Nat} {s3 s' : Shared} {A' : Around} {σ' : L2.St}
    (M : Made X pins σ elt tg iter ifs scope gpos own J H2 s2 fp it tn code a go g s3)
    (r : Rest (gcx X s2 H2 scope (cloFrom X.env.cells scope.names []) s2.heap.objs.size code A' fp [(a, go)]) ss σ' H' s') : Inv X pins σ H' s' :=
  M.inv.call' (ch := fp) r.inv.os r.inv.base r.inv.hok r.inv.bare fun b hb => ⟨(M.fpk b hb).1.2.2.2.1, (M.fpk b hb).1.2.1, (M.fpk b hb).1.2.2.2.2.1, (M.fpk b hb).1.2.2.2.2.2⟩
end
end Gx
namespace Gx
open PySem PySem.Spec PyProof.Rows L2 GenW GxR
open Sem (wp)

/-- all(elt for tg in iter if ..): behind it the def's table may have grown -/
def tAllX (P : Addr) (wi : TI) (gt : TG) (tt : TT) (te : TE) (vs : List Nat) : TE := fun σ H Q => wi σ H fun J H1 => TabG H1 P ∧ ∀ H2, Tabbed P H1 H2 →
  ∃ W : Nat → Nat → Unit → Hp → Prop, (∃ m, W 0 m () H2) ∧ Turns (wipe σ vs) (gotAll Q) (fun _ H => Q (.bl true) H) J gt tt te vs W
def tAnyX (P : Addr) (wi : TI) (gt : TG) (tt : TT) (te : TE) (vs : List Nat) : TE := fun σ H Q => wi σ H fun J H1 => TabG H1 P ∧ ∀ H2, Tabbed P H1 H2 →
  ∃ W : Nat → Nat → Unit → Hp → Prop, (∃ m, W 0 m () H2) ∧ Turns (wipe σ vs) (gotAny Q) (fun _ H => Q (.bl false) H) J gt tt te vs W
def tSumX (P : Addr) (wi : TI) (gt : TG) (tt : TT) (te : TE) (vs : List Nat) : TE := fun σ H Q => wi σ H fun J H1 => TabG H1 P ∧ ∀ H2, Tabbed P H1 H2 →
  ∃ W : Nat → Nat → Int → Hp → Prop, (∃ m, W 0 m 0 H2) ∧ Turns (wipe σ vs) (gotSum Q) (fun i H => Q (.int i) H) J gt tt te vs W

section
variable {X : Cx} {c P : Addr} {elt tg iter : Expr} {ifs : List Expr} {scope : Scope} {gpos pos p : Pos} {own : List (Str × Nat)} {wi : TI} {gt : TG} {tt : TT} {te : TE} {k : Nat}
theorem pe_allX (hr : Room (k + 1) X.A) (hgl : Gl X "all") (hm : X.mg "all" = none) (TB : TabB X.base X.mg c P) (hcode : X.env.code = .ref c) (hN : X.N.Nodup) (S : GxS X.N X.env.scope scope own) (hi : PI X tg iter wi)
    (hg : ∀ (s : Shared) (H : Hp) (cl : List (Str × Addr)) (C : Addr) (code : Value) (A' : Around) (fp : List Addr) (pn : List (Addr × Obj)), Room k A' → PG (gcx X s H scope cl C code A' fp pn) tg gt)
    (ht : ∀ (s : Shared) (H : Hp) (cl : List (Str × Addr)) (C : Addr) (code : Value) (A' : Around) (fp : List Addr) (pn : List (Addr × Obj)), Room k A' → PTs (gcx X s H scope cl C code A' fp pn) ifs tt)
    (he : ∀ (s : Shared) (H : Hp) (cl : List (Str × Addr)) (C : Addr) (code : Value) (A' : Around) (fp : List Addr) (pn : List (Addr × Obj)), Room k A' → PE (gcx X s H scope cl C code A' fp pn) elt te)
    (hs : ∀ v, genFold iter X.env v = pure v := by intro _; rfl)
    (hst : starEach [gexp elt tg iter ifs scope gpos] X.env = (false, eval (gexp elt tg iter ifs scope gpos) X.env) :: starEach [] X.env := by rfl) :
    PE X (.Call (.Name "all" p) [gexp elt tg iter ifs scope gpos] [] pos) (tAllX P wi gt tt te (own.map (·.2))) := by
  refine ⟨fun pins s σ H Q I h => ?_⟩
  refine wpAny_Call_Name_kw (ld_blt I hgl hm (by decide +kernel : bootBuiltins "all" = some (.builtin "all")) ?_)
  refine PyProof.Rows.callWith_builtin1 ?_ hst (by rfl)
  rw [hst]
  show wpAny _ _ (spliced ((false, eval (gexp elt tg iter ifs scope gpos) X.env) :: backTo pos (starEach [] X.env))) _ _ s
  refine Calls.spliced_cons (gen_make hr TB hcode hN S hi hs I h fun J H1 H2 s2 fp it tn code a go g s3 hw hT M => ?_)
  refine Calls.spliced_nil ?_
  obtain ⟨W, ⟨m, w0⟩, turns⟩ := hw H2 hT
  obtain ⟨_, rd⟩ := made_ready (ss := []) (Lk := noLk) (s4 := s3) hr S hg ht he M (fun b hb => absurd hb (by simp)) (asl_gens rfl rfl M.bare) rfl (fun _ _ _ _ _ => True.intro) True.intro w0 turns
  refine call_function_tree F.kind_all F.plain_all F.entry_all (F.args_all1 _) ?_
  unfold Builtin.«all»
  refine wpAny_bind (m := oneArg "all" _) (wpAny_pure ?_)
  refine wpAny_bind (wpAny_pyIter_gen rd.1 ?_)
  refine wpAny_pure ⟨plainId_quiet F.plain_all_loop _, ?_⟩
  refine all_loop (Y := (gcx X s2 H2 scope (cloFrom X.env.cells scope.names []) s2.heap.objs.size code (gA X.A (genEnv scope (cloFrom X.env.cells scope.names []) s2.heap.objs.size code builtinsNs X.env)) fp [(a, go)])) (A := X.A) (Q := Q) hr.hd (by have := hr.dp; show X.A.depth < _; omega) (List.mem_singleton.mpr rfl) M.isg (fun cc s1 σ' H' r hb q => ?_) (m + 1) s3 rd
  exact ⟨.bl cc, H', made_back M r, rfl, q⟩
theorem pe_anyX (hr : Room (k + 1) X.A) (hgl : Gl X "any") (hm : X.mg "any" = none) (TB : TabB X.base X.mg c P) (hcode : X.env.code = .ref c) (hN : X.N.Nodup) (S : GxS X.N X.env.scope scope own) (hi : PI X tg iter wi)
    (hg : ∀ (s : Shared) (H : Hp) (cl : List (Str × Addr)) (C : Addr) (code : Value) (A' : Around) (fp : List Addr) (pn : List (Addr × Obj)), Room k A' → PG (gcx X s H scope cl C code A' fp pn) tg gt)
    (ht : ∀ (s : Shared) (H : Hp) (cl : List (Str × Addr)) (C : Addr) (code : Value) (A' : Around) (fp : List Addr) (pn : List (Addr × Obj)), Room k A' → PTs (gcx X s H scope cl C code A' fp pn) ifs tt)
    (he : ∀ (s : Shared) (H : Hp) (cl : List (Str × Addr)) (C : Addr) (code : Value) (A' : Around) (fp : List Addr) (pn : List (Addr × Obj)), Room k A' → PE (gcx X s H scope cl C code A' fp pn) elt te)
    (hs : ∀ v, genFold iter X.env v = pure v := by intro _; rfl)
    (hst : starEach [gexp elt tg iter ifs scope gpos] X.env = (false, eval (gexp elt tg iter ifs scope gpos) X.env) :: starEach [] X.env := by rfl) :
    PE X (.Call (.Name "any" p) [gexp elt tg iter ifs scope gpos] [] pos) (tAnyX P wi gt tt te (own.map (·.2))) := by
  refine ⟨fun pins s σ H Q I h => ?_⟩
  refine wpAny_Call_Name_kw (ld_blt I hgl hm (by decide +kernel : bootBuiltins "any" = some (.builtin "any")) ?_)
  refine PyProof.Rows.callWith_builtin1 ?_ hst (by rfl)
  rw [hst]
  show wpAny _ _ (spliced ((false, eval (gexp elt tg iter ifs scope gpos) X.env) :: backTo pos (starEach [] X.env))) _ _ s
  refine Calls.spliced_cons (gen_make hr TB hcode hN S hi hs I h fun J H1 H2 s2 fp it tn code a go g s3 hw hT M => ?_)
  refine Calls.spliced_nil ?_
  obtain ⟨W, ⟨m, w0⟩, turns⟩ := hw H2 hT
  obtain ⟨_, rd⟩ := made_ready (ss := []) (Lk := noLk) (s4 := s3) hr S hg ht he M (fun b hb => absurd hb (by simp)) (asl_gens rfl rfl M.bare) rfl (fun _ _ _ _ _ => True.intro) True.intro w0 turns
  refine call_function_tree F.kind_any F.plain_any F.entry_any (F.args_any1 _) ?_
  unfold Builtin.«any»
  refine wpAny_bind (m := oneArg "any" _) (wpAny_pure ?_)
  refine wpAny_bind (wpAny_pyIter_gen rd.1 ?_)
  refine wpAny_pure ⟨plainId_quiet F.plain_any_loop _, ?_⟩
  refine any_loop (Y := (gcx X s2 H2 scope (cloFrom X.env.cells scope.names []) s2.heap.objs.size code (gA X.A (genEnv scope (cloFrom X.env.cells scope.names []) s2.heap.objs.size code builtinsNs X.env)) fp [(a, go)])) (A := X.A) (Q := Q) hr.hd (by have := hr.dp; show X.A.depth < _; omega) (List.mem_singleton.mpr rfl) M.isg (fun cc s1 σ' H' r hb q => ?_) (m + 1) s3 rd
  exact ⟨.bl cc, H', made_back M r, rfl, q⟩
theorem pe_sumX (hr : Room (k + 1) X.A) (hgl : Gl X "sum") (hm : X.mg "sum" = none) (TB : TabB X.base X.mg c P) (hcode : X.env.code = .ref c) (hN : X.N.Nodup) (S : GxS X.N X.env.scope scope own) (hi : PI X tg iter wi)
    (hg : ∀ (s : Shared) (H : Hp) (cl : List (Str × Addr)) (C : Addr) (code : Value) (A' : Around) (fp : List Addr) (pn : List (Addr × Obj)), Room k A' → PG (gcx X s H scope cl C code A' fp pn) tg gt)
    (ht : ∀ (s : Shared) (H : Hp) (cl : List (Str × Addr)) (C : Addr) (code : Value) (A' : Around) (fp : List Addr) (pn : List (Addr × Obj)), Room k A' → PTs (gcx X s H scope cl C code A' fp pn) ifs tt)
    (he : ∀ (s : Shared) (H : Hp) (cl : List (Str × Addr)) (C : Addr) (code : Value) (A' : Around) (fp : List Addr) (pn : List (Addr × Obj)), Room k A' → PE (gcx X s H scope cl C code A' fp pn) elt te)
    (hs : ∀ v, genFold iter X.env v = pure v := by intro _; rfl)
    (hst : starEach [gexp elt tg iter ifs scope gpos] X.env = (false, eval (gexp elt tg iter ifs scope gpos) X.env) :: starEach [] X.env := by rfl) :
    PE X (.Call (.Name "sum" p) [gexp elt tg iter ifs scope gpos] [] pos) (tSumX P wi gt tt te (own.map (·.2))) := by
  refine ⟨fun pins s σ H Q I h => ?_⟩
  refine wpAny_Call_Name_kw (ld_blt I hgl hm (by decide +kernel : bootBuiltins "sum" = some (.builtin "sum")) ?_)
  refine PyProof.Rows.callWith_builtin1 ?_ hst (by rfl)
  rw [hst]
  show wpAny _ _ (spliced ((false, eval (gexp elt tg iter ifs scope gpos) X.env) :: backTo pos (starEach [] X.env))) _ _ s
  refine Calls.spliced_cons (gen_make hr TB hcode hN S hi hs I h fun J H1 H2 s2 fp it tn code a go g s3 hw hT M => ?_)
  refine Calls.spliced_nil ?_
  obtain ⟨W, ⟨m, w0⟩, turns⟩ := hw H2 hT
  have ready := fun (s4 : Shared) hss hAs hgn lk => made_ready (ss := [s3.heap.objs.size]) (Lk := sumLk s3.heap.objs.size) (s4 := s4) hr S hg ht he M hss hAs hgn sumLk_keep lk w0 turns
  have isg : s3.heap.IsGen a g := by
    have hA : (gA X.A (genEnv scope (cloFrom X.env.cells scope.names []) s2.heap.objs.size code builtinsNs X.env)).handled = none := hr.hd
    have I3 := M.frame _ hA (gA_frames M.inv.ok.frames _)
    exact M.isg _ (I3.pin (a, go) (List.mem_append_left _ (List.mem_singleton.mpr rfl))).1
  refine call_function_tree F.kind_sum F.plain_sum F.entry_sum (F.args_sum1 _) ?_
  unfold Builtin.«sum»
  simp only [List.length_cons, List.length_nil]
  rw [if_neg (by decide)]
  refine wpAny_bind (wpAny_of_eq (show Builtin.Builtins.bindParams "sum" ["start"] 0 { } = pure [none] from rfl) ?_)
  refine wpAny_bind (wpAny_pyIter_gen isg ?_)
  refine wpAny_bind (wpAny_mkInt ?_)
  refine wpAny_bind (wpAny_pure ?_)
  simp only [List.forIn_cons, List.forIn_nil]
  refine wpAny_bind (wpAny_bind (wpAny_bind (wpAny_isInstance (T := "int") (b := false) (typeIs_int _ _ _) PySem.sub_int_str ?_)))
  simp only [Bool.false_eq_true, if_false]
  refine wpAny_pure (wpAny_bind (wpAny_bind (wpAny_isInstance (T := "int") (b := false) (typeIs_int _ _ _) PySem.sub_int_bytes ?_)))
  simp only [Bool.false_eq_true, if_false]
  refine wpAny_pure (wpAny_bind (wpAny_bind (wpAny_isInstance (T := "int") (b := false) (typeIs_int _ _ _) PySem.sub_int_bytearray ?_)))
  simp only [Bool.false_eq_true, if_false]
  refine wpAny_pure (wpAny_pure ?_)
  refine wpAny_bind (wpAny_newObj_type ?_)
  refine wpAny_pure ⟨plainId_quiet F.plain_sum_loop _, ?_⟩
  have hS := Heap.get?_push_size s3.heap (o := { cls := .type "list", dict := none, data := .seq #[Value.int 0 s3.toks] 0, slots := #[] }) rfl
  obtain ⟨ap, rd⟩ := ready { s3 with toks := s3.toks + 1, heap := s3.heap.push { cls := .type "list", dict := none, data := .seq #[Value.int 0 s3.toks] 0, slots := #[] } } (fun b hb => Nat.le_of_eq (List.mem_singleton.mp hb).symm)
    ⟨rfl, M.bare, fun b o _ e => Heap.get?_push_of_some _ e, fun b hb => by
      obtain rfl := List.mem_singleton.mp hb
      exact ⟨_, hS, fun v z => by cases z⟩⟩ rfl ⟨_, _, hS⟩
  refine sum_loop (Y := (gcx X s2 H2 scope (cloFrom X.env.cells scope.names []) s2.heap.objs.size code (gA X.A (genEnv scope (cloFrom X.env.cells scope.names []) s2.heap.objs.size code builtinsNs X.env)) fp [(a, go)])) (A := X.A) (Q := Q) (S := s3.heap.objs.size) hr.hd (by have := hr.dp; show X.A.depth < _; omega) (List.mem_singleton.mpr rfl) M.isg ap (fun i t s1 σ' H' r hb q => ?_) (m + 1) 0 _ ⟨_, _, hS⟩ rd
  exact ⟨.int i, H', made_back M r, ⟨t, rfl⟩, q⟩
end
end Gx
set_option maxRecDepth 100000
set_option maxHeartbeats 2000000
/-! repr of data of any depth, dicts among it -/
namespace Rp
open PySem PySem.Spec PyProof.Rows L2

def kD : Key → PyData
  | .inl i => .int i
  | .inr x => .str x
mutual
/-- what stands at a value, as data: dicts too -/
inductive Da (K : PySem.W.Frag) (H : Hp) : V → PyData → Prop
  | non : Da K H .non .none
  | bl (b : Bool) : Da K H (.bl b) (.bool b)
  | int (i : Int) : Da K H (.int i) (.int i)
  | str (x : Str) : Da K H (.str x) (.str x)
  | lst {a : Addr} {xs : List V} {ds : List PyData} : Rd H a (.lst xs) → DaAll K H xs ds → Da K H (.ref a) (.list ds)
  | tup {a : Addr} {xs : List V} {ds : List PyData} : Rd H a (.tup xs) → DaAll K H xs ds → Da K H (.ref a) (.tuple ds)
  | dct {a : Addr} {kvs : List (Key × V)} {ds : List (PyData × PyData)} : Rd H a (.dK kvs) → (kvs.map (·.1)).Nodup → DaKv K H kvs ds → Da K H (.ref a) (.dict ds)
inductive DaAll (K : PySem.W.Frag) (H : Hp) : List V → List PyData → Prop
  | nil : DaAll K H [] []
  | cons {v : V} {vs : List V} {d : PyData} {ds : List PyData} : Da K H v d → DaAll K H vs ds → DaAll K H (v :: vs) (d :: ds)
inductive DaKv (K : PySem.W.Frag) (H : Hp) : List (Key × V) → List (PyData × PyData) → Prop
  | nil : DaKv K H [] []
  | cons {k : Key} {v : V} {r : List (Key × V)} {d : PyData} {ds : List (PyData × PyData)} : Da K H v d → DaKv K H r ds → DaKv K H ((k, v) :: r) ((kD k, d) :: ds)
end
mutual
/-- no list within -/
def noL : PyData → Bool
  | .list _ => false
  | .tuple xs => noLAll xs
  | .dict kvs => noLKv kvs
  | _ => true
def noLAll : List PyData → Bool
  | [] => true
  | x :: xs => noL x && noLAll xs
def noLKv : List (PyData × PyData) → Bool
  | [] => true
  | (_, v) :: r => noL v && noLKv r
end
section
variable {X : Cx} {pins : List (Addr × Obj)} {σ : L2.St} {H : Hp} {s : Shared}
theorem keys_read {P : Program} {w : World} {h : Heap} : ∀ {es : List DictEntry} {kvs : List (Key × V)} {us : List (Key × Value)}, KV kvs us → Pairs (mixKind P w) es us → ReadsAll h (es.map (·.key)) (kvs.map fun p => kD p.1) []
  | _, _, _, .nil, .nil => .nil
  | e :: es, (k, v) :: kvs, (k', u) :: us, .cons r rs, .cons hk hv hp => by
    have e1 : k = k' := r.1
    subst e1
    have ih := keys_read (h := h) rs hp
    have q : Reads h e.key (kD k) [] := by
      rcases keyIs_shape (show keyIs k e.key = true from hk) with ⟨i, t, z1, z2⟩ | ⟨x, t, z1, z2⟩
      · rw [z1, z2]
        exact .int i t
      · rw [z1, z2]
        exact .str x t
    exact ReadsAll.cons q ih
theorem vals_read {P : Program} {w : World} : ∀ {es : List DictEntry} {kvs : List (Key × V)} {us : List (Key × Value)}, KV kvs us → Pairs (mixKind P w) es us → Vals (kvs.map (·.2)) (es.map (·.val))
  | _, _, _, .nil, .nil => .nil
  | e :: es, (k, v) :: kvs, (k', u) :: us, .cons r rs, .cons hk hv hp => by
    have hv : e.val = u := hv
    refine .cons ?_ (vals_read rs hp)
    show RelV v e.val
    rw [hv]
    exact r.2
theorem daKv_fst {K : PySem.W.Frag} : ∀ {kvs : List (Key × V)} {ds : List (PyData × PyData)}, DaKv K H kvs ds → ds.map (·.1) = kvs.map fun p => kD p.1
  | _, _, .nil => rfl
  | _, _, .cons _ h => by rw [List.map_cons, List.map_cons, daKv_fst h]
mutual
theorem Da.reads (I : Inv X pins σ H s) : ∀ (d : PyData) (v : V) (u : Value), Da X.K H v d → RelV v u → ∃ as, Reads s.heap u d as ∧ (noL d = true → sysModules ∉ as)
  | .none, _, _, h, r => by
    cases h
    cases r
    exact ⟨_, Reads.none, fun _ => List.not_mem_nil⟩
  | .bool b, _, _, h, r => by
    cases h
    cases r
    exact ⟨_, Reads.bool b, fun _ => List.not_mem_nil⟩
  | .int i, _, _, h, r => by
    cases h
    obtain ⟨t, rfl⟩ := r
    exact ⟨_, Reads.int i t, fun _ => List.not_mem_nil⟩
  | .str x, _, _, h, r => by
    cases h
    obtain ⟨t, rfl⟩ := r
    exact ⟨_, Reads.str x t, fun _ => List.not_mem_nil⟩
  | .list ds, _, _, h, r => by
    cases h with
    | lst hs ha =>
      cases r
      obtain ⟨its, rv, ⟨o, n, ho, hc, _, hd⟩, _⟩ := I.list (Or.inl hs)
      obtain ⟨as, hr, _⟩ := DaAll.reads I ds _ its ha rv
      exact ⟨_, Reads.list ho hc hd hr, fun z => by simp [noL] at z⟩
  | .tuple ds, _, _, h, r => by
    cases h with
    | tup hs ha =>
      cases r
      obtain ⟨its, rv, ⟨o, ho, hc, n, hd⟩, _⟩ := I.tuple (Or.inl hs)
      obtain ⟨as, hr, hn⟩ := DaAll.reads I ds _ its ha rv
      exact ⟨_, Reads.tuple ho hc hd hr, fun z => hn (by simpa [noL] using z)⟩
  | .dict ds, _, _, h, r => by
    cases h with
    | @dct a kvs _ hs _ ha =>
      cases r
      obtain ⟨_, hsys, us, rv, o, es, ep, ho, hx, hd, _, hp, _⟩ := (show ObjOk X.prog X.w H s.heap a (.dK kvs) from rd_of I.hok hs)
      obtain ⟨bs, hr, hn⟩ := DaKv.reads I ds kvs _ ha (vals_read rv hp)
      have hk := keys_read (h := s.heap) rv hp
      rw [← daKv_fst ha] at hk
      refine ⟨_, Reads.dict ho hx.1 hd hk hr, fun z hm => ?_⟩
      rcases List.mem_append.mp hm with hm | hm
      · have e : sysModules = a := by simpa using hm
        rw [← e] at hsys
        simp at hsys
      · exact hn (by simpa [noL] using z) hm
theorem DaAll.reads (I : Inv X pins σ H s) : ∀ (ds : List PyData) (vs : List V) (us : List Value), DaAll X.K H vs ds → Vals vs us → ∃ as, ReadsAll s.heap us ds as ∧ (noLAll ds = true → sysModules ∉ as)
  | [], _, _, h, r => by
    cases h
    cases r
    exact ⟨_, ReadsAll.nil, fun _ => List.not_mem_nil⟩
  | d :: ds, _, _, h, r => by
    cases h with
    | cons h1 h2 =>
      cases r with
      | cons r1 r2 =>
        obtain ⟨as, q1, n1⟩ := Da.reads I d _ _ h1 r1
        obtain ⟨bs, q2, n2⟩ := DaAll.reads I ds _ _ h2 r2
        refine ⟨_, ReadsAll.cons q1 q2, fun z hm => ?_⟩
        have z' : noL d = true ∧ noLAll ds = true := by simpa [noLAll] using z
        rcases List.mem_append.mp hm with hm | hm
        · exact n1 z'.1 hm
        · exact n2 z'.2 hm
theorem DaKv.reads (I : Inv X pins σ H s) : ∀ (ds : List (PyData × PyData)) (kvs : List (Key × V)) (us : List Value), DaKv X.K H kvs ds → Vals (kvs.map (·.2)) us → ∃ as, ReadsAll s.heap us (ds.map (·.2)) as ∧ (noLKv ds = true → sysModules ∉ as)
  | [], _, _, h, r => by
    cases h
    cases r
    exact ⟨_, ReadsAll.nil, fun _ => List.not_mem_nil⟩
  | d :: ds, _, _, h, r => by
    cases h with
    | @cons k0 v0 r0 d0 _ h1 h2 =>
      cases r with
      | cons r1 r2 =>
        obtain ⟨as, q1, n1⟩ := Da.reads I _ _ _ h1 r1
        obtain ⟨bs, q2, n2⟩ := DaKv.reads I ds _ _ h2 r2
        refine ⟨_, ReadsAll.cons q1 q2, fun z hm => ?_⟩
        have z' : noL d0 = true ∧ noLKv ds = true := by simpa [noLKv] using z
        rcases List.mem_append.mp hm with hm | hm
        · exact n1 z'.1 hm
        · exact n2 z'.2 hm
end
end
section
variable {X : Cx}
/-- repr(x) -/
def rRepr (K : PySem.W.Frag) : List V → Hp → VK → Prop := fun xs H Q => ∃ x d, xs = [x] ∧ Da K H x d ∧ d.showable = true ∧ (d.hasDict = true → noL d = true) ∧ d.depth ≤ 60 ∧ d.shown.length ≤ sizeLine ∧ Q (.str d.shown) H
theorem call_repr (hg : X.A.guards = some []) (hu : X.A.units + 64 < cLine) : CallR X (.builtin "repr") (rRepr X.K) := by
  intro pins s σ H xs us Q I r h
  obtain ⟨x, d, rfl, hd, hs, hl, hdp, hz, q⟩ := h
  cases r with
  | cons r rr =>
    cases rr
    cases hd with
    | non =>
      cases r
      simp only [PyData.shown] at q
      exact PySem.P.repr_of_none ⟨.str _, H, I.tok _, ⟨_, rfl⟩, q⟩
    | bl b =>
      cases r
      simp only [PyData.shown] at q
      exact PySem.P.repr_of_bool ⟨.str _, H, I.tok _, ⟨_, rfl⟩, q⟩
    | int i =>
      obtain ⟨t, rfl⟩ := r
      simp only [PyData.shown] at q
      exact PySem.P.repr_of_int (by simpa [PyData.showable] using hs) ⟨.str _, H, I.tok _, ⟨_, rfl⟩, q⟩
    | str y =>
      obtain ⟨t, rfl⟩ := r
      simp only [PyData.shown] at q hz
      exact PySem.P.repr_of_str ⟨.str _, H, I.tok _, ⟨_, rfl⟩, q⟩ hz
    | lst h1 h2 =>
      obtain ⟨as, hr, hn⟩ := Da.reads I _ _ _ (Da.lst h1 h2) r
      cases r
      exact repr_of_reads' hr hs (fun e => hn (hl e)) hg (by omega) (fun _ _ e => e) (fun h' u tk hk => ⟨.str _, H, I.kept hk, ⟨_, rfl⟩, q⟩) hz
    | tup h1 h2 =>
      obtain ⟨as, hr, hn⟩ := Da.reads I _ _ _ (Da.tup h1 h2) r
      cases r
      exact repr_of_reads' hr hs (fun e => hn (hl e)) hg (by omega) (fun _ _ e => e) (fun h' u tk hk => ⟨.str _, H, I.kept hk, ⟨_, rfl⟩, q⟩) hz
    | dct h1 hn0 h2 =>
      obtain ⟨as, hr, hn⟩ := Da.reads I _ _ _ (Da.dct h1 hn0 h2) r
      cases r
      exact repr_of_reads' hr hs (fun e => hn (hl e)) hg (by omega) (fun _ _ e => e) (fun h' u tk hk => ⟨.str _, H, I.kept hk, ⟨_, rfl⟩, q⟩) hz
end
end Rp
set_option maxRecDepth 100000
set_option maxHeartbeats 2000000
/-! Data at values, the heap that only grows, the loops over data -/
namespace Dl
open PySem PySem.Spec PyProof.Rows L2 GxR Gx Rp

/-- all that is known stays; tables may grow -/
def Ge (H H' : Hp) : Prop := (∀ a o, H a = some o → (∀ ps, o ≠ .tbl ps) → H' a = some o) ∧ ∀ a, TabG H a → TabG H' a
theorem Ge.refl (H : Hp) : Ge H H := ⟨fun _ _ h _ => h, fun _ h => h⟩
theorem Ge.trans {H H1 H2 : Hp} (a : Ge H H1) (b : Ge H1 H2) : Ge H H2 := ⟨fun x o h n => b.1 x o (a.1 x o h n) n, fun x h => b.2 x (a.2 x h)⟩
theorem Ge.new {H : Hp} {p : Addr} {o : HO} (h : H p = none) : Ge H (upd H p o) :=
  ⟨fun a u e _ => by rw [upd_ne (ne_of_none e h)]; exact e, fun a ⟨ps, e, t⟩ => ⟨ps, by rw [upd_ne (ne_of_none e h)]; exact e, t⟩⟩
theorem Ge.tab {H H' : Hp} {P : Addr} (h : TabG H P) (t : Tabbed P H H') : Ge H H' := by
  obtain ⟨ps, e, _⟩ := h
  refine ⟨fun a u q n => ?_, fun a q => ?_⟩
  · by_cases z : a = P
    · subst z
      rw [e] at q
      cases q
      exact absurd rfl (n ps)
    · rw [t.2 a z]
      exact q
  · by_cases z : a = P
    · subst z
      exact t.1
    · obtain ⟨qs, e2, w⟩ := q
      exact ⟨qs, by rw [t.2 a z]; exact e2, w⟩
theorem Ge.rd {H H' : Hp} {a : Addr} {u : HO} (e : Ge H H') (n : ∀ ps, u ≠ .tbl ps) (h : Rd H a u) : Rd H' a u := by
  rcases h with h | ⟨o, h⟩
  · exact Or.inl (e.1 a u h n)
  · exact Or.inr ⟨o, e.1 a _ h fun ps z => by cases z⟩
theorem Ge.sqT {K : PySem.W.Frag} {H H' : Hp} {a : Addr} {xs : List V} (e : Ge H H') (h : SqT K H a xs) : SqT K H' a xs := h.elim (fun z => Or.inl (e.rd (fun ps q => by cases q) z)) Or.inr
theorem Ge.sqL {K : PySem.W.Frag} {H H' : Hp} {a : Addr} {xs : List V} (e : Ge H H') (h : SqL K H a xs) : SqL K H' a xs := h.elim (fun z => Or.inl (e.rd (fun ps q => by cases q) z)) Or.inr
theorem Ge.dk {H H' : Hp} {a : Addr} {kvs : List (Key × V)} (e : Ge H H') (h : H a = some (.dK kvs)) : H' a = some (.dK kvs) := e.1 a _ h fun ps z => by cases z
/-- all tables stand -/
def Tb (T : List Addr) (H : Hp) : Prop := ∀ P ∈ T, TabG H P
theorem Ge.tb {T : List Addr} {H H' : Hp} (e : Ge H H') (h : Tb T H) : Tb T H' := fun P hP => e.2 P (h P hP)

/-! ### data -/
section
variable {K : PySem.W.Frag} {H H' : Hp}
mutual
theorem da_map (fT : ∀ a xs, Rd H a (.tup xs) → Rd H' a (.tup xs)) (fL : ∀ a xs, Rd H a (.lst xs) → Rd H' a (.lst xs)) : ∀ (d : PyData) (v : V), Da K H v d → (∀ a kvs ds, Rd H a (.dK kvs) → DaKv K H kvs ds → sizeOf ds < sizeOf d → Rd H' a (.dK kvs)) → Da K H' v d
  | .none, _, h, _ => by cases h; exact .non
  | .bool b, _, h, _ => by cases h; exact .bl b
  | .int i, _, h, _ => by cases h; exact .int i
  | .str x, _, h, _ => by cases h; exact .str x
  | .list ds, _, h, f => by
    cases h with
    | lst hs ha => exact .lst (fL _ _ hs) (daAll_map fT fL ds _ ha fun a kvs es e1 e2 e3 => f a kvs es e1 e2 (by simp only [PyData.list.sizeOf_spec]; omega))
  | .tuple ds, _, h, f => by
    cases h with
    | tup hs ha => exact .tup (fT _ _ hs) (daAll_map fT fL ds _ ha fun a kvs es e1 e2 e3 => f a kvs es e1 e2 (by simp only [PyData.tuple.sizeOf_spec]; omega))
  | .dict ds, _, h, f => by
    cases h with
    | dct hs hn ha => exact .dct (f _ _ _ hs ha (by simp only [PyData.dict.sizeOf_spec]; omega)) hn (daKv_map fT fL ds _ ha fun a kvs es e1 e2 e3 => f a kvs es e1 e2 (by simp only [PyData.dict.sizeOf_spec]; omega))
theorem daAll_map (fT : ∀ a xs, Rd H a (.tup xs) → Rd H' a (.tup xs)) (fL : ∀ a xs, Rd H a (.lst xs) → Rd H' a (.lst xs)) : ∀ (ds : List PyData) (vs : List V), DaAll K H vs ds → (∀ a kvs es, Rd H a (.dK kvs) → DaKv K H kvs es → sizeOf es < sizeOf ds → Rd H' a (.dK kvs)) → DaAll K H' vs ds
  | [], _, h, _ => by cases h; exact .nil
  | d :: ds, _, h, f => by
    cases h with
    | cons h1 h2 =>
      exact .cons (da_map fT fL d _ h1 fun a kvs es e1 e2 e3 => f a kvs es e1 e2 (by simp only [List.cons.sizeOf_spec]; omega)) (daAll_map fT fL ds _ h2 fun a kvs es e1 e2 e3 => f a kvs es e1 e2 (by simp only [List.cons.sizeOf_spec]; omega))
theorem daKv_map (fT : ∀ a xs, Rd H a (.tup xs) → Rd H' a (.tup xs)) (fL : ∀ a xs, Rd H a (.lst xs) → Rd H' a (.lst xs)) : ∀ (ds : List (PyData × PyData)) (kvs : List (Key × V)), DaKv K H kvs ds → (∀ a kvs es, Rd H a (.dK kvs) → DaKv K H kvs es → sizeOf es < sizeOf ds → Rd H' a (.dK kvs)) → DaKv K H' kvs ds
  | [], _, h, _ => by cases h; exact .nil
  | (dk, d) :: ds, _, h, f => by
    cases h with
    | cons h1 h2 =>
      exact .cons (da_map fT fL d _ h1 fun a kvs es e1 e2 e3 => f a kvs es e1 e2 (by simp only [List.cons.sizeOf_spec, Prod.mk.sizeOf_spec]; omega)) (daKv_map fT fL ds _ h2 fun a kvs es e1 e2 e3 => f a kvs es e1 e2 (by simp only [List.cons.sizeOf_spec]; omega))
end
theorem Ge.da {v : V} {d : PyData} (e : Ge H H') (h : Da K H v d) : Da K H' v d := da_map (fun _ _ => e.rd (fun ps q => by cases q)) (fun _ _ => e.rd (fun ps q => by cases q)) d v h fun _ _ _ q _ _ => e.rd (fun ps q => by cases q) q
theorem Ge.daAll {vs : List V} {ds : List PyData} (e : Ge H H') (h : DaAll K H vs ds) : DaAll K H' vs ds := daAll_map (fun _ _ => e.rd (fun ps q => by cases q)) (fun _ _ => e.rd (fun ps q => by cases q)) ds vs h fun _ _ _ q _ _ => e.rd (fun ps q => by cases q) q
theorem Ge.daKv {kvs : List (Key × V)} {ds : List (PyData × PyData)} (e : Ge H H') (h : DaKv K H kvs ds) : DaKv K H' kvs ds := daKv_map (fun _ _ => e.rd (fun ps q => by cases q)) (fun _ _ => e.rd (fun ps q => by cases q)) ds kvs h fun _ _ _ q _ _ => e.rd (fun ps q => by cases q) q

theorem rd_one {a : Addr} {u u' : HO} (n : ∀ o w, u ≠ .frz o w) (n' : ∀ o w, u' ≠ .frz o w) (h : Rd H a u) (h' : Rd H a u') : u = u' := by
  rcases h with h | ⟨o, h⟩ <;> rcases h' with h' | ⟨o', h'⟩ <;> rw [h] at h'
  · exact Option.some.inj h'
  · exact absurd (Option.some.inj h') (n _ _)
  · exact absurd (Option.some.inj h').symm (n' _ _)
  · exact (HO.frz.inj (Option.some.inj h')).2
mutual
theorem da_one : ∀ (d d' : PyData) (v : V), Da K H v d → Da K H v d' → d = d'
  | .none, d', _, h, h' => by cases h; cases h'; rfl
  | .bool b, d', _, h, h' => by cases h; cases h'; rfl
  | .int i, d', _, h, h' => by cases h; cases h'; rfl
  | .str x, d', _, h, h' => by cases h; cases h'; rfl
  | .list ds, d', _, h, h' => by
    cases h with
    | lst hs ha =>
      cases h' with
      | lst hs' ha' =>
        have e := rd_one (fun o w z => by cases z) (fun o w z => by cases z) hs hs'
        cases e
        rw [daAll_one ds _ _ ha ha']
      | tup hs' _ => have e := rd_one (fun o w z => by cases z) (fun o w z => by cases z) hs hs'; cases e
      | dct hs' _ _ => have e := rd_one (fun o w z => by cases z) (fun o w z => by cases z) hs hs'; cases e
  | .tuple ds, d', _, h, h' => by
    cases h with
    | tup hs ha =>
      cases h' with
      | tup hs' ha' =>
        have e := rd_one (fun o w z => by cases z) (fun o w z => by cases z) hs hs'
        cases e
        rw [daAll_one ds _ _ ha ha']
      | lst hs' _ => have e := rd_one (fun o w z => by cases z) (fun o w z => by cases z) hs hs'; cases e
      | dct hs' _ _ => have e := rd_one (fun o w z => by cases z) (fun o w z => by cases z) hs hs'; cases e
  | .dict ds, d', _, h, h' => by
    cases h with
    | dct hs _ ha =>
      cases h' with
      | dct hs' _ ha' =>
        have e := rd_one (fun o w z => by cases z) (fun o w z => by cases z) hs hs'
        cases e
        rw [daKv_one ds _ _ ha ha']
      | lst hs' _ => have e := rd_one (fun o w z => by cases z) (fun o w z => by cases z) hs hs'; cases e
      | tup hs' _ => have e := rd_one (fun o w z => by cases z) (fun o w z => by cases z) hs hs'; cases e
theorem daAll_one : ∀ (ds ds' : List PyData) (vs : List V), DaAll K H vs ds → DaAll K H vs ds' → ds = ds'
  | [], _, _, h, h' => by cases h; cases h'; rfl
  | d :: ds, _, _, h, h' => by
    cases h with
    | cons h1 h2 =>
      cases h' with
      | cons h1' h2' => rw [da_one d _ _ h1 h1', daAll_one ds _ _ h2 h2']
theorem daKv_one : ∀ (ds ds' : List (PyData × PyData)) (kvs : List (Key × V)), DaKv K H kvs ds → DaKv K H kvs ds' → ds = ds'
  | [], _, _, h, h' => by cases h; cases h'; rfl
  | (dk, d) :: ds, _, _, h, h' => by
    cases h with
    | cons h1 h2 =>
      cases h' with
      | cons h1' h2' => rw [da_one d _ _ h1 h1', daKv_one ds _ _ h2 h2']
end
/-- a lock changes nothing that is read -/
theorem rd_lock {a : Addr} {od : Obj} {kvs : List (Key × V)} (hH : Rd H a (.dK kvs)) {b : Addr} {u : HO} (n : ∀ o w, u ≠ .frz o w) (r : Rd H b u) : Rd (upd H a (.frz od (.dK kvs))) b u := by
  by_cases z : b = a
  · subst z
    have e := rd_one (fun o w z => by cases z) n hH r
    subst e
    exact Or.inr ⟨od, upd_same⟩
  · rcases r with r | ⟨o, r⟩
    · exact Or.inl (by rw [upd_ne z]; exact r)
    · exact Or.inr ⟨o, by rw [upd_ne z]; exact r⟩
theorem da_lockA {a : Addr} {od : Obj} {kvs : List (Key × V)} {v : V} {d : PyData} (hH : Rd H a (.dK kvs)) (h : Da K H v d) : Da K (upd H a (.frz od (.dK kvs))) v d :=
  da_map (fun _ _ r => rd_lock hH (fun o w z => by cases z) r) (fun _ _ r => rd_lock hH (fun o w z => by cases z) r) d v h fun _ _ _ r _ _ => rd_lock hH (fun o w z => by cases z) r
/-- while a dict is locked, what stands below it is as it was -/
theorem da_lock {a : Addr} {od : Obj} {kvs : List (Key × V)} {ds : List (PyData × PyData)} {v : V} {d : PyData} (hH : Rd H a (.dK kvs)) (_hk : DaKv K H kvs ds) (h : Da K H v d) (_hs : sizeOf d ≤ sizeOf ds) : Da K (upd H a (.frz od (.dK kvs))) v d := da_lockA hH h
/-- unlocked again -/
theorem ge_unlock {a : Addr} {od : Obj} {kvs : List (Key × V)} {H1 : Hp} (hH : H a = some (.dK kvs)) (g : Ge (upd H a (.frz od (.dK kvs))) H1) : H1 a = some (.frz od (.dK kvs)) ∧ Ge H (upd H1 a (.dK kvs)) := by
  refine ⟨g.1 a _ upd_same (fun ps z => by cases z), fun b u e n => ?_, fun b t => ?_⟩
  · by_cases z : b = a
    · subst z
      rw [upd_same, ← hH]
      exact e
    · rw [upd_ne z]
      exact g.1 b u (by rw [upd_ne z]; exact e) n
  · have z : b ≠ a := fun z => by
      subst z
      obtain ⟨ps, e, _⟩ := t
      rw [hH] at e
      cases e
    obtain ⟨qs, e, w⟩ := g.2 b (by
      obtain ⟨ps, e, w⟩ := t
      exact ⟨ps, by rw [upd_ne z]; exact e, w⟩)
    exact ⟨qs, by rw [upd_ne z]; exact e, w⟩
theorem daKv_mem {kvs : List (Key × V)} {ds : List (PyData × PyData)} {k : Key} {v : V} : DaKv K H kvs ds → (k, v) ∈ kvs → ∃ d, (kD k, d) ∈ ds ∧ Da K H v d := fun h hm => by
  induction kvs generalizing ds with
  | nil => cases hm
  | cons p r ih =>
    cases h with
    | cons h1 h2 =>
      rcases List.mem_cons.mp hm with e | hm
      · cases e
        exact ⟨_, List.mem_cons_self, h1⟩
      · obtain ⟨d, m, q⟩ := ih h2 hm
        exact ⟨d, List.mem_cons_of_mem _ m, q⟩
theorem daAll_get {vs : List V} {ds : List PyData} {i : Nat} {v : V} : DaAll K H vs ds → vs[i]? = some v → ∃ d, ds[i]? = some d ∧ Da K H v d := fun h e => by
  induction vs generalizing ds i with
  | nil => simp at e
  | cons x r ih =>
    cases h with
    | cons h1 h2 =>
      cases i with
      | zero =>
        simp at e
        subst e
        exact ⟨_, rfl, h1⟩
      | succ i =>
        have e' : r[i]? = some v := by simpa using e
        obtain ⟨d, q1, q2⟩ := ih (i := i) h2 e'
        exact ⟨d, by simpa using q1, q2⟩
theorem daAll_len {vs : List V} {ds : List PyData} (h : DaAll K H vs ds) : ds.length = vs.length := by
  induction vs generalizing ds with
  | nil => cases h; rfl
  | cons x r ih =>
    cases h with
    | cons h1 h2 => simp [ih h2]
theorem daKv_len {kvs : List (Key × V)} {ds : List (PyData × PyData)} (h : DaKv K H kvs ds) : ds.length = kvs.length := by
  induction kvs generalizing ds with
  | nil => cases h; rfl
  | cons x r ih =>
    cases h with
    | cons h1 h2 => simp [ih h2]
theorem size_mem {ds : List PyData} {d : PyData} (h : d ∈ ds) : sizeOf d < sizeOf ds := List.sizeOf_lt_of_mem h
theorem size_memKv {ds : List (PyData × PyData)} {k d : PyData} (h : (k, d) ∈ ds) : sizeOf d < sizeOf ds := by
  have h1 := List.sizeOf_lt_of_mem h
  simp only [Prod.mk.sizeOf_spec] at h1
  omega
end

/-! ### texts that are short -/
mutual
def small : PyData → Bool
  | .str x => decide (x.length ≤ 100000)
  | .list xs => decide (xs.length ≤ 100000) && smallAll xs
  | .tuple xs => decide (xs.length ≤ 100000) && smallAll xs
  | .dict kvs => decide (kvs.length ≤ 100000) && smallKv kvs
  | _ => true
def smallAll : List PyData → Bool
  | [] => true
  | x :: xs => small x && smallAll xs
def smallKv : List (PyData × PyData) → Bool
  | [] => true
  | (k, v) :: r => small k && small v && smallKv r
end
theorem small_tup {ds : List PyData} (h : small (.tuple ds) = true) : ds.length ≤ 100000 ∧ smallAll ds = true := by
  have z : (decide (ds.length ≤ 100000) && smallAll ds) = true := by simpa only [small] using h
  rw [Bool.and_eq_true] at z
  exact ⟨of_decide_eq_true z.1, z.2⟩
theorem small_lst {ds : List PyData} (h : small (.list ds) = true) : ds.length ≤ 100000 ∧ smallAll ds = true := by
  have z : (decide (ds.length ≤ 100000) && smallAll ds) = true := by simpa only [small] using h
  rw [Bool.and_eq_true] at z
  exact ⟨of_decide_eq_true z.1, z.2⟩
theorem small_dct {ds : List (PyData × PyData)} (h : small (.dict ds) = true) : ds.length ≤ 100000 ∧ smallKv ds = true := by
  have z : (decide (ds.length ≤ 100000) && smallKv ds) = true := by simpa only [small] using h
  rw [Bool.and_eq_true] at z
  exact ⟨of_decide_eq_true z.1, z.2⟩
theorem small_mem {ds : List PyData} {d : PyData} (h : smallAll ds = true) (hm : d ∈ ds) : small d = true := by
  induction ds with
  | nil => cases hm
  | cons x r ih =>
    simp only [smallAll, Bool.and_eq_true] at h
    rcases List.mem_cons.mp hm with e | hm
    · rw [e]
      exact h.1
    · exact ih h.2 hm
theorem small_memKv {ds : List (PyData × PyData)} {k d : PyData} (h : smallKv ds = true) (hm : (k, d) ∈ ds) : small k = true ∧ small d = true := by
  induction ds with
  | nil => cases hm
  | cons x r ih =>
    obtain ⟨k', v'⟩ := x
    simp only [smallKv, Bool.and_eq_true] at h
    rcases List.mem_cons.mp hm with e | hm
    · cases e
      exact h.1
    · exact ih h.2 hm
theorem small_str {x : Str} (h : small (.str x) = true) : x.length ≤ sizeLine := by
  have h1 : x.length ≤ 100000 := by simpa [small] using h
  exact Nat.le_trans h1 (by decide)

/-! ### isinstance -/
def tyName : PyData → String
  | .none => "NoneType"
  | .bool _ => "bool"
  | .int _ => "int"
  | .str _ => "str"
  | .list _ => "list"
  | .tuple _ => "tuple"
  | .dict _ => "dict"
def isTy (n : String) (d : PyData) : Bool := tyName d == n || (tyName d == "bool" && n == "int")
theorem da_ty {K : PySem.W.Frag} {H : Hp} {v : V} {d : PyData} (h : Da K H v d) : TyX K H v (.type (tyName d)) := by
  cases h with
  | non => exact .base .non
  | bl b => exact .base (.bl b)
  | int i => exact .base (.int i)
  | str x => exact .base (.str x)
  | lst hs _ =>
    rcases hs with hs | ⟨o, hs⟩
    · exact .base (.lst hs)
    · exact .base (.frz hs)
  | tup hs _ =>
    rcases hs with hs | ⟨o, hs⟩
    · exact .base (.tup hs)
    · exact .fTuple hs
  | dct hs _ _ =>
    rcases hs with hs | ⟨o, hs⟩
    · exact .base (.dK hs)
    · exact .fDict hs
theorem kit_tab : ∀ t ∈ ["NoneType", "bool", "int", "str", "list", "tuple", "dict"], ∀ n ∈ ["tuple", "dict", "str", "int", "bool", "list"], kitB t n = some (t == n || (t == "bool" && n == "int")) := by decide +kernel
theorem tyName_mem (d : PyData) : tyName d ∈ ["NoneType", "bool", "int", "str", "list", "tuple", "dict"] := by cases d <;> simp [tyName]
theorem kit_all {K : PySem.W.Frag} (d : PyData) (n : String) (hn : n ∈ ["tuple", "dict", "str", "int", "bool", "list"]) : PySem.W.kitOne K (.type (tyName d)) (.type n) = some (isTy n d) := kit_ty (kit_tab _ (tyName_mem d) n hn)
theorem rd_isi {K : PySem.W.Frag} {H : Hp} {v : V} {d : PyData} {n : String} {Q : VK} (h : Da K H v d) (q : Q (.bl (isTy n d)) H) (hn : n ∈ ["tuple", "dict", "str", "int", "bool", "list"] := by decide) : rIsi K [v, .ty n] H Q :=
  ⟨v, .ty n, _, _, _, rfl, .ty n, da_ty h, kit_all d n hn, q⟩

/-! ### the turns of a generator expression -/
section
variable {J : It} {n : Nat} {Y : Nat → Hp → V → Hp → Prop} {σ : L2.St} {vs : List Nat} {gt : TG} {te : TE} {H0 : Hp} {Q : VK}
theorem turns_all (wk : Walk J n (fun H' => Ge H0 H') Y) (f : Nat → Bool)
    (he : ∀ k x H' H'', k < n → (∀ l, l < k → f l = true) → Ge H0 H' → Y k H' x H'' → ∀ R : VK, (∀ H4, Ge H0 H4 → R (.bl (f k)) H4) → gt x (wipe σ vs) H'' fun σ2 H2 => wipe σ2 vs = wipe σ vs ∧ te σ2 H2 R)
    (hgm : ∀ x (τ : L2.St) H' (A B : L2.St → Hp → Prop), (∀ σ2 H2, A σ2 H2 → B σ2 H2) → gt x τ H' A → gt x τ H' B)
    (hQ : ∀ H', Ge H0 H' → Q (.bl ((List.range n).all f)) H') :
    ∃ W : Nat → Nat → Unit → Hp → Prop, (∃ m, W 0 m () H0) ∧ Turns (wipe σ vs) (gotAll Q) (fun _ H => Q (.bl true) H) J gt tYes te vs W := by
  refine ⟨fun k m _ H' => m = n - k ∧ k ≤ n ∧ Ge H0 H' ∧ ∀ l, l < k → f l = true, ⟨n, by simp, Nat.zero_le _, Ge.refl _, fun l hl => absurd hl (Nat.not_lt_zero l)⟩, ?_⟩
  rintro k m u H' ⟨rfl, hk, g, hp⟩
  by_cases hlt : k < n
  · refine Or.inr ⟨wk.goes k H' hlt g, fun _ H4 => Ge H0 H4 ∧ ∀ l, l < k + 1 → f l = true, fun _ H4 h4 => ⟨n - (k + 1), by omega, rfl, hlt, h4.1, h4.2⟩, fun x H'' y => ?_⟩
    refine hgm x _ H'' _ _ (fun σ2 H2 z => ⟨z.1, ?_⟩) (he k x H' H'' hlt hp g (wk.yields k H' x H'' hlt g y) (gotAll Q () fun _ H4 => Ge H0 H4 ∧ ∀ l, l < k + 1 → f l = true) fun H4 g4 => ⟨f k, rfl, ?_⟩)
    · simp only [tYes, if_true]
      exact z.2
    · cases hf : f k with
      | true =>
        rw [if_pos rfl]
        refine ⟨g4, fun l hl => ?_⟩
        by_cases e : l = k
        · rw [e]
          exact hf
        · exact hp l (by omega)
      | false =>
        rw [if_neg Bool.false_ne_true]
        have e : (List.range n).all f = false := by
          rw [List.all_eq_false]
          exact ⟨k, List.mem_range.mpr hlt, by rw [hf]; exact Bool.false_ne_true⟩
        rw [← e]
        exact hQ H4 g4
  · have e : k = n := by omega
    subst e
    refine Or.inl ⟨wk.stops H' g, ?_⟩
    have e : (List.range k).all f = true := List.all_eq_true.mpr fun l hl => hp l (List.mem_range.mp hl)
    rw [← e]
    exact hQ H' g
theorem turns_sum (wk : Walk J n (fun H' => Ge H0 H') Y) (f : Nat → Nat) (hf : ∀ k, f k ≤ 2 ^ 24) (hn : n ≤ 2 ^ 24)
    (he : ∀ k x H' H'', k < n → Ge H0 H' → Y k H' x H'' → ∀ R : VK, (∀ H4, Ge H0 H4 → R (.int (f k : Nat)) H4) → gt x (wipe σ vs) H'' fun σ2 H2 => wipe σ2 vs = wipe σ vs ∧ te σ2 H2 R)
    (hgm : ∀ x (τ : L2.St) H' (A B : L2.St → Hp → Prop), (∀ σ2 H2, A σ2 H2 → B σ2 H2) → gt x τ H' A → gt x τ H' B)
    (hQ : ∀ H', Ge H0 H' → Q (.int (((List.range n).map f).sum : Nat)) H') :
    ∃ W : Nat → Nat → Int → Hp → Prop, (∃ m, W 0 m 0 H0) ∧ Turns (wipe σ vs) (gotSum Q) (fun i H => Q (.int i) H) J gt tYes te vs W := by
  have bound : ∀ k, ((List.range k).map f).sum ≤ k * 2 ^ 24 := by
    intro k
    induction k with
    | zero => simp
    | succ k ih =>
      rw [List.range_succ, List.map_append, List.sum_append]
      have := hf k
      simp only [List.map_cons, List.map_nil, List.sum_cons, List.sum_nil]
      omega
  refine ⟨fun k m i H' => m = n - k ∧ k ≤ n ∧ Ge H0 H' ∧ i = (((List.range k).map f).sum : Nat), ⟨n, by simp, Nat.zero_le _, Ge.refl _, by simp⟩, ?_⟩
  rintro k m i H' ⟨rfl, hk, g, rfl⟩
  by_cases hlt : k < n
  · refine Or.inr ⟨wk.goes k H' hlt g, fun i H4 => Ge H0 H4 ∧ i = (((List.range (k + 1)).map f).sum : Nat), fun _ H4 h4 => ⟨n - (k + 1), by omega, rfl, hlt, h4.1, h4.2⟩, fun x H'' y => ?_⟩
    refine hgm x _ H'' _ _ (fun σ2 H2 z => ⟨z.1, ?_⟩) (he k x H' H'' hlt g (wk.yields k H' x H'' hlt g y) (gotSum Q ((((List.range k).map f).sum : Nat) : Int) fun i H4 => Ge H0 H4 ∧ i = (((List.range (k + 1)).map f).sum : Nat)) fun H4 g4 => ⟨(f k : Nat), rfl, ?_, ?_, g4, ?_⟩)
    · simp only [tYes, if_true]
      exact z.2
    · have := hf k
      omega
    · have h1 := bound k
      have h2 := hf k
      have h3 : k * 2 ^ 24 ≤ 2 ^ 24 * 2 ^ 24 := Nat.mul_le_mul_right _ (by omega)
      omega
    · rw [List.range_succ, List.map_append, List.sum_append]
      simp
  · have e : k = n := by omega
    subst e
    exact Or.inl ⟨wk.stops H' g, hQ H' g⟩
theorem gName_mono {j : Nat} : ∀ x (τ : L2.St) H' (A B : L2.St → Hp → Prop), (∀ σ2 H2, A σ2 H2 → B σ2 H2) → gName j x τ H' A → gName j x τ H' B := fun _ _ _ _ _ h z => h _ _ z
end
section
variable {K : PySem.W.Frag} {σ : L2.St} {vs : List Nat} {te : TE} {H : Hp} {Q : VK} {P a : Addr} {i j : Nat}
/-- the data's own test, place by place -/
def atD (p : PyData → Bool) (ds : List PyData) (k : Nat) : Bool := match ds[k]? with | some d => p d | none => true
theorem all_atD (p : PyData → Bool) (ds : List PyData) : (List.range ds.length).all (atD p ds) = ds.all p := by
  rw [Bool.eq_iff_iff, List.all_eq_true, List.all_eq_true]
  constructor
  · intro h d hd
    obtain ⟨k, hk, e⟩ := List.getElem_of_mem hd
    have q := h k (List.mem_range.mpr hk)
    unfold atD at q
    rw [List.getElem?_eq_getElem hk, e] at q
    exact q
  · intro h k hk
    have hk' := List.mem_range.mp hk
    unfold atD
    rw [List.getElem?_eq_getElem hk']
    exact h _ (List.getElem_mem hk')
/-- all(.. for x in t) -/
theorem rd_allT {xs : List V} {ds : List PyData} (p : PyData → Bool) (hi : σ[i]? = some (some (.ref a))) (hx : Rd H a (.tup xs)) (hd : DaAll K H xs ds) (ht : TabG H P) (hw : ∀ x, wipe ((wipe σ vs).set j (some x)) vs = wipe σ vs)
    (he : ∀ x d H', d ∈ ds → Ge H H' → Da K H' x d → ∀ R : VK, (∀ H4, Ge H' H4 → R (.bl (p d)) H4) → te ((wipe σ vs).set j (some x)) H' R)
    (hQ : ∀ H', Ge H H' → Q (.bl (ds.all p)) H') : tAllX P (iTup K (tVar i)) (gName j) tYes te vs σ H Q := by
  refine ⟨.ref a, hi, a, rfl, ⟨xs, Or.inl hx⟩, ht, fun H2 t2 => ?_⟩
  have g2 := Ge.tab ht t2
  have hl := daAll_len hd
  refine turns_all (n := ds.length) (Y := YAt xs) (Walk.mono (hl ▸ walk_tup (K := K) (a := a) (xs := xs)) (fun H' g => (g2.trans g).sqT (Or.inl hx)) fun _ _ _ _ _ _ y => y) (atD p ds) (fun k x H' H'' hk _ g y R hR => ?_) gName_mono fun H' g => by rw [all_atD]; exact hQ H' (g2.trans g)
  obtain ⟨rfl, hx'⟩ := y
  obtain ⟨d, e1, e2⟩ := daAll_get hd hx'
  refine ⟨hw x, he x d H'' (List.mem_of_getElem? e1) (g2.trans g) ((g2.trans g).da e2) R fun H4 g4 => ?_⟩
  have e3 : atD p ds k = p d := by
    unfold atD
    rw [e1]
  rw [← e3]
  exact hR H4 (g.trans g4)
/-- sum(.. for x in t) -/
theorem rd_sumT {xs : List V} {ds : List PyData} (p : PyData → Nat) (hp : ∀ d, p d ≤ 2 ^ 24) (hi : σ[i]? = some (some (.ref a))) (hx : Rd H a (.tup xs)) (hz : xs.length ≤ 2 ^ 24) (hd : DaAll K H xs ds) (ht : TabG H P) (hw : ∀ x, wipe ((wipe σ vs).set j (some x)) vs = wipe σ vs)
    (he : ∀ x d H', d ∈ ds → Ge H H' → Da K H' x d → ∀ R : VK, (∀ H4, Ge H' H4 → R (.int (p d : Nat)) H4) → te ((wipe σ vs).set j (some x)) H' R)
    (hQ : ∀ H', Ge H H' → Q (.int ((ds.map p).sum : Nat)) H') : tSumX P (iTup K (tVar i)) (gName j) tYes te vs σ H Q := by
  refine ⟨.ref a, hi, a, rfl, ⟨xs, Or.inl hx⟩, ht, fun H2 t2 => ?_⟩
  have g2 := Ge.tab ht t2
  have hl := daAll_len hd
  have es : ∀ ds : List PyData, ((List.range ds.length).map fun k => (ds[k]?.map p).getD 0) = ds.map p := by
    intro ds
    apply List.ext_getElem
    · simp
    · intro k h1 h2
      simp at h1 h2
      simp [h1]
  refine turns_sum (n := ds.length) (Y := YAt xs) (Walk.mono (hl ▸ walk_tup (K := K) (a := a) (xs := xs)) (fun H' g => (g2.trans g).sqT (Or.inl hx)) fun _ _ _ _ _ _ y => y) (fun k => (ds[k]?.map p).getD 0) (fun k => ?_) (by omega) (fun k x H' H'' hk g y R hR => ?_) gName_mono fun H' g => by rw [es]; exact hQ H' (g2.trans g)
  · cases ds[k]? with
    | none => exact Nat.zero_le _
    | some d => exact hp d
  obtain ⟨rfl, hx'⟩ := y
  obtain ⟨d, e1, e2⟩ := daAll_get hd hx'
  refine ⟨hw x, he x d H'' (List.mem_of_getElem? e1) (g2.trans g) ((g2.trans g).da e2) R fun H4 g4 => ?_⟩
  have e3 : p d = (ds[k]?.map p).getD 0 := by rw [e1]; rfl
  rw [e3]
  exact hR H4 (g.trans g4)
def atK (p : Key → V → Bool) (kvs : List (Key × V)) (k : Nat) : Bool := match kvs[k]? with | some q => p q.1 q.2 | none => true
theorem all_atK (p : Key → V → Bool) (kvs : List (Key × V)) : (List.range kvs.length).all (atK p kvs) = kvs.all fun q => p q.1 q.2 := by
  rw [Bool.eq_iff_iff, List.all_eq_true, List.all_eq_true]
  constructor
  · intro h d hd
    obtain ⟨k, hk, e⟩ := List.getElem_of_mem hd
    have q := h k (List.mem_range.mpr hk)
    unfold atK at q
    rw [List.getElem?_eq_getElem hk, e] at q
    exact q
  · intro h k hk
    have hk' := List.mem_range.mp hk
    unfold atK
    rw [List.getElem?_eq_getElem hk']
    exact h _ (List.getElem_mem hk')
/-- all(.. for k in d), d locked meanwhile -/
theorem rd_allD {kvs : List (Key × V)} (p : Key → V → Bool) (hi : σ[i]? = some (some (.ref a))) (hx : H a = some (.dK kvs)) (ht : TabG H P) (hw : ∀ x, wipe ((wipe σ vs).set j (some x)) vs = wipe σ vs)
    (he : ∀ od k v H', (k, v) ∈ kvs → Ge (upd H a (.frz od (.dK kvs))) H' → ∀ R : VK, (∀ H4, Ge H' H4 → R (.bl (p k v)) H4) → te ((wipe σ vs).set j (some (kV k))) H' R)
    (hQ : ∀ H', Ge H H' → Q (.bl (kvs.all fun q => p q.1 q.2)) H') : tLockE (tAllX P (iKeys (tVar i)) (gName j) tYes te vs) σ H Q := by
  refine ⟨a, .dK kvs, hx, True.intro, fun od => ?_⟩
  have ht' : TabG (upd H a (.frz od (.dK kvs))) P := by
    obtain ⟨ps, e, w⟩ := ht
    refine ⟨ps, ?_, w⟩
    rw [upd_ne (fun z => by rw [z, hx] at e; cases e)]
    exact e
  refine ⟨.ref a, hi, a, od, rfl, Or.inl ⟨kvs, upd_same, ht', fun H2 t2 => ?_⟩⟩
  have g2 := Ge.tab ht' t2
  have fz : ∀ H', Ge H2 H' → H' a = some (.frz od (.dK kvs)) := fun H' g => (g2.trans g).1 a _ upd_same fun ps z => by cases z
  refine turns_all (n := kvs.length) (Walk.mono (walk_keys (d := a) (o := od) (kvs := kvs)) (fun H' g => fz H' g) fun _ _ _ _ _ _ y => y) (atK p kvs) (fun k x H' H'' hk _ g y R hR => ?_) gName_mono fun H' g => ?_
  · obtain ⟨rfl, ky, v, e1, rfl⟩ := y
    refine ⟨hw _, he od ky v H'' (List.mem_of_getElem? e1) (g2.trans g) R fun H4 g4 => ?_⟩
    have e3 : atK p kvs k = p ky v := by
      unfold atK
      rw [e1]
    rw [← e3]
    exact hR H4 (g.trans g4)
  · obtain ⟨q1, q2⟩ := ge_unlock hx (g2.trans g)
    refine ⟨q1, ?_⟩
    rw [all_atK]
    exact hQ _ q2
/-- locked meanwhile, or locked already -/
def tLockO (t : TE) : TE := fun σ H Q => tLockE t σ H Q ∨ t σ H Q
theorem pe_lockO {X : Cx} {e : Expr} {t : TE} (h : PE X e t) : PE X e (tLockO t) := by
  refine ⟨fun pins s σ H Q I hw => ?_⟩
  rcases hw with hw | hw
  · exact (pe_lock h).run pins s σ H Q I hw
  · exact h.run pins s σ H Q I hw
theorem upd_self {H : Hp} {a : Addr} {o : HO} (h : H a = some o) : upd H a o = H := funext fun b => by
  by_cases e : b = a
  · rw [e, upd_same, h]
  · rw [upd_ne e]
theorem rd_allDO {kvs : List (Key × V)} (p : Key → V → Bool) (hi : σ[i]? = some (some (.ref a))) (hx : Rd H a (.dK kvs)) (ht : TabG H P) (hw : ∀ x, wipe ((wipe σ vs).set j (some x)) vs = wipe σ vs)
    (he : ∀ od k v H', (k, v) ∈ kvs → Ge (upd H a (.frz od (.dK kvs))) H' → ∀ R : VK, (∀ H4, Ge H' H4 → R (.bl (p k v)) H4) → te ((wipe σ vs).set j (some (kV k))) H' R)
    (hQ : ∀ H', Ge H H' → Q (.bl (kvs.all fun q => p q.1 q.2)) H') : tLockO (tAllX P (iKeys (tVar i)) (gName j) tYes te vs) σ H Q := by
  rcases hx with hx | ⟨od, hx⟩
  · exact Or.inl (rd_allD p hi hx ht hw he hQ)
  · refine Or.inr ⟨.ref a, hi, a, od, rfl, Or.inl ⟨kvs, hx, ht, fun H2 t2 => ?_⟩⟩
    have g2 := Ge.tab ht t2
    have fz : ∀ H', Ge H2 H' → H' a = some (.frz od (.dK kvs)) := fun H' g => (g2.trans g).1 a _ hx fun ps z => by cases z
    refine turns_all (n := kvs.length) (Walk.mono (walk_keys (d := a) (o := od) (kvs := kvs)) (fun H' g => fz H' g) fun _ _ _ _ _ _ y => y) (atK p kvs) (fun k x H' H'' hk _ g y R hR => ?_) gName_mono fun H' g => ?_
    · obtain ⟨rfl, ky, v, e1, rfl⟩ := y
      refine ⟨hw _, he od ky v H'' (List.mem_of_getElem? e1) (by rw [upd_self hx]; exact g2.trans g) R fun H4 g4 => ?_⟩
      have e3 : atK p kvs k = p ky v := by
        unfold atK
        rw [e1]
      rw [← e3]
      exact hR H4 (g.trans g4)
    · rw [all_atK]
      exact hQ _ (g2.trans g)
/-- len of a dict, locked or not -/
theorem call_lenDr {X : Cx} : CallR X (.builtin "len") (fun xs H Q => ∃ a kvs, xs = [V.ref a] ∧ Rd H a (.dK kvs) ∧ Q (.int kvs.length) H) := by
  intro pins s σ H xs us Q I r h
  obtain ⟨a, kvs, rfl, ha, q⟩ := h
  obtain ⟨u, rfl, ru⟩ := vals1 r
  cases ru
  rcases ha with ha | ⟨o, ha⟩
  · exact d_len I (.inl ha) fun t s' I' => ⟨.int kvs.length, H, I', ⟨t, rfl⟩, q⟩
  · exact d_len I (.inr ⟨o, ha⟩) fun t s' I' => ⟨.int kvs.length, H, I', ⟨t, rfl⟩, q⟩
def atS (p : Nat → Bool) (x : Str) (k : Nat) : Bool := match x.cps[k]? with | some c => p c | none => true
theorem all_atS (p : Nat → Bool) (x : Str) : (List.range x.cps.size).all (atS p x) = x.cps.toList.all p := by
  rw [Bool.eq_iff_iff, List.all_eq_true, List.all_eq_true]
  constructor
  · intro h c hc
    obtain ⟨k, hk, e⟩ := List.getElem_of_mem hc
    have hk' : k < x.cps.size := by simpa using hk
    have q := h k (List.mem_range.mpr hk')
    unfold atS at q
    rw [Array.getElem?_eq_getElem hk'] at q
    simpa [← e] using q
  · intro h k hk
    have hk' := List.mem_range.mp hk
    unfold atS
    rw [Array.getElem?_eq_getElem hk']
    exact h _ (by simp)
/-- all(.. for c in s), sign by sign -/
theorem rd_allS {x : Str} (p : Nat → Bool) (hi : σ[i]? = some (some (.str x))) (ht : TabG H P) (hw : ∀ x, wipe ((wipe σ vs).set j (some x)) vs = wipe σ vs)
    (he : ∀ c H', Ge H H' → ∀ R : VK, (∀ H4, Ge H' H4 → R (.bl (p c)) H4) → te ((wipe σ vs).set j (some (.str ⟨#[c]⟩))) H' R)
    (hQ : ∀ H', Ge H H' → Q (.bl (x.cps.toList.all p)) H') : tAllX P (iStr (tVar i)) (gName j) tYes te vs σ H Q := by
  refine ⟨.str x, hi, x, rfl, ht, fun H2 t2 => ?_⟩
  have g2 := Ge.tab ht t2
  refine turns_all (n := x.cps.size) (Walk.mono (walk_str (z := x)) (fun _ _ => True.intro) fun _ _ _ _ _ _ y => y) (atS p x) (fun k v H' H'' hk _ g y R hR => ?_) gName_mono fun H' g => by rw [all_atS]; exact hQ H' (g2.trans g)
  obtain ⟨rfl, c, e1, rfl⟩ := y
  refine ⟨hw _, he c H'' (g2.trans g) R fun H4 g4 => ?_⟩
  have e3 : atS p x k = p c := by
    unfold atS
    rw [e1]
  rw [← e3]
  exact hR H4 (g.trans g4)
end
end Dl
set_option maxRecDepth 100000
set_option maxHeartbeats 2000000
/-! A def whose guards are known to be none; the law's own end over it, with the tables of all defs. -/
namespace Lw
open PySem PySem.Spec PyProof.Rows L2 GxR

/-- as FnOk, where nothing that guards a repr is under way -/
structure FnG (P : Program) (w : World) (K : PySem.W.Frag) (mg : Str → Option Value) (base : Heap) (CX : CXT) (k : Nat) (f : Addr) (fd : FuncData) (ps : List Str) (sp : Sp) : Prop where
  len : ∀ vs H Q E, sp vs H Q E → vs.length = ps.length
  run : ∀ (A : Around) (outer : List Env) (s : Shared) (H : Hp) (args : Args) (us : List Value) (vs : List V) (Q : VK) (E : XK), A.guards = some [] → Room k A → Env0 P w K mg base A outer s H → BindsTo s fd args (ps.zip us) → Vals vs us → sp vs H Q E →
    codeAny (model P w) A (.call (.ref f) args) (CR CX outer P w H s Q E) s

section
variable {CX : CXT} {P : Program} {w : World} {K : PySem.W.Frag} {mg : Str → Option Value} {base : Heap}
theorem fng_of {k : Nat} {f : Addr} {name qual : Str} {params : Arguments} {body : List Stmt} {scope : Scope} {dV kV doc pm cdv ct oc : Value} {an od : Option Addr} {osl : Array (Option Value)} {N ps : List Str} {sp : Sp}
    (lk : K.lookup f = some ⟨oc, od, .func (PySem.W.fnOf name qual params body scope dV kV doc pm an cdv ct), osl⟩) (hcd : PySem.W.codeIn K cdv qual = true) (S : FnScope N ps scope) (len : ∀ vs H Q E, sp vs H Q E → vs.length = ps.length)
    (hbody : ∀ (A : Around) (outer : List Env) (s : Shared) (H : Hp) (vs : List V) (Q : VK) (E : XK), A.guards = some [] → Room k (A.deeper (envOfC qual scope s.heap.objs.size f cdv)) → sp vs H Q E →
      ∃ t, PSs (cxOf CX P w K mg base N qual scope f cdv A outer s H E) body t ∧ t { nx := fun _ H' => Q .non H', rt := Q } (start N vs) H) :
    FnG P w K mg base CX (k + 1) f (PySem.W.fnOf name qual params body scope dV kV doc pm an cdv ct) ps sp := by
  constructor
  · exact len
  · intro A outer s H args us vs Q E hgd hr e0 hb r hsp
    obtain ⟨t, ht, hq⟩ := hbody A outer s H vs Q E hgd (hr.deeper _) hsp
    have keepB : ∀ b o, base.get? b = some o → s.heap.get? b = some o := fun b o e => (e0.bs b o e).1
    have KX : K.In s.heap := e0.mod.kin.keeps keepB
    refine codeAny_call_function hr.depth (KX _ _ lk) rfl S.co S.gen rfl (PySem.W.codeRec_of KX hcd) (hb _ _ _ _ ?_)
    refine wpAny_newFunctionEnv_cells S.kind (fun y hy => ?_) fun env he s1 x => ?_
    · obtain ⟨n, v⟩ := y
      rcases S.par n (List.of_mem_zip hy).1 with q | q
      · exact Or.inl q
      · exact Or.inr ⟨q, PySem.W.cellsFrom_some _ _ _ (Or.inl q)⟩
    subst he
    have lim := (e0.mod.nolimit.keeps keepB).keeps x.toInCall.keep
    have I : Inv (cxOf CX P w K mg base N qual scope f cdv A outer s H E) [] (start N vs) H s1 := inv_start S hr.hd e0 (len _ _ _ _ hsp) r x
    refine ⟨lim, codeAny_func (wpAny_mono (ht.run [] s1 (start N vs) H _ I hq) (fun fl s' hs => ?_) fun e s' hs => hs)⟩
    cases fl with
    | ret u =>
      obtain ⟨v, σ', H', J, rv, q⟩ := hs
      exact ⟨v, H', J.os, J.bare, J.base, J.hok, rv, q⟩
    | next =>
      obtain ⟨σ', H', J, q⟩ := hs
      exact ⟨V.non, H', J.os, J.bare, J.base, J.hok, rfl, q⟩
    | brk => exact hs.elim fun _ z => z.elim fun _ z => z.2.elim
    | cont => exact hs.elim fun _ z => z.elim fun _ z => z.2.elim

/-- the heap as it is known at the law's entry: the tables of the defs, the script -/
def lawH (K : PySem.W.Frag) (a : Addr) (cs : List (Addr × Addr)) (vs : List Value) (ns : List Int) : Hp := fun b =>
  if b ∈ cs.map (·.2) then some (.tbl #[]) else if b = a ∧ K.lookup a = none then some (.frz { cls := .type "list", data := .seq vs.toArray } (.lst (ns.map V.int))) else none
theorem lawH_tab {K : PySem.W.Frag} {a : Addr} {cs : List (Addr × Addr)} {vs : List Value} {ns : List Int} {p : Addr × Addr} (h : p ∈ cs) : lawH K a cs vs ns p.2 = some (.tbl #[]) := if_pos (List.mem_map.mpr ⟨p, h, rfl⟩)
theorem lawH_cases {K : PySem.W.Frag} {a b : Addr} {cs : List (Addr × Addr)} {vs : List Value} {ns : List Int} : (b ∈ cs.map (·.2) ∧ lawH K a cs vs ns b = some (.tbl #[])) ∨
    (b ∉ cs.map (·.2) ∧ b = a ∧ K.lookup a = none ∧ lawH K a cs vs ns b = some (.frz { cls := .type "list", data := .seq vs.toArray } (.lst (ns.map V.int)))) ∨ (b ∉ cs.map (·.2) ∧ lawH K a cs vs ns b = none) := by
  unfold lawH
  by_cases h1 : b ∈ cs.map (·.2)
  · exact Or.inl ⟨h1, if_pos h1⟩
  · by_cases h2 : b = a ∧ K.lookup a = none
    · exact Or.inr (Or.inl ⟨h1, h2.1, h2.2, by rw [if_neg h1, if_pos h2]⟩)
    · exact Or.inr (Or.inr ⟨h1, by rw [if_neg h1, if_neg h2]⟩)

theorem law_callG {mb : Str → Option Value} {k : Nat} {fa a : Addr} {cs : List (Addr × Addr)} {fd : FuncData} {x : Str} {sp : Sp} {s₁ : Shared} {vs : List Value} {ns : List Int}
    (KX : K.In s₁.heap) (hns : s₁.heap.Ns mainGlobals mg) (hb : s₁.heap.Ns builtinsNs mb) (hbb : ∀ x : Str, x ≠ "__name__" → mb x = bootBuiltins x) (hlim : s₁.heap.NoLimit) (hg : s₁.gens = #[])
    (hT : ∀ p ∈ cs, s₁.heap.get? p.2 = some { cls := .none, data := .fields #[] }) (nT : ∀ p ∈ cs, K.lookup p.2 = none) (C : ∀ p ∈ cs, PySem.W.CodeHd s₁.heap p.1 p.2)
    (hbm : ∃ (bm : Addr) (ob : Obj), mg "__builtins__" = some (.ref bm) ∧ bm ≠ builtinsNs ∧ s₁.heap.get? bm = some ob ∧ ob.cls = .type "module" ∧ ob.dict = some builtinsNs ∧ ob.data = .plain)
    (ha : s₁.heap.get? a = some { cls := .type "list", data := .seq vs.toArray }) (hi : IntsAre vs ns) (hl : ns.length ≤ sizeLine) (hr : Room k callerA)
    (F : ∀ base : Heap, K.In base → base.Ns mainGlobals mg → (∀ p ∈ cs, TabB base mg p.1 p.2) → FnG P w K mg base CX k fa fd [x] sp) (hbind : ∀ (s : Shared) (u : Value), BindsTo s fd ⟨[u], []⟩ [(x, u)])
    (hsp : ∀ H : Hp, (∀ p ∈ cs, H p.2 = some (.tbl #[])) → SqL K H a (ns.map V.int) → sp [.ref a] H (fun v _ => v = .bl true) fun _ _ _ => False)
    (hCX : ∀ H e s', CX [] H s₁ (fun _ _ _ => False) e s' → False) :
    codeAny (model P w) callerA (.call (.ref fa) ⟨[.ref a], []⟩) (fun r s' => r = .ok (.ret (.bool true)) ∧ OldK s₁.heap s'.heap ∧ s'.os = s₁.os ∧ AllBare s'.gens) s₁ := by
  have rv := vals_ints hi
  have lenV := hi.length
  have isT : ∀ b : Addr, b ∈ cs.map (·.2) → s₁.heap.get? b = some { cls := .none, data := .fields #[] } := fun b hb => by
    obtain ⟨p, hp, rfl⟩ := List.mem_map.mp hb
    exact hT p hp
  have aT : a ∉ cs.map (·.2) := fun z => by
    have q := (isT a z).symm.trans ha
    cases q
  generalize hHd : lawH K a cs vs ns = H
  have cases' : ∀ b, (b ∈ cs.map (·.2) ∧ H b = some (.tbl #[])) ∨ (b ∉ cs.map (·.2) ∧ b = a ∧ K.lookup a = none ∧ H b = some (.frz { cls := .type "list", data := .seq vs.toArray } (.lst (ns.map V.int)))) ∨ (b ∉ cs.map (·.2) ∧ H b = none) := fun b => by
    rw [← hHd]
    exact lawH_cases
  have hTab : ∀ p ∈ cs, H p.2 = some (.tbl #[]) := fun p hp => by
    rw [← hHd]
    exact lawH_tab hp
  have hS : SqL K H a (ns.map V.int) := by
    cases hk : K.lookup a with
    | none =>
      rcases cases' a with z | ⟨_, _, _, z⟩ | ⟨_, z⟩
      · exact absurd z.1 aT
      · exact Or.inl (Or.inr ⟨_, z⟩)
      · rw [← hHd] at z
        unfold lawH at z
        rw [if_neg aT, if_pos ⟨rfl, hk⟩] at z
        cases z
    | some o =>
      have e := (KX a o hk).symm.trans ha
      cases e
      exact Or.inr ⟨_, vs.toArray, _, hk, rfl, rfl, rfl, by rw [List.size_toArray, lenV]; exact hl, by simpa using rv⟩
  have hok : HOk P w H s₁.heap := fun b u e => by
    rcases cases' b with ⟨hb, z⟩ | ⟨_, hb, _, z⟩ | ⟨_, z⟩
    · rw [z] at e
      cases e
      exact isT b hb
    · rw [z] at e
      cases e
      subst hb
      exact ⟨ha, by rw [List.length_map]; exact hl, vs, _, rv, ha⟩
    · rw [z] at e
      cases e
  -- what is no table and no script is untracked
  have free : ∀ {b : Addr} {o : Obj}, s₁.heap.get? b = some o → o.data ≠ .fields #[] → (∀ l n, o.data ≠ .seq l n) → H b = none := fun {b o} e h1 h2 => by
    rcases cases' b with ⟨hb, _⟩ | ⟨_, hb, _, _⟩ | ⟨_, z⟩
    · have q := (isT b hb).symm.trans e
      cases q
      exact absurd rfl h1
    · subst hb
      have q := ha.symm.trans e
      cases q
      exact absurd rfl (h2 _ _)
    · exact z
  have toBase : ∀ {b : Addr} {o : Obj}, s₁.heap.get? b = some o → H b = none → (hidT s₁.heap H).get? b = some o := fun e n => hidT_get e n
  have nsB : ∀ {b : Addr} {m : Str → Option Value}, s₁.heap.Ns b m → (hidT s₁.heap H).Ns b m := fun {b m} ⟨o, es, ep, e, d, r⟩ =>
    ⟨o, es, ep, toBase e (free e (fun z => by rw [d] at z; cases z) fun l n z => by rw [d] at z; cases z), d, r⟩
  have inB : K.In (hidT s₁.heap H) := fun b o e => toBase (KX b o e) (by
    rcases cases' b with ⟨hb, _⟩ | ⟨_, hb, hk, _⟩ | ⟨_, z⟩
    · obtain ⟨p, hp, rfl⟩ := List.mem_map.mp hb
      rw [nT p hp] at e
      cases e
    · subst hb
      rw [hk] at e
      cases e
    · exact z)
  have hM : L2.Mod K mg (hidT s₁.heap H) := ⟨inB, nsB hns, ⟨mb, nsB hb, hbb⟩, let ⟨mc, h1, h2⟩ := hlim; ⟨mc, nsB h1, h2⟩⟩
  have TB : ∀ p ∈ cs, TabB (hidT s₁.heap H) mg p.1 p.2 := fun p hp => by
    obtain ⟨o, us, file, tf, flags, tg, inF, text, tt, e1, r1, r2, r3, r4, r5, r6, r7, r8, hne⟩ := C p hp
    obtain ⟨bm, ob, b1, b2, b3, b4, b5, b6⟩ := hbm
    refine ⟨⟨o, us, file, tf, flags, tg, inF, text, tt, toBase e1 (free e1 (fun z => ?_) fun l n z => ?_), r1, r2, r3, r4, r5, r6, r7, r8, hne⟩, ⟨bm, ob, b1, b2, fun q => ?_, fun q => ?_, toBase b3 (free b3 (fun z => ?_) fun l n z => ?_), b4, b5, b6⟩, fun z => ?_⟩
    · rw [r2] at z
      cases z
      simp at r3
    · rw [r2] at z
      cases z
    · obtain ⟨o', es, ep, e, hd, _⟩ := hns
      rw [q, e] at b3
      cases b3
      rw [hd] at b6
      cases b6
    · rw [q, hT p hp] at b3
      cases b3
      cases b6
    · rw [b6] at z
      cases z
    · rw [b6] at z
      cases z
    · obtain ⟨o', es, ep, e, hd, _⟩ := hns
      rw [z, hT p hp] at e
      cases e
      cases hd
  have e0 : Env0 P w K mg (hidT s₁.heap H) callerA [] s₁ H := ⟨rfl, hM, fun b o e => of_hidT e, Nat.le_of_eq (hidT_size _ _), trivial, fun b hb => absurd (show b ∈ ([] : List Addr) from hb) List.not_mem_nil, hok, .of_eq hg⟩
  refine codeAny_mono ((F _ inB (nsB hns) TB).run callerA [] s₁ H ⟨[.ref a], []⟩ [.ref a] [.ref a] _ _ rfl hr e0 (hbind s₁ (.ref a)) (.cons rfl .nil) (hsp H hTab hS)) fun r s' h => ?_
  cases r with
  | error e => exact (hCX H e s' h).elim
  | ok fl =>
    cases fl with
    | next => exact False.elim h
    | brk => exact False.elim h
    | cont => exact False.elim h
    | ret u =>
      obtain ⟨v, H', os, bare, un, hok', r', q⟩ := h
      have q' : v = .bl true := q
      subst q'
      obtain rfl : u = Value.bool true := r'
      have rest : ∀ b o, b ∉ cs.map (·.2) → s₁.heap.get? b = some o → s'.heap.get? b = some o := fun b o nb e => by
        rcases cases' b with ⟨hb, _⟩ | ⟨_, _, _, z⟩ | ⟨_, z⟩
        · exact absurd hb nb
        · obtain ⟨e2, _⟩ := hok' b _ (un.frzs b _ _ z)
          obtain ⟨e1, _⟩ := hok b _ z
          rw [e] at e1
          cases e1
          exact e2
        · exact un.keep b o e z List.not_mem_nil List.not_mem_nil
      have grown : ∀ p ∈ cs, ∃ more : Array Value, s'.heap.get? p.2 = some { cls := .none, data := .fields more } := fun p hp => by
        obtain ⟨more, z⟩ := un.tbls p.2 #[] (hTab p hp)
        exact ⟨_, hok' p.2 _ z⟩
      refine ⟨rfl, ⟨fun b o e => ?_, fun b o e => ?_⟩, os, bare⟩
      · by_cases hb : b ∈ cs.map (·.2)
        · obtain ⟨p, hp, rfl⟩ := List.mem_map.mp hb
          obtain ⟨more, hm⟩ := grown p hp
          have e' := (hT p hp).symm.trans e
          cases e'
          exact Or.inr (Or.inl ⟨((C p hp).tab (hT p hp)).isCodeTable, rfl, #[], more, rfl, by rw [Array.empty_append]; exact hm⟩)
        · exact Or.inl (rest b o hb e)
      · by_cases hb : b ∈ cs.map (·.2)
        · obtain ⟨p, hp, rfl⟩ := List.mem_map.mp hb
          obtain ⟨more, hm⟩ := grown p hp
          exact ⟨_, hm⟩
        · exact ⟨o, rest b o hb e⟩

/-- the code object and the table of a def of the text -/
def TabF (q : Program) (K : PySem.W.Frag) (mg : Str → Option Value) (h : Heap) : Prop := ∀ (x : Str) (f c P : Addr) (o : Obj) (fd : FuncData) (e : Value) (dd : Option Addr) (vs : Array Value) (sl : Array (Option Value)),
  ((recsOf q).any fun d => d.name == x) = true → mg x = some (.ref f) → K.lookup f = some o → o.data = .func fd → fd.code = .ref c → K.lookup c = some ⟨e, dd, .fields vs, sl⟩ → vs[11]? = some (.ref P) →
  h.get? P = some { cls := .none, data := .fields #[] } ∧ PySem.W.CodeHd h c P
/-- what is known of the law's promise at the head's heap h -/
def LawAtG (l : PySem.W.OpenLaw) (w : World) (K : PySem.W.Frag) (CX : CXT) (k n : Nat) (x : Str) (mg : Str → Option Value) (fa : Addr) (h : Heap) : Prop :=
  ∃ (fd : FuncData) (cs : List (Addr × Addr)) (sp : Sp), (∀ p ∈ cs, h.get? p.2 = some { cls := .none, data := .fields #[] }) ∧ (∀ p ∈ cs, K.lookup p.2 = none) ∧ (∀ p ∈ cs, PySem.W.CodeHd h p.1 p.2) ∧ (∀ (s : Shared) (u : Value), BindsTo s fd ⟨[u], []⟩ [(x, u)]) ∧
    (∀ (H : Hp) (a : Addr) (ns : List Int), ns.length ≤ n → (∀ z ∈ ns, Builtin.Int.intBits z ≤ 1048576) → (∀ p ∈ cs, H p.2 = some (.tbl #[])) → SqL K H a (ns.map V.int) → sp [.ref a] H (fun v _ => v = .bl true) fun _ _ _ => False) ∧
    ∀ base : Heap, K.In base → base.Ns mainGlobals mg → (∀ p ∈ cs, TabB base mg p.1 p.2) → FnG l.prog w K mg base CX k fa fd [x] sp
theorem walk_ofG {l : PySem.W.OpenLaw} {n k : Nat} {q : Program} {loose : List Str} {XP : (Str → Option Value) → Heap → Prop} {YP : World → Heap → Prop} {d : DefRec} {K : Params → PySem.W.Frag} {CX : World → CXT} {x : Str}
    (hn : l.most = some n) (hn2 : n ≤ sizeLine) (hdf : d.params.defaults = []) (hr : Room k callerA) (hY : ∀ (w : World) (h : Heap), YP w h → (K w.params).In h)
    (F : ∀ (w : World) (mg : Str → Option Value) (fa : Addr) (h : Heap), YP w h → (K w.params).In h → h.Ns mainGlobals mg → mg d.name = some (.ref fa) → TabF q (K w.params) mg h → LawAtG l w (K w.params) (CX w) k n x mg fa h)
    (hCX : ∀ (w : World) (H : Hp) (s : Shared) (e : Value) (s' : Shared), CX w [] H s (fun _ _ _ => False) e s' → False) :
    PySem.W.WalkO q loose XP YP l.row.toRowW d [] (fun f vs => PySem.call f vs) := by
  refine Att.attach_callB hn hdf fun w s₀ s₁ mg mb fa o pm cd doc a vs ns G Y ho hd hcd hmg hobj hints hlen hbits hg => ?_
  have KX := hY w _ Y
  have tabs : TabF q (K w.params) mg s₁.heap := fun y f c P o1 fd1 e dd vs1 sl hy k1 k2 k3 k4 k5 k6 => by
    obtain ⟨dL, hm, hn1⟩ := List.any_eq_true.mp hy
    have hn2 : dL.name = y := beq_iff_eq.mp hn1
    obtain ⟨a', o', fd', c', P', h1, h2, h3, h4, h5, h6⟩ := G.T.tab dL hm
    rw [hn2, k1] at h1
    cases h1
    have g1 := (KX _ _ k2).symm.trans h2
    cases g1
    rw [k3] at h3
    cases h3
    rw [k4] at h4
    cases h4
    obtain ⟨⟨oc, vc, e1, r0, e3, e4⟩, hP⟩ := h6
    have g2 := (KX _ _ k5).symm.trans e1
    cases g2
    have z3 : Data.fields vs1 = Data.fields vc := e3
    cases z3
    rw [k6] at e4
    cases e4
    obtain ⟨o7, us7, file, tf, flags, tg, inF, text, tt, op, f1, f2, f3, f4, f5, f6, f7, f8, f9, f10, f11⟩ := h5
    have g3 := e1.symm.trans f1
    cases g3
    have z4 : Data.fields vs1 = Data.fields us7 := f2
    cases z4
    exact ⟨hP, _, vs1, file, tf, flags, tg, inF, text, tt, e1, r0, rfl, k6, f3, f4, f5, f6, f7, f11⟩
  obtain ⟨fd, cs, sp, hT, nT, C, hb, hsp, hF⟩ := F w mg fa _ Y KX G.T.g hmg tabs
  exact law_callG KX G.T.g G.T.b G.T.builtins G.T.nolimit hg hT nT C G.T.bmain hobj hints (Nat.le_trans hlen hn2) hr hF hb (fun H hH hS => hsp H a ns hlen hbits hH hS) fun H e s' => hCX w H s₁ e s'
end
end Lw
set_option maxRecDepth 100000
set_option maxHeartbeats 2000000
/-! Defs of the text, by their code objects -/
namespace Pd
open PySem PySem.Spec PyProof.Rows L2 GxR Gx Rp Dl

/-- a def of the text whose code object is known -/
structure FunC (K : PySem.W.Frag) (x : Str) (st : Stmt) (f : Addr) (fd : FuncData) (c : Addr) : Prop where
  ex : ∃ (oc : Value) (od : Option Addr) (kV doc pm : Value) (an : Option Addr) (ct : Value) (osl : Array (Option Value)),
    fd = PySem.W.fnOf x x (defArgs st) (defBody st) (defScope st) .none kV doc pm an (.ref c) ct ∧ K.lookup f = some ⟨oc, od, .func fd, osl⟩ ∧ PySem.W.codeIn K (.ref c) x = true
  kp : PySem.W.keepIn K (.ref f) = true
section
variable {P : Program} {w : World} {K : PySem.W.Frag} {mg : Str → Option Value} {base : Heap}
theorem FunC.ok {x : Str} {st : Stmt} {f c : Addr} {fd : FuncData} {N ps : List Str} {k : Nat} {sp : Sp} (F : FunC K x st f fd c) (S : FnScope N ps (defScope st)) (len : ∀ vs H Q E, sp vs H Q E → vs.length = ps.length)
    (hbody : ∀ (A : Around) (outer : List Env) (s : Shared) (H : Hp) (vs : List V) (Q : VK) (E : XK), Room k (A.deeper (envOfC x (defScope st) s.heap.objs.size f (.ref c))) → sp vs H Q E →
      ∃ t, PSs (cxOf CX0 P w K mg base N x (defScope st) f (.ref c) A outer s H E).nox (defBody st) t ∧ t { nx := fun _ H' => Q .non H', rt := Q } (start N vs) H) : FnOk P w K mg base CX0 (k + 1) f fd ps sp := by
  obtain ⟨oc, od, kV, doc, pm, an, ct, osl, rfl, lk, hcd⟩ := F.ex
  refine fn_of lk hcd S len fun A outer s H vs Q E hr hsp => ?_
  obtain ⟨t, ht, hq⟩ := hbody A outer s H vs Q E hr hsp
  exact ⟨t, ht.nox, hq⟩
theorem FunC.okX {CX : CXT} {x : Str} {st : Stmt} {f c : Addr} {fd : FuncData} {N ps : List Str} {k : Nat} {sp : Sp} (F : FunC K x st f fd c) (S : FnScope N ps (defScope st)) (len : ∀ vs H Q E, sp vs H Q E → vs.length = ps.length)
    (hbody : ∀ (A : Around) (outer : List Env) (s : Shared) (H : Hp) (vs : List V) (Q : VK) (E : XK), Room k (A.deeper (envOfC x (defScope st) s.heap.objs.size f (.ref c))) → sp vs H Q E →
      ∃ t, PSs (cxOf CX P w K mg base N x (defScope st) f (.ref c) A outer s H E) (defBody st) t ∧ t { nx := fun _ H' => Q .non H', rt := Q } (start N vs) H) : FnOk P w K mg base CX (k + 1) f fd ps sp := by
  obtain ⟨oc, od, kV, doc, pm, an, ct, osl, rfl, lk, hcd⟩ := F.ex
  exact fn_of lk hcd S len fun A outer s H vs Q E hr hsp => hbody A outer s H vs Q E hr hsp
theorem FunC.okG {x : Str} {st : Stmt} {f c : Addr} {fd : FuncData} {N ps : List Str} {k : Nat} {sp : Sp} (F : FunC K x st f fd c) (S : FnScope N ps (defScope st)) (len : ∀ vs H Q E, sp vs H Q E → vs.length = ps.length)
    (hbody : ∀ (A : Around) (outer : List Env) (s : Shared) (H : Hp) (vs : List V) (Q : VK) (E : XK), A.guards = some [] → Room k (A.deeper (envOfC x (defScope st) s.heap.objs.size f (.ref c))) → sp vs H Q E →
      ∃ t, PSs (cxOf CX0 P w K mg base N x (defScope st) f (.ref c) A outer s H E).nox (defBody st) t ∧ t { nx := fun _ H' => Q .non H', rt := Q } (start N vs) H) : Lw.FnG P w K mg base CX0 (k + 1) f fd ps sp := by
  obtain ⟨oc, od, kV, doc, pm, an, ct, osl, rfl, lk, hcd⟩ := F.ex
  refine Lw.fng_of lk hcd S len fun A outer s H vs Q E hg hr hsp => ?_
  obtain ⟨t, ht, hq⟩ := hbody A outer s H vs Q E hg hr hsp
  exact ⟨t, ht.nox, hq⟩
theorem FunC.binds {x : Str} {st : Stmt} {f c : Addr} {fd : FuncData} {ps : List Str} (F : FunC K x st f fd c)
    (h : ∀ (kV doc pm : Value) (an : Option Addr) (cdv ct : Value) (us : List Value), us.length = ps.length → bindArgs (PySem.W.fnOf x x (defArgs st) (defBody st) (defScope st) .none kV doc pm an cdv ct) ⟨us, []⟩ = pure (ps.zip us)) : Binds K fd ps [] := by
  obtain ⟨oc, od, kV, doc, pm, an, ct, osl, rfl, lk, hcd⟩ := F.ex
  exact .all (h kV doc pm an _ ct)
/-- a def as it is called by its name -/
structure Df (P : Program) (w : World) (K : PySem.W.Frag) (mg : Str → Option Value) (base : Heap) (CX : CXT) (k : Nat) (x : Str) (ps : List Str) (sp : Sp) : Prop where
  ex : ∃ f fd, mg x = some (.ref f) ∧ PySem.W.keepIn K (.ref f) = true ∧ Binds K fd ps [] ∧ FnOk P w K mg base CX k f fd ps sp
end
def tCal (sp : Sp) (E : XK) (t : TA) : TE := fun σ H Q => t σ H fun vs H1 => sp vs H1 Q E
section
variable {X : Cx} {CX : CXT} {k : Nat} {x : Str} {ps : List Str} {sp : Sp} {e : Expr} {es : List Expr} {t : TA} {E : XK} {p pos : Pos}
theorem pcall (D : Df X.prog X.w X.K X.mg X.base CX k x ps sp) (hr : Room k X.A) (hx : Passes CX X E) (hg : Gl X x) (ha : PA X (e :: es) t) (hdb : (x == ("__debug__" : Str)) = false := by decide)
    (he : starEach (e :: es) X.env = (false, eval e X.env) :: starEach es X.env := by rfl) (hpl : (backTo pos (starEach es X.env)).any (·.1) = false := by rfl) : PE X (.Call (.Name x p) (e :: es) [] pos) (tCal sp E t) := by
  obtain ⟨f, fd, hm, hk, hb, F⟩ := D.ex
  have h := pe_call (dvs := []) (ds := []) (pos := pos) (p := p) F hr hg hm hk hb .nil hx ha hdb he hpl
  refine ⟨fun pins s σ H Q I q => h.run pins s σ H Q I ?_⟩
  have e1 : (fun vs H1 => sp (vs ++ []) H1 Q E) = fun vs H1 => sp vs H1 Q E := by
    funext vs H1
    rw [List.append_nil]
  show t σ H (fun vs H1 => sp (vs ++ []) H1 Q E)
  rw [e1]
  exact q
/-- isinstance(e, T) -/
def tIsi (K : PySem.W.Frag) (n : String) (te : TE) : TE := tCB (rIsi K) (tCons te (tCons (tC (.ty n)) tNil))
theorem pe_isi {n : Str} {T : String} {te : TE} {p2 : Pos} (he : PE X e te) (hg : Gl X "isinstance") (hm : X.mg "isinstance" = none) (hgn : Gl X n) (hmn : X.mg n = none) (hv : bootBuiltins n = some (.type T)) (hn : n ≠ "__name__" := by decide) (hdb : (n == ("__debug__" : Str)) = false := by decide)
    (h1 : starEach [e, .Name n p2] X.env = (false, eval e X.env) :: starEach [.Name n p2] X.env := by rfl) : PE X (.Call (.Name "isinstance" p) [e, .Name n p2] [] pos) (tIsi X.K T te) :=
  pe_callB call_isi hg hm (by decide +kernel) (pa_cons he (pa_cons (pe_bltn (v := .ty T) hgn hmn hv rfl hn hdb) pa_nil) h1) (he := h1)
end
theorem rd_tIsi {K : PySem.W.Frag} {σ : L2.St} {H : Hp} {v : V} {d : PyData} {n : String} {i : Nat} {Q : VK} (hσ : σ[i]? = some (some v)) (h : Da K H v d) (q : Q (.bl (isTy n d)) H) (hn : n ∈ ["tuple", "dict", "str", "int", "bool", "list"] := by decide) : tIsi K n (tVar i) σ H Q := ⟨v, hσ, rd_isi h q hn⟩
theorem gxs {N : List Str} {sc scope : Scope} {own : List (Str × Nat)} (h : blkC N sc scope own = true) (co : scope.isCoroutine = false) (nc : ∀ y ∈ scope.names, y.2 ≠ .cell) (dot : scope.names.lookup (".0" : Str) = some NameKind.local) : GxS N sc scope own := ⟨blkOk_by h, co, nc, dot⟩
theorem op_inK {X : Cx} {K : PySem.W.Frag} (h : X.K = K) : OpR X (compareOp .In) (rIn K false) := h ▸ op_in_seq
theorem pe_isiK {X : Cx} {K : PySem.W.Frag} {e : Expr} {p pos : Pos} (hK : X.K = K) {n : Str} {T : String} {te : TE} {p2 : Pos} (he : PE X e te) (hg : Gl X "isinstance") (hm : X.mg "isinstance" = none) (hgn : Gl X n) (hmn : X.mg n = none) (hv : bootBuiltins n = some (.type T)) (hn : n ≠ "__name__" := by decide) (hdb : (n == ("__debug__" : Str)) = false := by decide)
    (h1 : starEach [e, .Name n p2] X.env = (false, eval e X.env) :: starEach [.Name n p2] X.env := by rfl) : PE X (.Call (.Name "isinstance" p) [e, .Name n p2] [] pos) (tIsi K T te) := hK ▸ pe_isi he hg hm hgn hmn hv hn hdb h1
theorem call_lenK {X : Cx} {K : PySem.W.Frag} (hK : X.K = K) : CallR X (.builtin "len") (fun xs H Q => ∃ p ys, xs = [.ref p] ∧ (SqL K H p ys ∨ SqT K H p ys) ∧ Q (.int ys.length) H) := hK ▸ call_len_seq
/-- the built-in names that the text leaves alone -/
structure Bn (mg : Str → Option Value) : Prop where
  isinstance : mg "isinstance" = none
  len : mg "len" = none
  all : mg "all" = none
  sum : mg "sum" = none
  zip : mg "zip" = none
  range : mg "range" = none
  repr : mg "repr" = none
  enumerate : mg "enumerate" = none
  tuple : mg "tuple" = none
  list : mg "list" = none
  dict : mg "dict" = none
  str : mg "str" = none
  int : mg "int" = none
  bool : mg "bool" = none
theorem bt_bool : bootBuiltins "bool" = some (.type "bool") := by decide +kernel
theorem bt_int : bootBuiltins "int" = some (.type "int") := by decide +kernel
theorem bt_str : bootBuiltins "str" = some (.type "str") := by decide +kernel
theorem bt_tuple : bootBuiltins "tuple" = some (.type "tuple") := by decide +kernel
theorem bt_dict : bootBuiltins "dict" = some (.type "dict") := by decide +kernel
theorem bt_list : bootBuiltins "list" = some (.type "list") := by decide +kernel
theorem bt_repr : bootBuiltins "repr" = some (.builtin "repr") := by decide +kernel
theorem bt_sum : bootBuiltins "sum" = some (.builtin "sum") := by decide +kernel
theorem bt_all : bootBuiltins "all" = some (.builtin "all") := by decide +kernel
/-- a test of data: one argument -/
def spD (K : PySem.W.Frag) (T : List Addr) (f : PyData → Bool) : Sp := fun vs H Q _ => ∃ v d, vs = [v] ∧ Da K H v d ∧ small d = true ∧ Tb T H ∧ ∀ H', Ge H H' → Q (.bl (f d)) H'
theorem spD_len {K : PySem.W.Frag} {T : List Addr} {f : PyData → Bool} : ∀ vs H Q E, spD K T f vs H Q E → vs.length = 1 := fun vs H Q E ⟨_, _, h, _⟩ => by rw [h]; rfl
end Pd
set_option maxRecDepth 100000
namespace Tx
open PySem L2
def top (i : Nat) : Stmt := PySem.Challenge.pw_keywait_k22_splits_recognized.main.body.getD i (.Pass ⟨0, 0, 0, 0⟩)
abbrev s_KeywaitError : Stmt := top 1
abbrev s_NoMap : Stmt := top 2
abbrev s_NoState : Stmt := top 3
abbrev s_NoKeys : Stmt := top 4
abbrev s_is_integer : Stmt := top 8
abbrev s_is_boolean : Stmt := top 9
abbrev s_is_within : Stmt := top 10
abbrev s_is_word : Stmt := top 11
abbrev s_is_name : Stmt := top 12
abbrev s_is_keys : Stmt := top 13
abbrev s_is_ascending : Stmt := top 14
abbrev s_is_map : Stmt := top 21
abbrev s_check_map : Stmt := top 22
abbrev s_check_state : Stmt := top 23
abbrev s_fits_state : Stmt := top 24
abbrev s_bound_in : Stmt := top 25
abbrev s_facts_of : Stmt := top 26
abbrev s_holds : Stmt := top 27
abbrev s_are_flags : Stmt := top 28
abbrev s_are_outside : Stmt := top 29
abbrev s_are_names : Stmt := top 30
abbrev s_are_settings : Stmt := top 31
abbrev s_are_commands : Stmt := top 32
abbrev s_are_layers : Stmt := top 33
abbrev s_is_binding : Stmt := top 34
abbrev s_first_event : Stmt := top 36
abbrev s_is_split : Stmt := top 39
abbrev s_check_held : Stmt := top 40
abbrev s_is_future : Stmt := top 41
abbrev s_law_wrong_sign : Stmt := top 43
abbrev s_law_spoilt : Stmt := top 44
abbrev s_law_open : Stmt := top 45
abbrev s_law_spread : Stmt := top 46
abbrev s_law_take : Stmt := top 47
abbrev s_law_same : Stmt := top 48
abbrev s_law_one_of : Stmt := top 49
abbrev s_law_draw_condition : Stmt := top 50
abbrev s_law_draw_keys : Stmt := top 51
abbrev s_law_draw_map : Stmt := top 52
abbrev s_law_draw_state : Stmt := top 53
abbrev s_law_holds : Stmt := top 54
abbrev s_law_winners : Stmt := top 55
abbrev s_law_table : Stmt := top 56
abbrev s_law_event : Stmt := top 57
abbrev s_law_is_more : Stmt := top 58
abbrev s_law_draw_more : Stmt := top 59
abbrev s_law_draw_value : Stmt := top 60
abbrev s_law : Stmt := top 61
end Tx
set_option maxRecDepth 100000
set_option maxHeartbeats 2000000
/-! The program's tests of data -/
namespace Pr
open PySem PySem.Spec PyProof.Rows L2 GxR Gx Rp Dl Pd Tx

/-! ### mirrors -/
def letters (x : Str) : Bool := x.cps.toList.all fun c => decide (97 ≤ c) && decide (c ≤ 122)
def isWord (m : Int) : PyData → Bool
  | .str x => decide (1 ≤ (x.length : Int)) && decide ((x.length : Int) ≤ m) && letters x
  | _ => false
def isName : PyData → Bool := isWord 8
def isKeys : PyData → Bool := isWord 4
def isBoolD : PyData → Bool
  | .bool _ => true
  | _ => false
def isIntD : PyData → Bool
  | .int _ => true
  | _ => false

theorem isTy_str {d : PyData} (h : isTy "str" d = true) : ∃ x, d = .str x := by
  cases d <;> simp [isTy, tyName] at h
  exact ⟨_, rfl⟩
theorem isTy_tup {d : PyData} (h : isTy "tuple" d = true) : ∃ x, d = .tuple x := by
  cases d <;> simp [isTy, tyName] at h
  exact ⟨_, rfl⟩
theorem isTy_dct {d : PyData} (h : isTy "dict" d = true) : ∃ x, d = .dict x := by
  cases d <;> simp [isTy, tyName] at h
  exact ⟨_, rfl⟩
theorem isWord_no {m : Int} {d : PyData} (h : isTy "str" d = false) : isWord m d = false := by
  cases d <;> first | rfl | simp [isTy, tyName] at h
theorem isBool_ty (d : PyData) : isTy "bool" d = isBoolD d := by cases d <;> rfl
theorem isInt_ty (d : PyData) : (isTy "int" d && !isTy "bool" d) = isIntD d := by cases d <;> rfl

section
variable {P : Program} {w : World} {K : PySem.W.Frag} {mg : Str → Option Value} {base : Heap} {T : List Addr}
/-! ### kinds -/
theorem scBoolean : FnScope ["thing"] ["thing"] (defScope s_is_boolean) := ⟨rfl, rfl, rfl, by decide +kernel, rfl, by decide +kernel, by decide +kernel⟩
theorem ok_is_boolean {f c : Addr} {fd : FuncData} (F : FunC K "is_boolean" s_is_boolean f fd c) (B : Bn mg) : FnOk P w K mg base CX0 1 f fd ["thing"] (spD K T isBoolD) := by
  refine F.ok scBoolean spD_len (fun A outer s H vs Q E hr h => ?_)
  obtain ⟨v, d, rfl, hd, hs, hT, q⟩ := h
  refine ⟨_, pss_one (ps_ret (pe_isi (pv 0) rfl B.isinstance rfl B.bool bt_bool)), ?_⟩
  refine rd_tIsi rfl hd ?_
  rw [isBool_ty]
  exact q H (Ge.refl H)
theorem scInteger : FnScope ["thing"] ["thing"] (defScope s_is_integer) := ⟨rfl, rfl, rfl, by decide +kernel, rfl, by decide +kernel, by decide +kernel⟩
theorem ok_is_integer {f c : Addr} {fd : FuncData} (F : FunC K "is_integer" s_is_integer f fd c) (B : Bn mg) : FnOk P w K mg base CX0 1 f fd ["thing"] (spD K T isIntD) := by
  refine F.ok scInteger spD_len (fun A outer s H vs Q E hr h => ?_)
  obtain ⟨v, d, rfl, hd, hs, hT, q⟩ := h
  refine ⟨_, pss_one (ps_ret (pe_and (pe_isi (pv 0) rfl B.isinstance rfl B.int bt_int) (pe_one (pe_not (pe_isi (pv 0) rfl B.isinstance rfl B.bool bt_bool))))), ?_⟩
  refine rd_tIsi rfl hd ⟨_, rfl, ?_⟩
  have q' := q H (Ge.refl H)
  rw [← isInt_ty] at q'
  cases e : isTy "int" d with
  | false =>
    rw [e] at q'
    exact iteF q'
  | true =>
    rw [e] at q'
    exact iteT (rd_tIsi rfl hd ⟨_, rfl, q'⟩)
/-- one argument and a number -/
def spW (K : PySem.W.Frag) (T : List Addr) : Sp := fun vs H Q _ => ∃ v d m, vs = [v, .int m] ∧ Da K H v d ∧ small d = true ∧ Tb T H ∧ ∀ H', Ge H H' → Q (.bl (isWord m d)) H'
abbrev nWord : List Str := ["thing", "most", "sign"]
theorem scWord : FnScope nWord ["thing", "most"] (defScope s_is_word) := ⟨rfl, rfl, rfl, by decide +kernel, rfl, by decide +kernel, by decide +kernel⟩
theorem lt_one (a b : Nat) : decide ([a] < [b]) = decide (a < b) := by
  by_cases h : a < b
  · rw [decide_eq_true h]
    exact decide_eq_true (List.Lex.rel h)
  · rw [decide_eq_false h]
    refine decide_eq_false fun z => ?_
    cases z with
    | rel z => exact h z
    | cons z => cases z
theorem le_one (a b : Nat) : (!decide ([b] < [a])) = decide (a ≤ b) := by
  rw [lt_one]
  by_cases h : a ≤ b
  · rw [decide_eq_true h, decide_eq_false (by omega)]
    rfl
  · rw [decide_eq_false h, decide_eq_true (by omega)]
    rfl
theorem ok_is_word {f c Pt : Addr} {fd : FuncData} (F : FunC K "is_word" s_is_word f fd c) (B : Bn mg) (TB : TabB base mg c Pt) (hPt : Pt ∈ T) : FnOk P w K mg base CX0 2 f fd ["thing", "most"] (spW K T) := by
  refine F.ok scWord (fun vs H Q E ⟨_, _, _, h, _⟩ => by rw [h]; rfl) (fun A outer s H vs Q E hr h => ?_)
  obtain ⟨v, d, m, rfl, hd, hs, hT, q⟩ := h
  refine ⟨_, pss_cons (ps_if (PW.pt (pw_or (pt_not (pt_val (pe_isi (pv 0) rfl B.isinstance rfl B.str bt_str))) (pw_or1 (pt_not (pt_chain op_le op_le pe_int (pe_callB call_len_str rfl B.len PySem.boot_len (pa_cons (pv 0) pa_nil)) (pv 1)))))) (pss_one (ps_ret pe_bl)) pss_nil)
    (pss_one (ps_ret (pe_allX (k := 0) (own := [("sign", 2)]) hr rfl B.all TB rfl scWord.nd (gxs (N := nWord) (sc := defScope s_is_word) (by decide +kernel) rfl (by decide +kernel) rfl) (pi_str (pv 0))
      (fun _ _ _ _ _ _ _ _ _ => pg_name (i := 2) scWord.nd rfl (Or.inl rfl)) (fun _ _ _ _ _ _ _ _ _ => pts_nil) (fun _ _ _ _ _ _ _ _ _ => pe_chain op_le_str op_le_str pe_str (pv 2) pe_str)))), ?_⟩
  refine rd_tIsi rfl hd ⟨_, rfl, ?_⟩
  cases e : isTy "str" d with
  | false =>
    refine iteT (iteT ?_)
    have q' := q H (Ge.refl H)
    rw [isWord_no e] at q'
    exact q'
  | true =>
    refine iteF ?_
    obtain ⟨x, rfl⟩ := isTy_str e
    cases hd
    refine ⟨_, rfl, _, rfl, small_str hs, _, _, rfl, rfl, _, rfl, ?_⟩
    have q' : ∀ H', Ge H H' → Q (.bl (decide (1 ≤ (x.length : Int)) && decide ((x.length : Int) ≤ m) && letters x)) H' := q
    cases e1 : decide (1 ≤ (x.length : Int)) with
    | false =>
      refine iteF ⟨_, rfl, iteT ?_⟩
      have z := q' H (Ge.refl H)
      rw [e1] at z
      exact z
    | true =>
      refine iteT ⟨.int m, rfl, _, _, rfl, rfl, _, rfl, ?_⟩
      cases e2 : decide ((x.length : Int) ≤ m) with
      | false =>
        refine iteT ?_
        have z := q' H (Ge.refl H)
        rw [e1, e2] at z
        exact z
      | true =>
        refine iteF ?_
        refine rd_allS (fun c => decide (97 ≤ c) && decide (c ≤ 122)) rfl (hT Pt hPt) (fun _ => rfl) (fun c H' g R hR => ?_) fun H' g => ?_
        · refine ⟨_, rfl, _, _, rfl, rfl, _, rfl, ?_⟩
          have h1 : (!decide ((⟨#[c]⟩ : Str).cps.toList < ("a" : Str).cps.toList)) = decide (97 ≤ c) := le_one 97 c
          have h2 : (!decide (("z" : Str).cps.toList < (⟨#[c]⟩ : Str).cps.toList)) = decide (c ≤ 122) := le_one c 122
          rw [h1]
          cases e3 : decide (97 ≤ c) with
          | false =>
            refine iteF ?_
            have z := hR H' (Ge.refl H')
            rw [e3] at z
            exact z
          | true =>
            refine iteT ⟨_, _, rfl, rfl, ?_⟩
            rw [h2]
            have z := hR H' (Ge.refl H')
            rw [e3] at z
            exact z
        · have z := q' H' g
          rw [e1, e2] at z
          exact z
end
end Pr
set_option maxRecDepth 100000
set_option maxHeartbeats 2000000
namespace Pr
open PySem PySem.Spec PyProof.Rows L2 GxR Gx Rp Dl Pd Tx RZ

def isWithin (a b : Int) : PyData → Bool
  | .int i => decide (a ≤ i) && decide (i ≤ b)
  | _ => false
def ltD : PyData → PyData → Bool
  | .str x, .str y => decide (x.cps.toList < y.cps.toList)
  | _, _ => false
def ascD : List PyData → Bool
  | a :: b :: r => ltD a b && ascD (b :: r)
  | _ => true
def areNames : PyData → Bool
  | .tuple ds => ds.all isName && ascD ds
  | _ => false
theorem ascD_iff : ∀ ds : List PyData, ascD ds = true ↔ ∀ k a b, ds[k]? = some a → ds[k + 1]? = some b → ltD a b = true
  | [] => by simp [ascD]
  | [x] => by
    simp only [ascD, true_iff]
    intro k a b h1 h2
    simp at h2
  | x :: y :: r => by
    have ih := ascD_iff (y :: r)
    simp only [ascD, Bool.and_eq_true, ih]
    constructor
    · rintro ⟨h1, h2⟩ k a b e1 e2
      cases k with
      | zero =>
        simp at e1 e2
        rw [← e1, ← e2]
        exact h1
      | succ k => exact h2 k a b (by simpa using e1) (by simpa using e2)
    · intro h
      exact ⟨h 0 x y rfl rfl, fun k a b e1 e2 => h (k + 1) a b (by simpa using e1) (by simpa using e2)⟩
theorem areNames_no {d : PyData} (h : isTy "tuple" d = false) : areNames d = false := by
  cases d <;> first | rfl | simp [isTy, tyName] at h
theorem isName_str {d : PyData} (h : isName d = true) : ∃ x, d = .str x := by
  cases d with
  | str x => exact ⟨x, rfl⟩
  | _ => cases h

/-- zip of two tuples -/
theorem walk_zipT {K : PySem.W.Frag} {a b : Addr} {xs ys : List V} {n : Nat} (hn : n = min xs.length ys.length) : Walk (ItzT K a b) n (fun H => SqT K H a xs ∧ SqT K H b ys) (YPair (fun i => xs[i]?) (fun i => ys[i]?)) := by
  subst hn
  refine ⟨fun i H hi q => ?_, fun H q => ⟨xs, ys, q.1, q.2, by omega⟩, fun i H v H' hi q y => ?_⟩
  · have h1 : i < xs.length := by omega
    have h2 : i < ys.length := by omega
    exact ⟨xs, ys, xs[i], ys[i], q.1, q.2, by simp [h1], by simp [h2]⟩
  · obtain ⟨T, x, z, h1, h2, h3, h4, h5⟩ := y
    exact ⟨T, x, z, h1, h2, h3, h4 xs q.1, h5 ys q.2⟩

section
variable {P : Program} {w : World} {K : PySem.W.Frag} {mg : Str → Option Value} {base : Heap} {T : List Addr}
abbrev DfP (P : Program) (w : World) (K : PySem.W.Frag) (mg : Str → Option Value) (base : Heap) (k : Nat) (x : Str) (ps : List Str) (sp : Sp) : Prop := Df P w K mg base CX0 k x ps sp
theorem scName : FnScope ["thing"] ["thing"] (defScope s_is_name) := ⟨rfl, rfl, rfl, by decide +kernel, rfl, by decide +kernel, by decide +kernel⟩
theorem ok_is_name {f c : Addr} {fd : FuncData} (F : FunC K "is_name" s_is_name f fd c) (D : DfP P w K mg base 2 "is_word" ["thing", "most"] (spW K T)) {t : Tok} (hc : mg "LONGEST_NAME" = some (.int 8 t)) : FnOk P w K mg base CX0 3 f fd ["thing"] (spD K T isName) := by
  refine F.ok scName spD_len (fun A outer s H vs Q E hr h => ?_)
  obtain ⟨v, d, rfl, hd, hs, hT, q⟩ := h
  exact ⟨_, pss_one (ps_ret (pcall D hr pass0 rfl (pa_cons (pv 0) (pa_cons (pe_glob (v := .int 8) rfl hc ⟨_, rfl⟩) pa_nil)))), v, rfl, v, d, 8, rfl, hd, hs, hT, q⟩
theorem scKeys : FnScope ["thing"] ["thing"] (defScope s_is_keys) := ⟨rfl, rfl, rfl, by decide +kernel, rfl, by decide +kernel, by decide +kernel⟩
theorem ok_is_keys {f c : Addr} {fd : FuncData} (F : FunC K "is_keys" s_is_keys f fd c) (D : DfP P w K mg base 2 "is_word" ["thing", "most"] (spW K T)) {t : Tok} (hc : mg "MOST_KEYS" = some (.int 4 t)) : FnOk P w K mg base CX0 3 f fd ["thing"] (spD K T isKeys) := by
  refine F.ok scKeys spD_len (fun A outer s H vs Q E hr h => ?_)
  obtain ⟨v, d, rfl, hd, hs, hT, q⟩ := h
  exact ⟨_, pss_one (ps_ret (pcall D hr pass0 rfl (pa_cons (pv 0) (pa_cons (pe_glob (v := .int 4) rfl hc ⟨_, rfl⟩) pa_nil)))), v, rfl, v, d, 4, rfl, hd, hs, hT, q⟩
def spWi (K : PySem.W.Frag) (T : List Addr) : Sp := fun vs H Q _ => ∃ v d a b, vs = [v, .int a, .int b] ∧ Da K H v d ∧ small d = true ∧ Tb T H ∧ ∀ H', Ge H H' → Q (.bl (isWithin a b d)) H'
theorem scWithin : FnScope ["thing", "least", "most"] ["thing", "least", "most"] (defScope s_is_within) := ⟨rfl, rfl, rfl, by decide +kernel, rfl, by decide +kernel, by decide +kernel⟩
theorem ok_is_within {f c : Addr} {fd : FuncData} (F : FunC K "is_within" s_is_within f fd c) (D : DfP P w K mg base 1 "is_integer" ["thing"] (spD K T isIntD)) : FnOk P w K mg base CX0 2 f fd ["thing", "least", "most"] (spWi K T) := by
  refine F.ok scWithin (fun vs H Q E ⟨_, _, _, _, h, _⟩ => by rw [h]; rfl) (fun A outer s H vs Q E hr h => ?_)
  obtain ⟨v, d, a, b, rfl, hd, hs, hT, q⟩ := h
  refine ⟨_, pss_one (ps_ret (pe_and (pcall D hr pass0 rfl (pa_cons (pv 0) pa_nil)) (pe_one (pe_chain op_le op_le (pv 1) (pv 0) (pv 2))))), ?_⟩
  refine ⟨v, rfl, v, d, rfl, hd, hs, hT, fun H' g => ⟨_, rfl, ?_⟩⟩
  cases e : isIntD d with
  | false =>
    refine iteF ?_
    have z := q H' g
    have e1 : isWithin a b d = false := by
      cases d <;> first | rfl | cases e
    rw [e1] at z
    exact z
  | true =>
    refine iteT ?_
    obtain ⟨i, rfl⟩ : ∃ i, d = .int i := by
      cases d <;> first | exact ⟨_, rfl⟩ | cases e
    cases hd
    refine ⟨_, rfl, _, rfl, _, _, rfl, rfl, _, rfl, ?_⟩
    have z : Q (.bl (decide (a ≤ i) && decide (i ≤ b))) H' := q H' g
    cases e1 : decide (a ≤ i) with
    | false =>
      rw [e1] at z
      exact iteF z
    | true =>
      rw [e1] at z
      exact iteT ⟨_, rfl, _, _, rfl, rfl, z⟩

abbrev nAsc : List Str := ["things", "low", "high"]
theorem scAsc : FnScope nAsc ["things"] (defScope s_is_ascending) := ⟨rfl, rfl, rfl, by decide +kernel, rfl, by decide +kernel, by decide +kernel⟩
/-- a tuple of texts -/
def spAsc (K : PySem.W.Frag) : Sp := fun vs H Q _ => ∃ (a : Addr) (xs : List V) (ds : List PyData), vs = [.ref a] ∧ Rd H a (.tup xs) ∧ DaAll K H xs ds ∧ (∀ d ∈ ds, ∃ s, d = PyData.str s) ∧ ∀ H', Ge H H' → Q (.bl (ascD ds)) H'
theorem ok_is_ascending {f c : Addr} {fd : FuncData} (F : FunC K "is_ascending" s_is_ascending f fd c) (B : Bn mg) : FnOk P w K mg base CX0 1 f fd ["things"] (spAsc K) := by
  refine F.ok scAsc (fun vs H Q E ⟨_, _, _, h, _⟩ => by rw [h]; rfl) (fun A outer s H vs Q E hr h => ?_)
  obtain ⟨a, xs, ds, rfl, hx, hda, hstr, q⟩ := h
  refine ⟨_, pss_cons (ps_for PassesOwn.never rfl (pi_zipA rfl B.zip (pa_cons (pv 0) (pa_cons (pe_slice sl_tupA (pv 0) (po_some pe_int) po_none) pa_nil))) (pg_tup rfl (pgs_cons (pg_name (i := 1) scAsc.nd rfl (Or.inl rfl)) (pgs_cons (pg_name (i := 2) scAsc.nd rfl (Or.inl rfl)) pgs_nil)))
      (pss_one (ps_if (pt_cmpR op_ge_str (pv 1) (pv 2) (nomark _)) (pss_one (ps_ret pe_bl)) pss_nil)))
    (pss_one (ps_ret pe_bl)), ?_⟩
  have hl := daAll_len hda
  have txt : ∀ (k : Nat) (d' : PyData), ds[k]? = some d' → ∃ x : Str, d' = PyData.str x := fun k d' hk => hstr d' (List.mem_of_getElem? hk)
  have loop : ∀ (b : Addr) (H2 : Hp) (D : Ends), Ge H H2 → SqT K H2 b (xs.drop 1) → (∀ H', Ge H2 H' → D.rt (.bl (ascD ds)) H') → (∀ σ' H', Ge H2 H' → ascD ds = true → D.nx σ' H') → ∀ (g : TG) (tb : TS), g = gTup K 2 (gCons (gName 1) (gCons (gName 2) gNil)) →
      tb = tIfS (tTest (tOp (fun (x y : V) (H : Hp) (Q : VK) => ∃ i j : Str, x = V.str i ∧ y = V.str j ∧ Q (V.bl (!decide (i.cps.toList < j.cps.toList))) H) (tVar 1) (tVar 2))) (tRet (tC (.bl false))) tNext →
      ∃ W : Nat → Nat → L2.St → Hp → Prop, (∃ m, W 0 m (L2.start nAsc [.ref a]) H2) ∧ ∀ i m σ H, W i m σ H →
        ((ItzT K a b).stop i H ∧ D.nx σ H) ∨ ((ItzT K a b).go i H ∧ ∃ N : L2.St → Hp → Prop, (∀ σ' H', N σ' H' → ∃ m', m' < m ∧ W (i + 1) m' σ' H') ∧ ∀ x H', (ItzT K a b).yld i H x H' → g x σ H' fun σ2 H2 => tb { D with nx := N, ct := N, bk := D.nx } σ2 H2) := by
    rintro b H2 D g2 hb hrt hnx g tb rfl rfl
    refine for_it (walk_zipT (xs := xs) (ys := xs.drop 1) rfl) (fun i σ' H' => Ge H2 H' ∧ (∃ l h, σ' = [some (.ref a), l, h]) ∧ ∀ k, k < i → ∀ x y, ds[k]? = some x → ds[k + 1]? = some y → ltD x y = true)
      ⟨Ge.refl _, ⟨none, none, rfl⟩, fun k hk => absurd hk (Nat.not_lt_zero k)⟩ (fun i σ' H' _ p => ⟨(g2.trans p.1).sqT (Or.inl hx), p.1.sqT hb⟩) ?_ ?_
    · rintro i x σ' H' H'' hi ⟨p1, ⟨l, h, rfl⟩, p3⟩ ⟨Tn, u, v, rfl, hTn, rfl, hu, hv⟩
      obtain ⟨du, eu, hdu⟩ := daAll_get hda hu
      obtain ⟨dv, ev, hdv⟩ := daAll_get hda (show xs[i + 1]? = some v by have hv' : (xs.drop 1)[i]? = some v := hv; rw [List.getElem?_drop, Nat.add_comm] at hv'; exact hv')
      obtain ⟨su, rfl⟩ := txt i du eu
      obtain ⟨sv, rfl⟩ := txt (i + 1) dv ev
      cases hdu
      cases hdv
      refine ⟨Tn, [.str su, .str sv], rfl, SqT.of upd_same, rfl, _, _, rfl, _, _, rfl, rfl, _, rfl, _, rfl, _, _, rfl, rfl, _, rfl, ?_⟩
      have g3 : Ge H2 (upd H' Tn (.tup [.str su, .str sv])) := p1.trans (Ge.new hTn)
      cases e2 : decide (su.cps.toList < sv.cps.toList) with
      | true =>
        refine iteF ⟨g3, ⟨_, _, rfl⟩, fun k hk x y h1 h2 => ?_⟩
        by_cases hki : k = i
        · subst hki
          rw [eu] at h1
          rw [ev] at h2
          cases h1
          cases h2
          exact e2
        · exact p3 k (by omega) x y h1 h2
      | false =>
        refine iteT ?_
        have z := hrt _ g3
        have e3 : ascD ds = false := by
          cases e4 : ascD ds with
          | false => rfl
          | true =>
            have q5 := (ascD_iff ds).mp e4 i _ _ eu ev
            have q6 : decide (su.cps.toList < sv.cps.toList) = true := q5
            rw [e2] at q6
            cases q6
        rw [e3] at z
        exact z
    · rintro σ' H' ⟨p1, _, p3⟩
      refine hnx σ' H' p1 ((ascD_iff ds).mpr fun k x y h1 h2 => p3 k ?_ x y h1 h2)
      have hk := (List.getElem?_eq_some_iff.mp h2).1
      rw [List.length_drop]
      omega
  have fin : ∀ (b : Addr) (H2 : Hp), Ge H H2 → SqT K H2 b (xs.drop 1) → _ := fun (b : Addr) (H2 : Hp) g2 hb => loop b H2 { nx := fun σ H' => Q (.bl true) H', rt := Q } g2 hb (fun H' g => q H' (g2.trans g)) (fun σ' H' g e => by
    have z := q H' (g2.trans g)
    rw [e] at z
    exact z) _ _ rfl rfl
  refine ⟨.ref a, rfl, .ref a, rfl, 1, rfl, a, xs, rfl, Or.inl hx, fun hw => ?_, fun hw p hp => ?_⟩
  · have h0 : xs = [] := by
      have z := hw.1
      rw [show (some (1 : Int)) = some (((1 : Nat) : Int)) from rfl, HT.sIx_nat] at z
      cases xs with
      | nil => rfl
      | cons x r =>
        rw [List.length_cons] at z
        omega
    refine ⟨a, a, xs, xs, rfl, Or.inr ⟨Or.inl hx, Or.inl hx, ?_⟩⟩
    exact fin a H (Ge.refl _) (by rw [h0]; rw [h0] at hx; exact Or.inl hx)
  · have g3 : Ge H (upd H p (.tup (cutV xs (some 1) none))) := Ge.new hp
    have ec : cutV xs (some 1) none = xs.drop 1 := by
      unfold cutV
      rw [show (some (1 : Int)) = some (((1 : Nat) : Int)) from rfl, HT.sIx_nat, HT.sIx_none]
      by_cases hz : 1 ≤ xs.length
      · rw [Nat.min_eq_left hz, List.take_of_length_le (by rw [List.length_drop]; omega)]
      · have h0 : xs = [] := List.eq_nil_of_length_eq_zero (by omega)
        subst h0
        rfl
    refine ⟨a, p, xs, _, rfl, Or.inr ⟨g3.sqT (Or.inl hx), SqT.of upd_same, ?_⟩⟩
    exact fin p _ g3 (by rw [← ec]; exact SqT.of upd_same)
abbrev nNames : List Str := ["thing", "name"]
theorem scNames : FnScope nNames ["thing"] (defScope s_are_names) := ⟨rfl, rfl, rfl, by decide +kernel, rfl, by decide +kernel, by decide +kernel⟩
theorem ok_are_names {f c Pt : Addr} {fd : FuncData} (F : FunC K "are_names" s_are_names f fd c) (B : Bn mg) (TB : TabB base mg c Pt) (hPt : Pt ∈ T) (D : DfP P w K mg base 3 "is_name" ["thing"] (spD K T isName)) (D2 : DfP P w K mg base 1 "is_ascending" ["things"] (spAsc K)) : FnOk P w K mg base CX0 5 f fd ["thing"] (spD K T areNames) := by
  refine F.ok scNames spD_len (fun A outer s H vs Q E hr h => ?_)
  obtain ⟨v, d, rfl, hd, hs, hT, q⟩ := h
  refine ⟨_, pss_cons (ps_if (PW.pt (pw_or (pt_not (pt_val (pe_isi (pv 0) rfl B.isinstance rfl B.tuple bt_tuple))) (pw_or1 (pt_not (pt_val (pe_allX (k := 3) (own := [("name", 1)]) hr rfl B.all TB rfl scNames.nd (gxs (N := nNames) (sc := defScope s_are_names) (by decide +kernel) rfl (by decide +kernel) rfl) (pi_tup (pv 0))
        (fun _ _ _ _ _ _ _ _ _ => pg_name (i := 1) scNames.nd rfl (Or.inl rfl)) (fun _ _ _ _ _ _ _ _ _ => pts_nil) (fun _ _ _ _ _ _ _ _ r => pcall D r pass0 rfl (pa_cons (pv 1) pa_nil)))))))) (pss_one (ps_ret pe_bl)) pss_nil)
    (pss_one (ps_ret (pcall D2 (hr.mono (by decide)) pass0 rfl (pa_cons (pv 0) pa_nil)))), ?_⟩
  refine rd_tIsi rfl hd ⟨_, rfl, ?_⟩
  cases e : isTy "tuple" d with
  | false =>
    refine iteT (iteT ?_)
    have z := q H (Ge.refl H)
    rw [areNames_no e] at z
    exact z
  | true =>
    refine iteF ?_
    obtain ⟨ds, rfl⟩ := isTy_tup e
    cases hd with
    | @tup a xs _ hx hda =>
      have hss : smallAll ds = true := (small_tup hs).2
      refine rd_allT isName rfl hx hda (hT Pt hPt) (fun _ => rfl) (fun x d' H' hm g hd' R hR => ⟨x, rfl, x, d', rfl, hd', small_mem hss hm, g.tb hT, hR⟩) fun H1 g1 => ⟨_, rfl, ?_⟩
      have q' : ∀ H', Ge H H' → Q (.bl (ds.all isName && ascD ds)) H' := q
      cases e1 : ds.all isName with
      | false =>
        refine iteT ?_
        have z := q' H1 g1
        rw [e1] at z
        exact z
      | true =>
        refine iteF ?_
        rw [e1] at q'
        exact ⟨_, rfl, a, xs, ds, rfl, g1.rd (fun ps z => by cases z) hx, g1.daAll hda, fun d hd => isName_str (List.all_eq_true.mp e1 d hd), fun H2 g2 => q' H2 (g1.trans g2)⟩
end
end Pr
set_option maxRecDepth 100000
set_option maxHeartbeats 2000000
namespace Pr
open PySem PySem.Spec PyProof.Rows L2 GxR Gx Rp Dl Pd Tx RZ

def lenT : PyData → Nat
  | .tuple ds => ds.length
  | _ => 0
def areFlags (d : PyData) : Bool := areNames d && decide (lenT d ≤ 3)
def isS (s : Str) : PyData → Bool
  | .str a => a == s
  | _ => false
/-- a text among texts -/
def memS (fs : List PyData) : PyData → Bool
  | .str s => fs.any (isS s)
  | _ => false
def areOutside (fs : List PyData) : PyData → Bool
  | .tuple ds => areNames (.tuple ds) && ds.all (memS fs)
  | _ => false
def areSettings (fs : List PyData) : PyData → Bool
  | .dict kvs => kvs.all fun p => memS fs p.1 && isBoolD p.2
  | _ => false
def areCommands (fs : List PyData) : PyData → Bool
  | .dict kvs => decide (kvs.length ≤ 8) && kvs.all fun p => isName p.1 && areSettings fs p.2
  | _ => false
def isStrD : PyData → Bool
  | .str _ => true
  | _ => false
section
variable {K : PySem.W.Frag} {H : Hp}
theorem in_strs {xs : List V} {fs : List PyData} (h : DaAll K H xs fs) (hf : ∀ f ∈ fs, ∃ s, f = PyData.str s) : xs.all flatV = true ∧ (∀ s, inV (.str s) xs = memS fs (.str s)) ∧ ∀ i, inV (.int i) xs = false := by
  induction xs generalizing fs with
  | nil =>
    cases h
    exact ⟨rfl, fun _ => rfl, fun _ => rfl⟩
  | cons x r ih =>
    cases h with
    | @cons _ _ d ds h1 h2 =>
      obtain ⟨s0, e⟩ := hf _ List.mem_cons_self
      subst e
      obtain ⟨i1, i2, i3⟩ := ih h2 fun f hm => hf f (List.mem_cons_of_mem _ hm)
      cases h1
      refine ⟨by rw [List.all_cons, i1]; rfl, fun s => ?_, fun i => ?_⟩
      · have z : inV (.str s) (V.str s0 :: r) = ((s0 == s) || inV (.str s) r) := rfl
        rw [z, i2 s]
        rfl
      · have z : inV (.int i) (V.str s0 :: r) = (false || inV (.int i) r) := rfl
        rw [z, i3 i]
        rfl
theorem names_strs {ds : List PyData} (h : areNames (.tuple ds) = true) : ∀ f ∈ ds, ∃ s, f = PyData.str s := fun f hf => by
  have h1 : (ds.all isName && ascD ds) = true := h
  rw [Bool.and_eq_true] at h1
  exact isName_str (List.all_eq_true.mp h1.1 f hf)
theorem flags_strs {ds : List PyData} (h : areFlags (.tuple ds) = true) : ∀ f ∈ ds, ∃ s, f = PyData.str s := by
  have h1 : (areNames (.tuple ds) && decide (ds.length ≤ 3)) = true := h
  rw [Bool.and_eq_true] at h1
  exact names_strs h1.1
theorem da_key (k : Key) : Da K H (kV k) (kD k) := by
  cases k with
  | inl i => exact .int i
  | inr x => exact .str x
theorem tb_lock {T : List Addr} {a : Addr} {od : Obj} {kvs : List (Key × V)} (hx : Rd H a (.dK kvs)) (h : Tb T H) : Tb T (upd H a (.frz od (.dK kvs))) := fun Pp hp => by
  obtain ⟨ps, e3, w3⟩ := h Pp hp
  exact ⟨ps, by rw [upd_ne (fun z => by rcases hx with hx | ⟨o, hx⟩ <;> (rw [z, hx] at e3; cases e3))]; exact e3, w3⟩
theorem flat_key (k : Key) : flatV (kV k) = true := by cases k <;> rfl
theorem in_key {xs : List V} {fs : List PyData} (h : DaAll K H xs fs) (hf : ∀ f ∈ fs, ∃ s, f = PyData.str s) (k : Key) : inV (kV k) xs = memS fs (kD k) := by
  obtain ⟨_, h2, h3⟩ := in_strs h hf
  cases k with
  | inl i => exact h3 i
  | inr x => exact h2 x
theorem kD_inj {k k' : Key} (h : kD k = kD k') : k = k' := by
  cases k <;> cases k' <;> cases h <;> rfl
theorem valV_nodup {kvs : List (Key × V)} {k : Key} {v : V} (hn : (kvs.map (·.1)).Nodup) (h : (k, v) ∈ kvs) : valV kvs k = some v := by
  induction kvs with
  | nil => cases h
  | cons p r ih =>
    obtain ⟨k', v'⟩ := p
    rw [List.map_cons, List.nodup_cons] at hn
    unfold valV
    rw [List.find?_cons]
    rcases List.mem_cons.mp h with e | h
    · cases e
      simp
    · have hne : k' ≠ k := fun z => hn.1 (by rw [z]; exact List.mem_map.mpr ⟨_, h, rfl⟩)
      rw [show decide ((k', v').1 = k) = false from decide_eq_false hne]
      exact ih hn.2 h
open Classical in
/-- the data at a value -/
noncomputable def datOf (K : PySem.W.Frag) (H : Hp) (v : V) : PyData := if h : ∃ d, Da K H v d then Classical.choose h else .none
theorem datOf_eq {v : V} {d : PyData} (h : Da K H v d) : datOf K H v = d := by
  have hx : ∃ d, Da K H v d := ⟨d, h⟩
  unfold datOf
  rw [dif_pos hx]
  exact da_one _ _ _ (Classical.choose_spec hx) h
/-- the dict's own test, by keys and data -/
theorem all_kv {kvs : List (Key × V)} {ds : List (PyData × PyData)} (h : DaKv K H kvs ds) (q : PyData × PyData → Bool) : (kvs.all fun x => q (kD x.1, datOf K H x.2)) = ds.all q := by
  induction kvs generalizing ds with
  | nil =>
    cases h
    rfl
  | cons x r ih =>
    cases h with
    | @cons k v _ d ds' h1 h2 => rw [List.all_cons, List.all_cons, ih h2, datOf_eq h1]
end

section
variable {P : Program} {w : World} {K : PySem.W.Frag} {mg : Str → Option Value} {base : Heap} {T : List Addr}
theorem scFlags : FnScope ["thing"] ["thing"] (defScope s_are_flags) := ⟨rfl, rfl, rfl, by decide +kernel, rfl, by decide +kernel, by decide +kernel⟩
theorem ok_are_flags {f c : Addr} {fd : FuncData} (F : FunC K "are_flags" s_are_flags f fd c) (B : Bn mg) (D : DfP P w K mg base 5 "are_names" ["thing"] (spD K T areNames)) {t : Tok} (hc : mg "MOST_FLAGS" = some (.int 3 t)) : FnOk P w K mg base CX0 6 f fd ["thing"] (spD K T areFlags) := by
  refine F.ok scFlags spD_len (fun A outer s H vs Q E hr h => ?_)
  obtain ⟨v, d, rfl, hd, hs, hT, q⟩ := h
  refine ⟨_, pss_one (ps_ret (pe_and (pcall D hr pass0 rfl (pa_cons (pv 0) pa_nil)) (pe_one (pe_cmpR op_le (pe_callB call_len_seq rfl B.len PySem.boot_len (pa_cons (pv 0) pa_nil)) (pe_glob (v := .int 3) rfl hc ⟨_, rfl⟩) (nomark _))))), ?_⟩
  refine ⟨v, rfl, v, d, rfl, hd, hs, hT, fun H' g => ⟨_, rfl, ?_⟩⟩
  have q' : Q (.bl (areNames d && decide (lenT d ≤ 3))) H' := q H' g
  cases e : areNames d with
  | false =>
    rw [e] at q'
    exact iteF q'
  | true =>
    rw [e] at q'
    refine iteT ?_
    obtain ⟨ds, rfl⟩ : ∃ ds, d = .tuple ds := by
      cases d <;> first | exact ⟨_, rfl⟩ | cases e
    cases g.da hd with
    | @tup a xs _ hx hda =>
      have hl := daAll_len hda
      refine ⟨_, rfl, a, xs, rfl, Or.inr (Or.inl hx), _, _, rfl, rfl, ?_⟩
      have ez : decide ((xs.length : Int) ≤ 3) = decide (lenT (.tuple ds) ≤ 3) := by
        have z : lenT (.tuple ds) = ds.length := rfl
        rw [z, hl]
        exact decide_eq_decide.mpr (by omega)
      have q2 : Q (.bl (decide (lenT (.tuple ds) ≤ 3))) H' := q'
      rw [← ez] at q2
      exact q2
/-- the flags, a thing -/
def spF (K : PySem.W.Frag) (T : List Addr) (f : List PyData → PyData → Bool) : Sp := fun vs H Q _ => ∃ u v fs d, vs = [u, v] ∧ Da K H u (.tuple fs) ∧ (∀ f ∈ fs, ∃ s, f = PyData.str s) ∧ Da K H v d ∧ small d = true ∧ Tb T H ∧ ∀ H', Ge H H' → Q (.bl (f fs d)) H'
theorem spF_len {f : List PyData → PyData → Bool} : ∀ vs H Q E, spF K T f vs H Q E → vs.length = 2 := fun vs H Q E ⟨_, _, _, _, h, _⟩ => by rw [h]; rfl
abbrev nOutside : List Str := ["flags", "thing", "flag"]
theorem scOutside : FnScope nOutside ["flags", "thing"] (defScope s_are_outside) := ⟨rfl, rfl, rfl, by decide +kernel, rfl, by decide +kernel, by decide +kernel⟩
theorem ok_are_outside {f c Pt : Addr} {fd : FuncData} (F : FunC K "are_outside" s_are_outside f fd c) (B : Bn mg) (TB : TabB base mg c Pt) (hPt : Pt ∈ T) (D : DfP P w K mg base 5 "are_names" ["thing"] (spD K T areNames)) : FnOk P w K mg base CX0 6 f fd ["flags", "thing"] (spF K T areOutside) := by
  refine F.ok scOutside spF_len (fun A outer s H vs Q E hr h => ?_)
  obtain ⟨u, v, fs, d, rfl, hu, hfs, hd, hs, hT, q⟩ := h
  refine ⟨_, pss_one (ps_ret (pe_and (pcall D hr pass0 rfl (pa_cons (pv 1) pa_nil)) (pe_one (pe_allX (k := 0) (own := [("flag", 2)]) (hr.mono (by decide)) rfl B.all TB rfl scOutside.nd (gxs (N := nOutside) (sc := defScope s_are_outside) (by decide +kernel) rfl (by decide +kernel) rfl) (pi_tup (pv 1))
        (fun _ _ _ _ _ _ _ _ _ => pg_name (i := 2) scOutside.nd rfl (Or.inl rfl)) (fun _ _ _ _ _ _ _ _ _ => pts_nil) (fun _ _ _ _ _ _ _ _ r => pe_cmpR (op_inK (K := K) rfl) (pv 2) (pv 0) (by rfl)))))), ?_⟩
  refine ⟨v, rfl, v, d, rfl, hd, hs, hT, fun H' g => ⟨_, rfl, ?_⟩⟩
  cases e : areNames d with
  | false =>
    refine iteF ?_
    have z := q H' g
    have e1 : areOutside fs d = false := by
      cases d <;> first | rfl | (show (areNames _ && _) = false; rw [e]; rfl)
    rw [e1] at z
    exact z
  | true =>
    refine iteT ?_
    obtain ⟨ds, rfl⟩ : ∃ ds, d = .tuple ds := by
      cases d <;> first | exact ⟨_, rfl⟩ | cases e
    have q' : ∀ H', Ge H H' → Q (.bl (areNames (.tuple ds) && ds.all (memS fs))) H' := q
    rw [e] at q'
    cases g.da hd with
    | @tup a xs _ hx hda =>
      cases g.da hu with
      | @tup b ys _ hy hya =>
        refine rd_allT (memS fs) rfl hx hda ((g.tb hT) Pt hPt) (fun _ => rfl) (fun x d' H2 hm g2 hd' R hR => ?_) fun H2 g2 => q' H2 (g.trans g2)
        obtain ⟨s', rfl⟩ := names_strs e d' hm
        cases hd'
        obtain ⟨i1, i2, _⟩ := in_strs hya hfs
        refine ⟨_, rfl, _, rfl, b, ys, rfl, Or.inr (Or.inl (g2.rd (fun ps z => by cases z) hy)), rfl, i1, ?_⟩
        have z := hR H2 (Ge.refl _)
        rw [← i2 s'] at z
        exact z
abbrev nSettings : List Str := ["flags", "thing", "flag"]
theorem scSettings : FnScope nSettings ["flags", "thing"] (defScope s_are_settings) := ⟨rfl, rfl, rfl, by decide +kernel, rfl, by decide +kernel, by decide +kernel⟩
theorem ok_are_settings {f c Pt : Addr} {fd : FuncData} (F : FunC K "are_settings" s_are_settings f fd c) (B : Bn mg) (TB : TabB base mg c Pt) (hPt : Pt ∈ T) (D : DfP P w K mg base 1 "is_boolean" ["thing"] (spD K T isBoolD)) : FnOk P w K mg base CX0 3 f fd ["flags", "thing"] (spF K T areSettings) := by
  refine F.ok scSettings spF_len (fun A outer s H vs Q E hr h => ?_)
  obtain ⟨u, v, fs, d, rfl, hu, hfs, hd, hs, hT, q⟩ := h
  refine ⟨_, pss_cons (ps_if (pt_not (pt_val (pe_isi (pv 1) rfl B.isinstance rfl B.dict bt_dict))) (pss_one (ps_ret pe_bl)) pss_nil)
    (pss_one (ps_ret (pe_lockO (pe_allX (k := 1) (own := [("flag", 2)]) hr rfl B.all TB rfl scSettings.nd (gxs (N := nSettings) (sc := defScope s_are_settings) (by decide +kernel) rfl (by decide +kernel) rfl) (pi_keys (pv 1))
        (fun _ _ _ _ _ _ _ _ _ => pg_name (i := 2) scSettings.nd rfl (Or.inl rfl)) (fun _ _ _ _ _ _ _ _ _ => pts_nil)
        (fun _ _ _ _ _ _ _ _ r => pe_and (pe_cmpR (op_inK (K := K) rfl) (pv 2) (pv 0) (by rfl)) (pe_one (pcall D r pass0 rfl (pa_cons (pe_dget (hu_of r) (pv 1) (pv 2) (fun _ _ => rfl)) pa_nil)))))))), ?_⟩
  refine rd_tIsi rfl hd ⟨_, rfl, ?_⟩
  cases e : isTy "dict" d with
  | false =>
    refine iteT ?_
    have z := q H (Ge.refl H)
    have e1 : areSettings fs d = false := by
      cases d <;> first | rfl | simp [isTy, tyName] at e
    rw [e1] at z
    exact z
  | true =>
    refine iteF ?_
    obtain ⟨ds, rfl⟩ := isTy_dct e
    cases hd with
    | @dct a kvs _ hx hn hkv =>
      cases hu with
      | @tup b ys _ hy hya =>
        have hss : smallKv ds = true := (small_dct hs).2
        have q' : ∀ H', Ge H H' → Q (.bl (ds.all fun p => memS fs p.1 && isBoolD p.2)) H' := q
        refine rd_allDO (fun k v => (fun p : PyData × PyData => memS fs p.1 && isBoolD p.2) (kD k, datOf K H v)) rfl hx (hT Pt hPt) (fun _ => rfl) (fun od k v H2 hm g2 R hR => ?_) fun H2 g2 => ?_
        · obtain ⟨i1, _, _⟩ := in_strs hya hfs
          obtain ⟨d', hmd, hd'⟩ := daKv_mem hkv hm
          have hy2 : Rd H2 b (.tup ys) := g2.rd (fun ps z => by cases z) (rd_lock hx (fun o w z => by cases z) hy)
          refine ⟨_, rfl, _, rfl, b, ys, rfl, Or.inr (Or.inl hy2), flat_key k, i1, _, rfl, ?_⟩
          have z : ∀ H4, Ge H2 H4 → R (.bl (memS fs (kD k) && isBoolD (datOf K H v))) H4 := hR
          rw [datOf_eq hd', ← in_key hya hfs k] at z
          cases e2 : inV (kV k) ys with
          | false =>
            refine iteF ?_
            have z2 := z H2 (Ge.refl _)
            rw [e2] at z2
            exact z2
          | true =>
            refine iteT ?_
            have hlk : H2 a = some (.frz od (.dK kvs)) := g2.1 a _ upd_same fun ps z => by cases z
            have hd2 : Da K H2 v d' := g2.da (da_lock hx hkv hd' (Nat.le_of_lt (size_memKv hmd)))
            refine ⟨_, rfl, _, rfl, a, v, rfl, Or.inl ⟨kvs, k, Or.inr ⟨od, hlk⟩, rfl, (valV_nodup hn hm).symm⟩, v, d', rfl, hd2, (small_memKv hss hmd).2, g2.tb (tb_lock hx hT), fun H3 g3 => ?_⟩
            have z2 := z H3 g3
            rw [e2] at z2
            exact z2
        · have z := q' H2 g2
          rw [← all_kv hkv fun p => memS fs p.1 && isBoolD p.2] at z
          exact z
abbrev nCommands : List Str := ["flags", "thing", "name"]
theorem scCommands : FnScope nCommands ["flags", "thing"] (defScope s_are_commands) := ⟨rfl, rfl, rfl, by decide +kernel, rfl, by decide +kernel, by decide +kernel⟩
theorem ok_are_commands {f c Pt : Addr} {fd : FuncData} (F : FunC K "are_commands" s_are_commands f fd c) (B : Bn mg) (TB : TabB base mg c Pt) (hPt : Pt ∈ T) (D1 : DfP P w K mg base 3 "is_name" ["thing"] (spD K T isName)) (D2 : DfP P w K mg base 3 "are_settings" ["flags", "thing"] (spF K T areSettings))
    {t : Tok} (hc : mg "MOST_COMMANDS" = some (.int 8 t)) : FnOk P w K mg base CX0 5 f fd ["flags", "thing"] (spF K T areCommands) := by
  refine F.ok scCommands spF_len (fun A outer s H vs Q E hr h => ?_)
  obtain ⟨u, v, fs, d, rfl, hu, hfs, hd, hs, hT, q⟩ := h
  refine ⟨_, pss_cons (ps_if (PW.pt (pw_or (pt_not (pt_val (pe_isi (pv 1) rfl B.isinstance rfl B.dict bt_dict))) (pw_or1 (pt_cmpR op_gt (pe_callB call_lenDr rfl B.len PySem.boot_len (pa_cons (pv 1) pa_nil)) (pe_glob (v := .int 8) rfl hc ⟨_, rfl⟩) (nomark _))))) (pss_one (ps_ret pe_bl)) pss_nil)
    (pss_one (ps_ret (pe_lockO (pe_allX (k := 3) (own := [("name", 2)]) hr rfl B.all TB rfl scCommands.nd (gxs (N := nCommands) (sc := defScope s_are_commands) (by decide +kernel) rfl (by decide +kernel) rfl) (pi_keys (pv 1))
        (fun _ _ _ _ _ _ _ _ _ => pg_name (i := 2) scCommands.nd rfl (Or.inl rfl)) (fun _ _ _ _ _ _ _ _ _ => pts_nil)
        (fun _ _ _ _ _ _ _ _ r => pe_and (pcall D1 r pass0 rfl (pa_cons (pv 2) pa_nil)) (pe_one (pcall D2 r pass0 rfl (pa_cons (pv 0) (pa_cons (pe_dget (hu_of r) (pv 1) (pv 2) (fun _ _ => rfl)) pa_nil))))))))), ?_⟩
  refine rd_tIsi rfl hd ⟨_, rfl, ?_⟩
  cases e : isTy "dict" d with
  | false =>
    refine iteT (iteT ?_)
    have z := q H (Ge.refl H)
    have e1 : areCommands fs d = false := by
      cases d <;> first | rfl | simp [isTy, tyName] at e
    rw [e1] at z
    exact z
  | true =>
    refine iteF ?_
    obtain ⟨ds, rfl⟩ := isTy_dct e
    cases hd with
    | @dct a kvs _ hx hn hkv =>
      have hl := daKv_len hkv
      have hss : smallKv ds = true := (small_dct hs).2
      have q' : ∀ H', Ge H H' → Q (.bl (decide (ds.length ≤ 8) && ds.all fun p => isName p.1 && areSettings fs p.2)) H' := q
      refine ⟨_, rfl, a, kvs, rfl, hx, _, _, rfl, rfl, _, rfl, ?_⟩
      cases e1 : decide ((8 : Int) < (kvs.length : Int)) with
      | true =>
        refine iteT ?_
        have z := q' H (Ge.refl H)
        have e2 : decide (ds.length ≤ 8) = false := by
          have := of_decide_eq_true e1
          exact decide_eq_false (by omega)
        rw [e2] at z
        exact z
      | false =>
        refine iteF ?_
        have e2 : decide (ds.length ≤ 8) = true := by
          have := of_decide_eq_false e1
          exact decide_eq_true (by omega)
        rw [e2] at q'
        refine rd_allDO (fun k v => (fun p : PyData × PyData => isName p.1 && areSettings fs p.2) (kD k, datOf K H v)) rfl hx (hT Pt hPt) (fun _ => rfl) (fun od k v H2 hm g2 R hR => ?_) fun H2 g2 => ?_
        · obtain ⟨d', hmd, hd'⟩ := daKv_mem hkv hm
          have z : ∀ H4, Ge H2 H4 → R (.bl (isName (kD k) && areSettings fs (datOf K H v))) H4 := hR
          rw [datOf_eq hd'] at z
          have hT2 : Tb T H2 := g2.tb (tb_lock hx hT)
          obtain ⟨sm1, sm2⟩ := small_memKv hss hmd
          refine ⟨_, rfl, _, kD k, rfl, da_key k, sm1, hT2, fun H3 g3 => ⟨_, rfl, ?_⟩⟩
          cases e3 : isName (kD k) with
          | false =>
            refine iteF ?_
            have z2 := z H3 g3
            rw [e3] at z2
            exact z2
          | true =>
            refine iteT ?_
            rw [e3] at z
            have g23 := g2.trans g3
            have hlk : H3 a = some (.frz od (.dK kvs)) := g23.1 a _ upd_same fun ps z => by cases z
            have hd2 : Da K H3 v d' := g23.da (da_lock hx hkv hd' (Nat.le_of_lt (size_memKv hmd)))
            exact ⟨_, rfl, _, rfl, _, rfl, a, v, rfl, Or.inl ⟨kvs, k, Or.inr ⟨od, hlk⟩, rfl, (valV_nodup hn hm).symm⟩, u, v, fs, d', rfl, g23.da (da_lockA hx hu), hfs, hd2, sm2, g3.tb hT2, fun H4 g4 => z H4 (g3.trans g4)⟩
        · have z := q' H2 g2
          rw [← all_kv hkv fun p => isName p.1 && areSettings fs p.2] at z
          exact z
end
end Pr
set_option maxRecDepth 100000
set_option maxHeartbeats 2000000
namespace Pr
open PySem PySem.Spec PyProof.Rows L2 GxR Gx Rp Dl Pd Tx RZ

/-- a text among a dict's keys -/
def memC (cs : List (PyData × PyData)) : PyData → Bool
  | .str s => cs.any fun p => isS s p.1
  | _ => false
def cmdOk (cs : List (PyData × PyData)) : PyData → Bool
  | .none => true
  | m => isName m && memC cs m
def isBinding (fs : List PyData) (cs : List (PyData × PyData)) : PyData → Bool
  | .tuple [k, c, m] => isKeys k && areSettings fs c && cmdOk cs m
  | _ => false
def isTup : PyData → Bool
  | .tuple _ => true
  | _ => false
def itemsT : PyData → List PyData
  | .tuple ds => ds
  | _ => []
def areLayers (fs : List PyData) (cs : List (PyData × PyData)) : PyData → Bool
  | .tuple ls => decide (1 ≤ ls.length) && decide (ls.length ≤ 4) && ls.all isTup && decide ((ls.map lenT).sum ≤ 16) && ls.all fun l => (itemsT l).all (isBinding fs cs)
  | _ => false
def itemsD : PyData → List (PyData × PyData)
  | .dict ds => ds
  | _ => []
def isMap : PyData → Bool
  | .tuple [f, o, c, l, wt] => areFlags f && areOutside (itemsT f) o && areCommands (itemsT f) c && areLayers (itemsT f) (itemsD c) l && isWithin 1 1000 wt
  | _ => false
def fitsState (n : Nat) : PyData → Bool
  | .tuple ds => decide (ds.length = n) && ds.all isBoolD
  | _ => false
section
variable {K : PySem.W.Frag} {H : Hp}
theorem in_keys {kvs : List (Key × V)} {ds : List (PyData × PyData)} (h : DaKv K H kvs ds) (s : Str) : (valV kvs (Sum.inr s)).isSome = memC ds (.str s) := by
  induction kvs generalizing ds with
  | nil =>
    cases h
    rfl
  | cons p r ih =>
    cases h with
    | @cons k v _ d ds' h1 h2 =>
      have e : memC ((kD k, d) :: ds') (.str s) = (isS s (kD k) || memC ds' (.str s)) := rfl
      rw [e, ← ih h2]
      unfold valV
      rw [List.find?_cons]
      cases k with
      | inl i =>
        rw [show decide (((Sum.inl i : Key), v).1 = Sum.inr s) = false from decide_eq_false (fun z => by cases z)]
        rfl
      | inr x =>
        by_cases hx : x = s
        · subst hx
          simp [isS, kD]
        · rw [show decide (((Sum.inr x : Key), v).1 = Sum.inr s) = false from decide_eq_false (fun z => hx (by cases z; rfl))]
          have z : isS s (kD (Sum.inr x)) = false := by
            show (x == s) = false
            simpa using hx
          rw [z]
          rfl
end
section
variable {P : Program} {w : World} {K : PySem.W.Frag} {mg : Str → Option Value} {base : Heap} {T : List Addr}
/-- the flags, the commands, a thing -/
def spB (K : PySem.W.Frag) (T : List Addr) (f : List PyData → List (PyData × PyData) → PyData → Bool) : Sp := fun vs H Q _ => ∃ u c v fs cs d, vs = [u, c, v] ∧ Da K H u (.tuple fs) ∧ (∀ f ∈ fs, ∃ s, f = PyData.str s) ∧ Da K H c (.dict cs) ∧ Da K H v d ∧ small d = true ∧ Tb T H ∧ ∀ H', Ge H H' → Q (.bl (f fs cs d)) H'
theorem spB_len {f : List PyData → List (PyData × PyData) → PyData → Bool} : ∀ vs H Q E, spB K T f vs H Q E → vs.length = 3 := fun vs H Q E ⟨_, _, _, _, _, _, h, _⟩ => by rw [h]; rfl
abbrev nBinding : List Str := ["flags", "commands", "thing", "keys", "condition", "command"]
theorem scBinding : FnScope nBinding ["flags", "commands", "thing"] (defScope s_is_binding) := ⟨rfl, rfl, rfl, by decide +kernel, rfl, by decide +kernel, by decide +kernel⟩
theorem ok_is_binding {f c : Addr} {fd : FuncData} (F : FunC K "is_binding" s_is_binding f fd c) (B : Bn mg) (D1 : DfP P w K mg base 3 "is_keys" ["thing"] (spD K T isKeys)) (D2 : DfP P w K mg base 3 "are_settings" ["flags", "thing"] (spF K T areSettings)) (D3 : DfP P w K mg base 3 "is_name" ["thing"] (spD K T isName)) :
    FnOk P w K mg base CX0 4 f fd ["flags", "commands", "thing"] (spB K T isBinding) := by
  refine F.ok scBinding spB_len (fun A outer s H vs Q E hr h => ?_)
  obtain ⟨u, c, v, fs, cs, d, rfl, hu, hfs, hcm, hd, hs, hT, q⟩ := h
  refine ⟨_, pss_cons (ps_if (PW.pt (pw_or (pt_not (pt_val (pe_isi (pv 2) rfl B.isinstance rfl B.tuple bt_tuple))) (pw_or1 (pt_cmpR op_ne (pe_callB call_len_seq rfl B.len PySem.boot_len (pa_cons (pv 2) pa_nil)) pe_int (nomark _))))) (pss_one (ps_ret pe_bl)) pss_nil)
    (pss_cons (ps_asg (pv 2) (pg_tup rfl (pgs_cons (pg_name (i := 3) scBinding.nd rfl (Or.inl rfl)) (pgs_cons (pg_name (i := 4) scBinding.nd rfl (Or.inl rfl)) (pgs_cons (pg_name (i := 5) scBinding.nd rfl (Or.inl rfl)) pgs_nil)))))
    (pss_cons (ps_if (PW.pt (pw_or (pt_not (pt_val (pcall D1 hr pass0 rfl (pa_cons (pv 3) pa_nil)))) (pw_or1 (pt_not (pt_val (pcall D2 hr pass0 rfl (pa_cons (pv 0) (pa_cons (pv 4) pa_nil)))))))) (pss_one (ps_ret pe_bl)) pss_nil)
    (pss_one (ps_ret (pe_or (pe_cmp (pc_isN (pv 5)) rfl) (pe_one (pe_and (pcall D3 hr pass0 rfl (pa_cons (pv 5) pa_nil)) (pe_one (pe_cmp (pc_din (hu_of hr) (pv 5) (pv 1)) rfl))))))))), ?_⟩
  refine rd_tIsi rfl hd ⟨_, rfl, ?_⟩
  cases e : isTy "tuple" d with
  | false =>
    refine iteT (iteT ?_)
    have z := q H (Ge.refl H)
    have e1 : isBinding fs cs d = false := by
      cases d <;> first | rfl | simp [isTy, tyName] at e
    rw [e1] at z
    exact z
  | true =>
    refine iteF ?_
    obtain ⟨ds, rfl⟩ := isTy_tup e
    cases hd with
    | @tup a xs _ hx hda =>
      have hl := daAll_len hda
      have hss : smallAll ds = true := (small_tup hs).2
      refine ⟨_, rfl, a, xs, rfl, Or.inr (Or.inl hx), rfl, _, rfl, ?_⟩
      by_cases h3 : xs.length = 3
      · have e3 : (!decide (V.int (xs.length : Int) = V.int 3)) = false := by rw [h3]; rfl
        rw [e3]
        refine iteF ?_
        -- three items
        obtain ⟨x1, x2, x3, rfl⟩ : ∃ x1 x2 x3, xs = [x1, x2, x3] := by
          match xs, h3 with
          | [x1, x2, x3], _ => exact ⟨x1, x2, x3, rfl⟩
        cases hda with
        | @cons _ _ dk _ h1 t1 =>
          cases t1 with
          | @cons _ _ dc _ h2 t2 =>
            cases t2 with
            | @cons _ _ dm _ h3' t3 =>
              cases t3
              refine ⟨.ref a, rfl, a, _, rfl, Or.inl hx, rfl, _, _, rfl, _, _, rfl, _, _, rfl, rfl, ?_⟩
              have sm1 := small_mem hss (d := dk) (by simp)
              have sm2 := small_mem hss (d := dc) (by simp)
              have sm3 := small_mem hss (d := dm) (by simp)
              have q' : ∀ H', Ge H H' → Q (.bl (isKeys dk && areSettings fs dc && cmdOk cs dm)) H' := q
              refine ⟨_, rfl, _, dk, rfl, h1, sm1, hT, fun H1 g1 => ⟨_, rfl, ?_⟩⟩
              cases e4 : isKeys dk with
              | false =>
                refine iteT (iteT ?_)
                have z := q' H1 g1
                rw [e4] at z
                exact z
              | true =>
                refine iteF ?_
                refine ⟨_, rfl, _, rfl, u, _, fs, dc, rfl, g1.da hu, hfs, g1.da h2, sm2, g1.tb hT, fun H2 g2 => ⟨_, rfl, ?_⟩⟩
                have g12 := g1.trans g2
                cases e5 : areSettings fs dc with
                | false =>
                  refine iteT ?_
                  have z := q' H2 g12
                  rw [e4, e5] at z
                  exact z
                | true =>
                  refine iteF ?_
                  rw [e4, e5] at q'
                  refine ⟨_, rfl, _, rfl, ?_⟩
                  by_cases hn : x3 = V.non
                  · subst hn
                    cases h3'
                    exact iteT (q' H2 g12)
                  · rw [decide_eq_false hn]
                    refine iteF ?_
                    have q2 : ∀ H', Ge H H' → Q (.bl (isName dm && memC cs dm)) H' := fun H' g => by
                      have z := q' H' g
                      cases h3' <;> first | exact absurd rfl hn | exact z
                    refine ⟨_, rfl, _, dm, rfl, g12.da h3', sm3, g12.tb hT, fun H3 g3 => ⟨_, rfl, ?_⟩⟩
                    have g123 := g12.trans g3
                    have z := q2 H3 g123
                    cases e6 : isName dm with
                    | false =>
                      rw [e6] at z
                      exact iteF z
                    | true =>
                      refine iteT ?_
                      obtain ⟨sm, rfl⟩ := isName_str e6
                      cases h3'
                      cases g123.da hcm with
                      | @dct b kvs _ hb hnb hkb =>
                        refine ⟨_, rfl, _, rfl, b, _, rfl, Or.inl ⟨kvs, Sum.inr sm, hb, rfl, rfl⟩, ?_⟩
                        rw [in_keys hkb sm]
                        rw [e6] at z
                        exact z
      · have e3 : (!decide (V.int (xs.length : Int) = V.int 3)) = true := by
          rw [decide_eq_false (fun z => h3 (by
            have z' : (xs.length : Int) = 3 := V.int.inj z
            omega))]
          rfl
        rw [e3]
        refine iteT ?_
        have z := q H (Ge.refl H)
        have e1 : isBinding fs cs (.tuple ds) = false := by
          match ds, hl with
          | [], _ => rfl
          | [_], _ => rfl
          | [_, _], _ => rfl
          | [_, _, _], hl => exact absurd hl.symm h3
          | _ :: _ :: _ :: _ :: _, _ => rfl
        rw [e1] at z
        exact z
end
end Pr
set_option maxRecDepth 100000
set_option maxHeartbeats 2000000
namespace Pr
open PySem PySem.Spec PyProof.Rows L2 GxR Gx Rp Dl Pd Tx RZ
section
variable {P : Program} {w : World} {K : PySem.W.Frag} {mg : Str → Option Value} {base : Heap} {T : List Addr}
theorem isTup_ty (d : PyData) : isTy "tuple" d = isTup d := by cases d <;> rfl
abbrev nLayers : List Str := ["flags", "commands", "thing", "layer", "binding"]
theorem scLayers : FnScope nLayers ["flags", "commands", "thing"] (defScope s_are_layers) := ⟨rfl, rfl, rfl, by decide +kernel, rfl, by decide +kernel, by decide +kernel⟩
theorem ok_are_layers {f c Pt : Addr} {fd : FuncData} (F : FunC K "are_layers" s_are_layers f fd c) (B : Bn mg) (TB : TabB base mg c Pt) (hPt : Pt ∈ T) (D : DfP P w K mg base 4 "is_binding" ["flags", "commands", "thing"] (spB K T isBinding)) {t4 t16 : Tok} (hc4 : mg "MOST_LAYERS" = some (.int 4 t4)) (hc16 : mg "MOST_BINDINGS" = some (.int 16 t16)) :
    FnOk P w K mg base CX0 6 f fd ["flags", "commands", "thing"] (spB K T areLayers) := by
  refine F.ok scLayers spB_len (fun A outer s H vs Q E hr h => ?_)
  obtain ⟨u, c0, v, fs, cs, d, rfl, hu, hfs, hcm, hd, hs, hT, q⟩ := h
  refine ⟨_, pss_cons (ps_if (PW.pt (pw_or (pt_not (pt_val (pe_isi (pv 2) rfl B.isinstance rfl B.tuple bt_tuple))) (pw_or1 (pt_not (pt_chain op_le op_le pe_int (pe_callB call_len_seq rfl B.len PySem.boot_len (pa_cons (pv 2) pa_nil)) (pe_glob (v := .int 4) rfl hc4 ⟨_, rfl⟩)))))) (pss_one (ps_ret pe_bl)) pss_nil)
    (pss_cons (ps_if (pt_not (pt_val (pe_allX (k := 0) (own := [("layer", 3)]) (hr.mono (by decide)) rfl B.all TB rfl scLayers.nd (gxs (N := nLayers) (sc := defScope s_are_layers) (by decide +kernel) rfl (by decide +kernel) rfl) (pi_tup (pv 2))
        (fun _ _ _ _ _ _ _ _ _ => pg_name (i := 3) scLayers.nd rfl (Or.inl rfl)) (fun _ _ _ _ _ _ _ _ _ => pts_nil) (fun _ _ _ _ _ _ _ _ r => pe_isiK (K := K) rfl (pv 3) rfl B.isinstance rfl B.tuple bt_tuple)))) (pss_one (ps_ret pe_bl)) pss_nil)
    (pss_cons (ps_if (pt_cmpR op_gt (pe_sumX (k := 0) (own := [("layer", 3)]) (hr.mono (by decide)) rfl B.sum TB rfl scLayers.nd (gxs (N := nLayers) (sc := defScope s_are_layers) (by decide +kernel) rfl (by decide +kernel) rfl) (pi_tup (pv 2))
        (fun _ _ _ _ _ _ _ _ _ => pg_name (i := 3) scLayers.nd rfl (Or.inl rfl)) (fun _ _ _ _ _ _ _ _ _ => pts_nil) (fun _ _ _ _ _ _ _ _ r => pe_callB (call_lenK (K := K) rfl) rfl B.len PySem.boot_len (pa_cons (pv 3) pa_nil))) (pe_glob (v := .int 16) rfl hc16 ⟨_, rfl⟩) (nomark _)) (pss_one (ps_ret pe_bl)) pss_nil)
    (pss_cons (ps_for PassesOwn.never rfl (pi_tup (pv 2)) (pg_name (i := 3) scLayers.nd rfl (Or.inl rfl))
      (pss_one (ps_if (pt_not (pt_val (pe_allX (k := 4) (own := [("binding", 4)]) hr rfl B.all TB rfl scLayers.nd (gxs (N := nLayers) (sc := defScope s_are_layers) (by decide +kernel) rfl (by decide +kernel) rfl) (pi_tup (pv 3))
        (fun _ _ _ _ _ _ _ _ _ => pg_name (i := 4) scLayers.nd rfl (Or.inl rfl)) (fun _ _ _ _ _ _ _ _ _ => pts_nil) (fun _ _ _ _ _ _ _ _ r => pcall D r pass0 rfl (pa_cons (pv 0) (pa_cons (pv 1) (pa_cons (pv 4) pa_nil))))))) (pss_one (ps_ret pe_bl)) pss_nil)))
    (pss_one (ps_ret pe_bl))))), ?_⟩
  refine rd_tIsi rfl hd ⟨_, rfl, ?_⟩
  cases e : isTy "tuple" d with
  | false =>
    refine iteT (iteT ?_)
    have z := q H (Ge.refl H)
    have e1 : areLayers fs cs d = false := by
      cases d <;> first | rfl | simp [isTy, tyName] at e
    rw [e1] at z
    exact z
  | true =>
    refine iteF ?_
    obtain ⟨ls, rfl⟩ := isTy_tup e
    have hd0 := hd
    cases hd with
    | @tup a xs _ hx hda =>
      have hl := daAll_len hda
      have hss : smallAll ls = true := (small_tup hs).2
      have q' : ∀ H', Ge H H' → Q (.bl (decide (1 ≤ ls.length) && decide (ls.length ≤ 4) && ls.all isTup && decide ((ls.map lenT).sum ≤ 16) && ls.all fun l => (itemsT l).all (isBinding fs cs))) H' := q
      have ea : decide ((1 : Int) ≤ (xs.length : Int)) = decide (1 ≤ ls.length) := decide_eq_decide.mpr (by omega)
      have eb : decide ((xs.length : Int) ≤ 4) = decide (ls.length ≤ 4) := decide_eq_decide.mpr (by omega)
      refine ⟨_, rfl, a, xs, rfl, Or.inr (Or.inl hx), _, _, rfl, rfl, _, rfl, ?_⟩
      rw [ea]
      cases e1 : decide (1 ≤ ls.length) with
      | false =>
        refine iteF ⟨_, rfl, iteT ?_⟩
        have z := q' H (Ge.refl H)
        rw [e1] at z
        exact z
      | true =>
        refine iteT ⟨_, _, rfl, rfl, _, rfl, ?_⟩
        rw [eb]
        rw [e1] at q'
        cases e2 : decide (ls.length ≤ 4) with
        | false =>
          refine iteT ?_
          have z := q' H (Ge.refl H)
          rw [e2] at z
          exact z
        | true =>
          refine iteF ?_
          rw [e2] at q'
          have hlen : xs.length ≤ 4 := by
            have := of_decide_eq_true e2
            omega
          refine rd_allT isTup rfl hx hda (hT Pt hPt) (fun _ => rfl) (fun x d' H' hm g hd' R hR => rd_tIsi rfl hd' (by rw [isTup_ty]; exact hR H' (Ge.refl _))) fun H1 g1 => ⟨_, rfl, ?_⟩
          cases e3 : ls.all isTup with
          | false =>
            refine iteT ?_
            have z := q' H1 g1
            rw [e3] at z
            exact z
          | true =>
            refine iteF ?_
            rw [e3] at q'
            have tup : ∀ l ∈ ls, ∃ ds, l = PyData.tuple ds := fun l hm => by
              have z := List.all_eq_true.mp e3 l hm
              cases l <;> first | exact ⟨_, rfl⟩ | cases z
            have len5 : ∀ l ∈ ls, lenT l ≤ 100000 := fun l hm => by
              obtain ⟨ds, rfl⟩ := tup l hm
              exact (small_tup (small_mem hss hm)).1
            have em : ∀ l ∈ ls, min (lenT l) (2 ^ 24) = lenT l := fun l hm => Nat.min_eq_left (by have := len5 l hm; omega)
            have es : (ls.map fun l => min (lenT l) (2 ^ 24)) = ls.map lenT := List.map_congr_left em
            refine rd_sumT (fun l => min (lenT l) (2 ^ 24)) (fun l => Nat.min_le_right _ _) rfl (g1.rd (fun ps z => by cases z) hx) (by omega) (g1.daAll hda) ((g1.tb hT) Pt hPt) (fun _ => rfl) (fun x l H' hm g hd' R hR => ?_) fun H2 g2 => ?_
            · have z := hR H' (Ge.refl _)
              rw [em l hm] at z
              obtain ⟨ds, rfl⟩ := tup l hm
              cases hd' with
              | @tup b ys _ hy hya =>
                have el := daAll_len hya
                have ez : ((lenT (PyData.tuple ds) : Nat) : Int) = (ys.length : Int) := by
                  show ((ds.length : Nat) : Int) = _
                  rw [el]
                rw [ez] at z
                exact ⟨_, rfl, b, ys, rfl, Or.inr (Or.inl hy), z⟩
            · have g12 := g1.trans g2
              rw [es]
              refine ⟨_, _, rfl, rfl, _, rfl, ?_⟩
              have ec : decide ((16 : Int) < (((ls.map lenT).sum : Nat) : Int)) = !decide ((ls.map lenT).sum ≤ 16) := by
                by_cases hz : (ls.map lenT).sum ≤ 16
                · rw [decide_eq_true hz, decide_eq_false (by omega)]
                  rfl
                · rw [decide_eq_false hz, decide_eq_true (by omega)]
                  rfl
              rw [ec]
              cases e4 : decide ((ls.map lenT).sum ≤ 16) with
              | false =>
                refine iteT ?_
                have z := q' H2 g12
                rw [e4] at z
                exact z
              | true =>
                refine iteF ?_
                rw [e4] at q'
                have q2 : ∀ H', Ge H H' → Q (.bl (ls.all fun l => (itemsT l).all (isBinding fs cs))) H' := q'
                refine ⟨_, rfl, a, rfl, ⟨xs, Or.inl (g12.rd (fun ps z => by cases z) hx)⟩, for_tup (K := K) (a := a) (xs := xs) (fun i σ H' => Ge H H' ∧ (∃ l b, σ = [some u, some c0, some (.ref a), l, b]) ∧ ∀ k l, k < i → ls[k]? = some l → (itemsT l).all (isBinding fs cs) = true)
                  ⟨g12, ⟨_, _, rfl⟩, fun k l hk => absurd hk (Nat.not_lt_zero k)⟩ (fun i σ H' _ p => Or.inl (p.1.rd (fun ps z => by cases z) hx)) ?_ ?_⟩
                · rintro i x σ H' hi ⟨g, ⟨l0, b0, rfl⟩, hp⟩
                  obtain ⟨l, el, hdl⟩ := daAll_get hda hi
                  have hml := List.mem_of_getElem? el
                  obtain ⟨ds, rfl⟩ := tup l hml
                  have hdl' := g.da hdl
                  cases hdl' with
                  | @tup b ys _ hy hya =>
                    refine rd_allT (isBinding fs cs) rfl hy hya ((g.tb hT) Pt hPt) (fun _ => rfl) (fun x d' H3 hm g3 hd' R hR => ?_) fun H3 g3 => ⟨_, rfl, ?_⟩
                    · have gg := g.trans g3
                      exact ⟨_, rfl, _, rfl, _, rfl, u, c0, x, fs, cs, d', rfl, gg.da hu, hfs, gg.da hcm, hd', small_mem (small_tup (small_mem hss hml)).2 hm, gg.tb hT, hR⟩
                    · have gg := g.trans g3
                      cases e5 : ds.all (isBinding fs cs) with
                      | false =>
                        refine iteT ?_
                        have z := q2 H3 gg
                        have e6 : (ls.all fun l => (itemsT l).all (isBinding fs cs)) = false := by
                          rw [List.all_eq_false]
                          exact ⟨_, hml, by show ¬ (ds.all (isBinding fs cs) = true); rw [e5]; exact Bool.false_ne_true⟩
                        rw [e6] at z
                        exact z
                      | true =>
                        refine iteF ⟨gg, ⟨_, _, rfl⟩, fun k l hk hl' => ?_⟩
                        by_cases hki : k = i
                        · subst hki
                          rw [el] at hl'
                          cases hl'
                          exact e5
                        · exact hp k l (by omega) hl'
                · rintro σ H' ⟨g, _, hp⟩
                  have z := q2 H' g
                  have e6 : (ls.all fun l => (itemsT l).all (isBinding fs cs)) = true := List.all_eq_true.mpr fun l hm => by
                    obtain ⟨k, hk, ek⟩ := List.getElem_of_mem hm
                    exact hp k l (by omega) (by rw [List.getElem?_eq_getElem hk, ek])
                  rw [e6] at z
                  exact z
end
end Pr
set_option maxRecDepth 100000
set_option maxHeartbeats 2000000
namespace Pr
open PySem PySem.Spec PyProof.Rows L2 GxR Gx Rp Dl Pd Tx RZ
section
variable {P : Program} {w : World} {K : PySem.W.Frag} {mg : Str → Option Value} {base : Heap} {T : List Addr}
abbrev nMap : List Str := ["thing", "flags", "outside", "commands", "layers", "wait"]
theorem scMap : FnScope nMap ["thing"] (defScope s_is_map) := ⟨rfl, rfl, rfl, by decide +kernel, rfl, by decide +kernel, by decide +kernel⟩
theorem ok_is_map {f c : Addr} {fd : FuncData} (F : FunC K "is_map" s_is_map f fd c) (B : Bn mg) (D1 : DfP P w K mg base 6 "are_flags" ["thing"] (spD K T areFlags)) (D2 : DfP P w K mg base 6 "are_outside" ["flags", "thing"] (spF K T areOutside)) (D3 : DfP P w K mg base 5 "are_commands" ["flags", "thing"] (spF K T areCommands))
    (D4 : DfP P w K mg base 6 "are_layers" ["flags", "commands", "thing"] (spB K T areLayers)) (D5 : DfP P w K mg base 2 "is_within" ["thing", "least", "most"] (spWi K T)) {t : Tok} (hc : mg "LONGEST_WAIT" = some (.int 1000 t)) : FnOk P w K mg base CX0 7 f fd ["thing"] (spD K T isMap) := by
  refine F.ok scMap spD_len (fun A outer s H vs Q E hr h => ?_)
  obtain ⟨v, d, rfl, hd, hs, hT, q⟩ := h
  refine ⟨_, pss_cons (ps_if (PW.pt (pw_or (pt_not (pt_val (pe_isi (pv 0) rfl B.isinstance rfl B.tuple bt_tuple))) (pw_or1 (pt_cmpR op_ne (pe_callB call_len_seq rfl B.len PySem.boot_len (pa_cons (pv 0) pa_nil)) pe_int (nomark _))))) (pss_one (ps_ret pe_bl)) pss_nil)
    (pss_cons (ps_asg (pv 0) (pg_tup rfl (pgs_cons (pg_name (i := 1) scMap.nd rfl (Or.inl rfl)) (pgs_cons (pg_name (i := 2) scMap.nd rfl (Or.inl rfl)) (pgs_cons (pg_name (i := 3) scMap.nd rfl (Or.inl rfl)) (pgs_cons (pg_name (i := 4) scMap.nd rfl (Or.inl rfl)) (pgs_cons (pg_name (i := 5) scMap.nd rfl (Or.inl rfl)) pgs_nil)))))))
    (pss_one (ps_ret (pe_and (pcall D1 hr pass0 rfl (pa_cons (pv 1) pa_nil)) (pe_and (pcall D2 hr pass0 rfl (pa_cons (pv 1) (pa_cons (pv 2) pa_nil))) (pe_and (pcall D3 (hr.mono (by decide)) pass0 rfl (pa_cons (pv 1) (pa_cons (pv 3) pa_nil)))
      (pe_and (pcall D4 hr pass0 rfl (pa_cons (pv 1) (pa_cons (pv 3) (pa_cons (pv 4) pa_nil)))) (pe_one (pcall D5 (hr.mono (by decide)) pass0 rfl (pa_cons (pv 5) (pa_cons pe_int (pa_cons (pe_glob (v := .int 1000) rfl hc ⟨_, rfl⟩) pa_nil)))))))))))), ?_⟩
  refine rd_tIsi rfl hd ⟨_, rfl, ?_⟩
  cases e : isTy "tuple" d with
  | false =>
    refine iteT (iteT ?_)
    have z := q H (Ge.refl H)
    have e1 : isMap d = false := by
      cases d <;> first | rfl | simp [isTy, tyName] at e
    rw [e1] at z
    exact z
  | true =>
    refine iteF ?_
    obtain ⟨ds, rfl⟩ := isTy_tup e
    cases hd with
    | @tup a xs _ hx hda =>
      have hl := daAll_len hda
      have hss : smallAll ds = true := (small_tup hs).2
      refine ⟨_, rfl, a, xs, rfl, Or.inr (Or.inl hx), rfl, _, rfl, ?_⟩
      by_cases h5 : xs.length = 5
      · have e3 : (!decide (V.int (xs.length : Int) = V.int 5)) = false := by rw [h5]; rfl
        rw [e3]
        refine iteF ?_
        obtain ⟨x1, x2, x3, x4, x5, rfl⟩ : ∃ x1 x2 x3 x4 x5, xs = [x1, x2, x3, x4, x5] := by
          match xs, h5 with
          | [x1, x2, x3, x4, x5], _ => exact ⟨x1, x2, x3, x4, x5, rfl⟩
        cases hda with
        | @cons _ _ df _ h1 t1 =>
          cases t1 with
          | @cons _ _ dO _ h2 t2 =>
            cases t2 with
            | @cons _ _ dc _ h3 t3 =>
              cases t3 with
              | @cons _ _ dl _ h4 t4 =>
                cases t4 with
                | @cons _ _ dw _ h5' t5 =>
                  cases t5
                  refine ⟨.ref a, rfl, a, _, rfl, Or.inl hx, rfl, _, _, rfl, _, _, rfl, _, _, rfl, _, _, rfl, _, _, rfl, rfl, ?_⟩
                  have m1 := small_mem hss (d := df) (by simp)
                  have m2 := small_mem hss (d := dO) (by simp)
                  have m3 := small_mem hss (d := dc) (by simp)
                  have m4 := small_mem hss (d := dl) (by simp)
                  have m5 := small_mem hss (d := dw) (by simp)
                  have q' : ∀ H', Ge H H' → Q (.bl (areFlags df && areOutside (itemsT df) dO && areCommands (itemsT df) dc && areLayers (itemsT df) (itemsD dc) dl && isWithin 1 1000 dw)) H' := q
                  refine ⟨_, rfl, _, df, rfl, h1, m1, hT, fun H1 g1 => ⟨_, rfl, ?_⟩⟩
                  cases e1 : areFlags df with
                  | false =>
                    have z := q' H1 g1
                    rw [e1] at z
                    exact iteF z
                  | true =>
                    refine iteT ?_
                    rw [e1] at q'
                    obtain ⟨fs, rfl⟩ : ∃ fs, df = .tuple fs := by
                      cases df <;> first | exact ⟨_, rfl⟩ | cases e1
                    have hfs := flags_strs e1
                    have q2 : ∀ H', Ge H H' → Q (.bl (areOutside fs dO && areCommands fs dc && areLayers fs (itemsD dc) dl && isWithin 1 1000 dw)) H' := q'
                    refine ⟨_, rfl, _, rfl, _, _, fs, dO, rfl, g1.da h1, hfs, g1.da h2, m2, g1.tb hT, fun H2 g2 => ⟨_, rfl, ?_⟩⟩
                    have g12 := g1.trans g2
                    cases e2 : areOutside fs dO with
                    | false =>
                      have z := q2 H2 g12
                      rw [e2] at z
                      exact iteF z
                    | true =>
                      refine iteT ?_
                      rw [e2] at q2
                      refine ⟨_, rfl, _, rfl, _, _, fs, dc, rfl, g12.da h1, hfs, g12.da h3, m3, g12.tb hT, fun H3 g3 => ⟨_, rfl, ?_⟩⟩
                      have g123 := g12.trans g3
                      cases e3 : areCommands fs dc with
                      | false =>
                        have z := q2 H3 g123
                        rw [e3] at z
                        exact iteF z
                      | true =>
                        refine iteT ?_
                        rw [e3] at q2
                        obtain ⟨cs, rfl⟩ : ∃ cs, dc = .dict cs := by
                          cases dc <;> first | exact ⟨_, rfl⟩ | cases e3
                        have q3 : ∀ H', Ge H H' → Q (.bl (areLayers fs cs dl && isWithin 1 1000 dw)) H' := q2
                        refine ⟨_, rfl, _, rfl, _, rfl, _, _, _, fs, cs, dl, rfl, g123.da h1, hfs, g123.da h3, g123.da h4, m4, g123.tb hT, fun H4 g4 => ⟨_, rfl, ?_⟩⟩
                        have g4' := g123.trans g4
                        cases e4 : areLayers fs cs dl with
                        | false =>
                          have z := q3 H4 g4'
                          rw [e4] at z
                          exact iteF z
                        | true =>
                          refine iteT ?_
                          rw [e4] at q3
                          exact ⟨_, rfl, _, dw, 1, 1000, rfl, g4'.da h5', m5, g4'.tb hT, fun H5 g5 => q3 H5 (g4'.trans g5)⟩
      · have e3 : (!decide (V.int (xs.length : Int) = V.int 5)) = true := by
          rw [decide_eq_false (fun z => h5 (by
            have z' : (xs.length : Int) = 5 := V.int.inj z
            omega))]
          rfl
        rw [e3]
        refine iteT ?_
        have z := q H (Ge.refl H)
        have e1 : isMap (.tuple ds) = false := by
          match ds, hl with
          | [], _ => rfl
          | [_], _ => rfl
          | [_, _], _ => rfl
          | [_, _, _], _ => rfl
          | [_, _, _, _], _ => rfl
          | [_, _, _, _, _], hl => exact absurd hl.symm h5
          | _ :: _ :: _ :: _ :: _ :: _ :: _, _ => rfl
        rw [e1] at z
        exact z
/-- what is a keymap passes -/
def spCheck (K : PySem.W.Frag) (T : List Addr) : Sp := fun vs H Q _ => ∃ v d, vs = [v] ∧ Da K H v d ∧ small d = true ∧ isMap d = true ∧ Tb T H ∧ ∀ H', Ge H H' → Q .non H'
theorem scCheck : FnScope ["keymap"] ["keymap"] (defScope s_check_map) := ⟨rfl, rfl, rfl, by decide +kernel, rfl, by decide +kernel, by decide +kernel⟩
theorem ok_check_map {f c : Addr} {fd : FuncData} (F : FunC K "check_map" s_check_map f fd c) (D : DfP P w K mg base 7 "is_map" ["thing"] (spD K T isMap)) : FnOk P w K mg base CX0 8 f fd ["keymap"] (spCheck K T) := by
  refine F.ok scCheck (fun vs H Q E ⟨_, _, h, _⟩ => by rw [h]; rfl) (fun A outer s H vs Q E hr h => ?_)
  obtain ⟨v, d, rfl, hd, hs, hm, hT, q⟩ := h
  refine ⟨_, pss_one (ps_if (pt_not (pt_val (pcall D hr pass0 rfl (pa_cons (pv 0) pa_nil)))) (pss_one ps_never) pss_nil), ?_⟩
  refine ⟨v, rfl, v, d, rfl, hd, hs, hT, fun H' g => ⟨_, rfl, ?_⟩⟩
  rw [hm]
  exact iteF (q H' g)
end
end Pr
set_option maxRecDepth 100000
set_option maxHeartbeats 2000000
/-! The pen that a law draws with: spread, open, take, pick -/
namespace Pr
open PySem PySem.Spec PyProof.Rows L2 GxR Gx Rp Dl Pd Tx
/-- all stays but the pen -/
def GeP (p : Addr) (H H' : Hp) : Prop := (∀ a o, a ≠ p → H a = some o → (∀ ps, o ≠ .tbl ps) → H' a = some o) ∧ ∀ a, TabG H a → TabG H' a
section
variable {p : Addr} {H H' H1 H2 : Hp} {K : PySem.W.Frag} {T : List Addr}
theorem GeP.refl : GeP p H H := ⟨fun _ _ _ h _ => h, fun _ h => h⟩
theorem GeP.of (g : Ge H H') : GeP p H H' := ⟨fun a o _ h n => g.1 a o h n, g.2⟩
theorem GeP.trans (a : GeP p H H1) (b : GeP p H1 H2) : GeP p H H2 := ⟨fun x o q h n => b.1 x o q (a.1 x o q h n) n, fun x h => b.2 x (a.2 x h)⟩
theorem GeP.set {xs : List V} {o : HO} (h : H p = some (.lst xs)) : GeP p H (upd H p o) := ⟨fun a u q e _ => by rw [upd_ne q]; exact e, fun a ⟨ps, e, t⟩ => ⟨ps, by rw [upd_ne (fun z => by rw [z, h] at e; cases e)]; exact e, t⟩⟩
theorem GeP.tb (g : GeP p H H') (h : Tb T H) : Tb T H' := fun P hP => g.2 P (h P hP)
mutual
theorem da_mapN (fT : ∀ a xs, Rd H a (.tup xs) → Rd H' a (.tup xs)) (fD : ∀ a kvs, Rd H a (.dK kvs) → Rd H' a (.dK kvs)) : ∀ (d : PyData) (v : V), noL d = true → Da K H v d → Da K H' v d
  | .none, _, _, h => by cases h; exact .non
  | .bool b, _, _, h => by cases h; exact .bl b
  | .int i, _, _, h => by cases h; exact .int i
  | .str x, _, _, h => by cases h; exact .str x
  | .list ds, _, n, h => by cases n
  | .tuple ds, _, n, h => by
    cases h with
    | tup hs ha => exact .tup (fT _ _ hs) (daAll_mapN fT fD ds _ (by simpa only [noL] using n) ha)
  | .dict ds, _, n, h => by
    cases h with
    | dct hs hn ha => exact .dct (fD _ _ hs) hn (daKv_mapN fT fD ds _ (by simpa only [noL] using n) ha)
theorem daAll_mapN (fT : ∀ a xs, Rd H a (.tup xs) → Rd H' a (.tup xs)) (fD : ∀ a kvs, Rd H a (.dK kvs) → Rd H' a (.dK kvs)) : ∀ (ds : List PyData) (vs : List V), noLAll ds = true → DaAll K H vs ds → DaAll K H' vs ds
  | [], _, _, h => by cases h; exact .nil
  | d :: ds, _, n, h => by
    simp only [noLAll, Bool.and_eq_true] at n
    cases h with
    | cons h1 h2 => exact .cons (da_mapN fT fD d _ n.1 h1) (daAll_mapN fT fD ds _ n.2 h2)
theorem daKv_mapN (fT : ∀ a xs, Rd H a (.tup xs) → Rd H' a (.tup xs)) (fD : ∀ a kvs, Rd H a (.dK kvs) → Rd H' a (.dK kvs)) : ∀ (ds : List (PyData × PyData)) (kvs : List (Key × V)), noLKv ds = true → DaKv K H kvs ds → DaKv K H' kvs ds
  | [], _, _, h => by cases h; exact .nil
  | (dk, d) :: ds, _, n, h => by
    simp only [noLKv, Bool.and_eq_true] at n
    cases h with
    | cons h1 h2 => exact .cons (da_mapN fT fD d _ n.1 h1) (daKv_mapN fT fD ds _ n.2 h2)
end
theorem GeP.rd {a : Addr} {u : HO} {xs : List V} (g : GeP p H H') (hp : H p = some (.lst xs)) (n : ∀ ps, u ≠ .tbl ps) (n2 : ∀ ys, u ≠ .lst ys) (h : Rd H a u) : Rd H' a u := by
  have ne : a ≠ p := fun z => by
    subst z
    rcases h with h | ⟨o, h⟩ <;> rw [hp] at h
    · exact n2 _ (Option.some.inj h).symm
    · cases h
  rcases h with h | ⟨o, h⟩
  · exact Or.inl (g.1 a u ne h n)
  · exact Or.inr ⟨o, g.1 a _ ne h fun ps z => by cases z⟩
theorem GeP.dk {a : Addr} {kvs : List (Key × V)} {xs : List V} (g : GeP p H H') (hp : H p = some (.lst xs)) (h : H a = some (.dK kvs)) : H' a = some (.dK kvs) := g.1 a _ (fun z => by subst z; rw [hp] at h; cases h) h fun ps z => by cases z
theorem GeP.da {v : V} {d : PyData} {xs : List V} (g : GeP p H H') (hp : H p = some (.lst xs)) (n : noL d = true) (h : Da K H v d) : Da K H' v d := da_mapN (fun _ _ => g.rd hp (fun ps q => by cases q) fun ys q => by cases q) (fun _ _ => g.rd hp (fun ps q => by cases q) fun ys q => by cases q) d v n h
theorem GeP.daAll {vs : List V} {ds : List PyData} {xs : List V} (g : GeP p H H') (hp : H p = some (.lst xs)) (n : noLAll ds = true) (h : DaAll K H vs ds) : DaAll K H' vs ds := daAll_mapN (fun _ _ => g.rd hp (fun ps q => by cases q) fun ys q => by cases q) (fun _ _ => g.rd hp (fun ps q => by cases q) fun ys q => by cases q) ds vs n h
theorem GeP.daKv {vs : List (Key × V)} {ds : List (PyData × PyData)} {xs : List V} (g : GeP p H H') (hp : H p = some (.lst xs)) (n : noLKv ds = true) (h : DaKv K H vs ds) : DaKv K H' vs ds := daKv_mapN (fun _ _ => g.rd hp (fun ps q => by cases q) fun ys q => by cases q) (fun _ _ => g.rd hp (fun ps q => by cases q) fun ys q => by cases q) ds vs n h
end
/-- the pen at p, its cells at cc, behind at most a takes -/
def PenAt (H : Hp) (p cc : Addr) (a : Nat) : Prop := ∃ (ns : List Int) (i val : Int), H p = some (.lst [.ref cc, .int i, .int val]) ∧ H cc = some (.lst (ns.map V.int)) ∧ ns.length ≤ 63 ∧ 0 ≤ i ∧ i ≤ a
theorem PenAt.lst {H : Hp} {p cc : Addr} {a : Nat} (h : PenAt H p cc a) : ∃ xs, H p = some (.lst xs) := let ⟨_, _, _, h, _⟩ := h; ⟨_, h⟩
theorem PenAt.mono {H : Hp} {p cc : Addr} {a b : Nat} (h : PenAt H p cc a) (l : a ≤ b) : PenAt H p cc b := let ⟨ns, i, v, h1, h2, h3, h4, h5⟩ := h; ⟨ns, i, v, h1, h2, h3, h4, by omega⟩
theorem PenAt.ge {H H' : Hp} {p cc : Addr} {a : Nat} (h : PenAt H p cc a) (g : Ge H H') : PenAt H' p cc a := let ⟨ns, i, v, h1, h2, h3⟩ := h; ⟨ns, i, v, g.1 _ _ h1 (fun ps z => by cases z), g.1 _ _ h2 (fun ps z => by cases z), h3⟩
theorem PenAt.upd {H : Hp} {p cc d : Addr} {a : Nat} {o : HO} (h : PenAt H p cc a) (h1 : d ≠ p) (h2 : d ≠ cc) : PenAt (upd H d o) p cc a := let ⟨ns, i, v, q1, q2, h3⟩ := h; ⟨ns, i, v, by rw [upd_ne h1.symm]; exact q1, by rw [upd_ne h2.symm]; exact q2, h3⟩
theorem PenAt.fresh {H : Hp} {p cc d : Addr} {a : Nat} (h : PenAt H p cc a) (n : H d = none) : d ≠ p ∧ d ≠ cc := let ⟨ns, i, v, q1, q2, h3⟩ := h; ⟨(fun z => by rw [z, q1] at n; cases n), (fun z => by rw [z, q2] at n; cases n)⟩
/-- not known before -/
def Nw (H : Hp) (d : Addr) : Prop := (∀ o, H d = some o → ∃ ps, o = .tbl ps) ∧ ¬ TabG H d
theorem Nw.none {H : Hp} {d : Addr} (h : H d = none) : Nw H d := ⟨(fun o e => by rw [h] at e; cases e), (fun ⟨ps, e, _⟩ => by rw [h] at e; cases e)⟩
theorem GeP.nw {p d : Addr} {H H' : Hp} (g : GeP p H H') (h : H' d = none) (n : d ≠ p) : Nw H d := by
  refine ⟨fun o e => ?_, fun t => ?_⟩
  · cases o with
    | tbl ps => exact ⟨ps, rfl⟩
    | _ =>
      have z := g.1 d _ n e (fun ps z => by cases z)
      rw [h] at z
      cases z
  · obtain ⟨ps, e, _⟩ := g.2 d t
    rw [h] at e
    cases e
theorem GeP.upd {p d : Addr} {H H' : Hp} {o : HO} (g : GeP p H H') (hd : Nw H d) : GeP p H (upd H' d o) :=
  ⟨fun b u hb e n => by
      have : b ≠ d := fun z => by
        subst z
        obtain ⟨ps, q⟩ := hd.1 u e
        exact n ps q
      rw [upd_ne this]; exact g.1 b u hb e n, fun b tb => by
    obtain ⟨ps, e, w⟩ := g.2 b tb
    have : b ≠ d := fun z => by
      subst z
      exact hd.2 tb
    exact ⟨ps, by rw [upd_ne this]; exact e, w⟩⟩
theorem cell_ne {H : Hp} {p c d : Addr} {ns : List Int} {xs : List V} (h1 : H p = some (.lst (.ref d :: xs))) (h2 : H c = some (.lst (ns.map V.int))) : c ≠ p := fun z => by
  subst z
  rw [h1] at h2
  cases ns with
  | nil => cases h2
  | cons n r => cases h2
theorem ints_at {ns : List Int} {i : Int} (h0 : 0 ≤ i) (h1 : i < ns.length) : ∃ q ∈ ns, atI (ns.map V.int) i = some (.int q) := by
  obtain ⟨k, rfl⟩ := Int.eq_ofNat_of_zero_le h0
  have hk : k < ns.length := by omega
  refine ⟨ns[k], List.getElem_mem hk, atI_nat ?_⟩
  rw [List.getElem?_map, List.getElem?_eq_getElem hk]
  rfl
theorem mulb {a b A B : Int} (h1 : 0 ≤ a) (h2 : a ≤ A) (h3 : 0 ≤ b) (h4 : b ≤ B) : 0 ≤ a * b ∧ a * b ≤ A * B := ⟨Int.mul_nonneg h1 h3, Int.mul_le_mul h2 h4 h3 (Int.le_trans h1 h2)⟩
theorem modb (a : Int) {m : Int} (h : 0 < m) : 0 ≤ a % m ∧ a % m < m := ⟨Int.emod_nonneg _ (by omega), Int.emod_lt_of_pos _ h⟩
def primes : List Int := [2147483629, 2147483587, 2147483579, 2147483563, 2147483549, 2147483543, 2147483497, 2147483489] ++ [2147483477, 2147483423, 2147483399, 2147483353, 2147483323]
theorem prime_at (i : Int) : ∃ q : Int, atI (primes.map V.int) (i % 13) = some (.int q) ∧ 0 < q ∧ q < 2147483648 := by
  obtain ⟨h0, h1⟩ := modb i (m := 13) (by omega)
  obtain ⟨q, hq, e⟩ := ints_at (ns := primes) h0 (by show i % 13 < 13; exact h1)
  have all : ∀ q ∈ primes, 0 < q ∧ q < 2147483648 := by decide
  exact ⟨q, e, all q hq⟩
section
variable {P : Program} {w : World} {K : PySem.W.Frag} {mg : Str → Option Value} {base : Heap} {T : List Addr}
def vOne (c i q : Int) : Int := (c % 1000000007 * (2 * i + 69069) + i * 40503 + 977) ^ (3 : Int).toNat % q
def vTwo (c i q r : Int) : Int := (vOne c i q * (i + 3) + c % 65537 + 5) ^ (5 : Int).toNat % r
def spSpread : Sp := fun vs H Q _ => ∃ c i : Int, vs = [.int c, .int i] ∧ 0 ≤ i ∧ i ≤ 1000000 ∧ ∀ H' r, Ge H H' → Q (.int r) H'
abbrev nSpread : List Str := ["_law_cell", "_law_at", "_law_primes", "_law_one", "_law_two", "_law_three"]
theorem scSpread : FnScope nSpread ["_law_cell", "_law_at"] (defScope s_law_spread) := ⟨rfl, rfl, rfl, by decide +kernel, rfl, by decide +kernel, by decide +kernel⟩
theorem cmul_l {i j : Int} (h : 0 ≤ i ∧ i ≤ 18446744073709551615) : CMul i j := Or.inl ⟨by omega, by omega⟩
theorem cmul_r {i j : Int} (h : 0 ≤ j ∧ j ≤ 18446744073709551615) : CMul i j := Or.inr ⟨by omega, by omega⟩
theorem cpow {i j : Int} (h : 0 ≤ i ∧ i ≤ 18446744073709551615) (hj : 0 ≤ j ∧ j ≤ 1000) : CPow i j := ⟨hj.1, by omega, by omega⟩
theorem ok_law_spread {f c : Addr} {fd : FuncData} (F : FunC K "_law_spread" s_law_spread f fd c) : FnOk P w K mg base CX0 1 f fd ["_law_cell", "_law_at"] spSpread := by
  refine F.ok scSpread (fun vs H Q E ⟨_, _, h, _⟩ => by rw [h]; rfl) (fun A outer s H vs Q E hr h => ?_)
  obtain ⟨c, i, rfl, hi0, hi1, q⟩ := h
  refine ⟨_, pss_cons (ps_if (pt_cmpR op_ge (pv 0) (pe_op op_pow pe_int pe_int) (nomark _)) (pss_one (ps_ret (pv 0))) pss_nil)
    (pss_cons (ps_asg (pe_lst (pa_cons pe_int (pa_cons pe_int (pa_cons pe_int (pa_cons pe_int (pa_cons pe_int (pa_cons pe_int (pa_cons pe_int (pa_cons pe_int pa_nil))))))))) (pg_name (i := 2) scSpread.nd rfl (Or.inl rfl)))
    (pss_cons (ps_asg (pe_op op_cat (pv 2) (pe_lst (pa_cons pe_int (pa_cons pe_int (pa_cons pe_int (pa_cons pe_int (pa_cons pe_int pa_nil))))))) (pg_name (i := 2) scSpread.nd rfl (Or.inl rfl)))
    (pss_cons (ps_asg (pe_op op_mod (pe_op op_pow (pe_op op_add (pe_op op_add (pe_op op_mul (pe_op op_mod (pv 0) pe_int) (pe_op op_add (pe_op op_mul pe_int (pv 1)) pe_int)) (pe_op op_mul (pv 1) pe_int)) pe_int) pe_int) (pe_ix ix_list (pv 2) (pe_op op_mod (pv 1) pe_int) (fun _ _ => rfl))) (pg_name (i := 3) scSpread.nd rfl (Or.inl rfl)))
    (pss_cons (ps_asg (pe_op op_mod (pe_op op_pow (pe_op op_add (pe_op op_add (pe_op op_mul (pv 3) (pe_op op_add (pv 1) pe_int)) (pe_op op_mod (pv 0) pe_int)) pe_int) pe_int) (pe_ix ix_list (pv 2) (pe_op op_mod (pe_op op_add (pv 1) pe_int) pe_int) (fun _ _ => rfl))) (pg_name (i := 4) scSpread.nd rfl (Or.inl rfl)))
    (pss_cons (ps_asg (pe_op op_mod (pe_op op_pow (pe_op op_add (pe_op op_add (pv 4) (pe_op op_mod (pv 3) pe_int)) (pv 1)) pe_int) (pe_ix ix_list (pv 2) (pe_op op_mod (pe_op op_add (pv 1) pe_int) pe_int) (fun _ _ => rfl))) (pg_name (i := 5) scSpread.nd rfl (Or.inl rfl)))
    (pss_one (ps_ret (pe_op op_add (pe_op op_mul (pe_op op_add (pe_op op_mul (pv 3) pe_int) (pv 4)) pe_int) (pv 5)))))))))
    , ?_⟩
  refine ⟨_, rfl, _, _, rfl, rfl, cpow ⟨by decide, by decide⟩ ⟨by decide, by decide⟩, _, _, rfl, rfl, _, rfl, ite2 (fun _ => ⟨_, rfl, q H c (Ge.refl H)⟩) fun _ => ?_⟩
  refine ⟨by decide, fun l1 h1 => ⟨_, rfl, by decide, fun l2 h2 => ?_⟩⟩
  have g1 : Ge H (upd H l1 (.lst ([2147483629, 2147483587, 2147483579, 2147483563, 2147483549, 2147483543, 2147483497, 2147483489].map V.int))) := Ge.new h1
  refine ⟨l1, l2, [2147483629, 2147483587, 2147483579, 2147483563, 2147483549, 2147483543, 2147483497, 2147483489].map V.int, _, rfl, rfl, (Ge.new h2).1 _ _ upd_same (fun ps z => by cases z), upd_same, by decide, fun l3 h3 => ?_⟩
  have g2 := g1.trans (Ge.new (o := .lst ([2147483477, 2147483423, 2147483399, 2147483353, 2147483323].map V.int)) h2)
  have g3 := g2.trans (Ge.new (o := .lst (primes.map V.int)) h3)
  obtain ⟨m1, m1'⟩ := modb c (m := 1000000007) (by omega)
  obtain ⟨q1, e1, p1, p1'⟩ := prime_at i
  have b1 := mulb m1 (show c % 1000000007 ≤ 1000000006 by omega) (show 0 ≤ 2 * i + 69069 by omega) (show 2 * i + 69069 ≤ 3000000 by omega)
  have x1 : 0 ≤ c % 1000000007 * (2 * i + 69069) + i * 40503 + 977 ∧ c % 1000000007 * (2 * i + 69069) + i * 40503 + 977 ≤ 18446744073709551615 := ⟨by omega, by omega⟩
  refine ⟨_, rfl, _, _, rfl, rfl, by show (0 : Int) < 1000000007; decide, _, rfl, _, _, rfl, rfl, cmul_l ⟨by decide, by decide⟩, _, _, rfl, rfl, _, _, rfl, rfl, cmul_l ⟨m1, by omega⟩, _, rfl, _, _, rfl, rfl, cmul_r ⟨by decide, by decide⟩, _, _, rfl, rfl, _, _, rfl, rfl, _, _, rfl, rfl, cpow x1 ⟨by decide, by decide⟩,
    _, rfl, _, rfl, _, _, rfl, rfl, by show (0 : Int) < 13; decide, l3, _, _, _, rfl, rfl, SqL.of upd_same, e1, _, _, rfl, rfl, p1, ?_⟩
  obtain ⟨o0, o1⟩ := modb ((c % 1000000007 * (2 * i + 69069) + i * 40503 + 977) ^ 3) p1
  change 0 ≤ vOne c i q1 at o0
  change vOne c i q1 < q1 at o1
  have o2 : vOne c i q1 ≤ 18446744073709551615 := by omega
  obtain ⟨q2, e2, p2, p2'⟩ := prime_at (i + 5)
  have b2 := mulb o0 (show vOne c i q1 ≤ 2147483647 by omega) (show 0 ≤ i + 3 by omega) (show i + 3 ≤ 1000003 by omega)
  obtain ⟨m2, m2'⟩ := modb c (m := 65537) (by omega)
  have x2 : 0 ≤ (vOne c i q1) * (i + 3) + c % 65537 + 5 ∧ (vOne c i q1) * (i + 3) + c % 65537 + 5 ≤ 18446744073709551615 := ⟨by omega, by omega⟩
  refine ⟨_, rfl, _, rfl, _, _, rfl, rfl, _, _, rfl, rfl, cmul_l ⟨o0, o2⟩, _, rfl, _, _, rfl, rfl, by show (0 : Int) < 65537; decide, _, _, rfl, rfl, _, _, rfl, rfl, _, _, rfl, rfl, cpow x2 ⟨by decide, by decide⟩,
    _, rfl, _, rfl, _, _, rfl, rfl, _, _, rfl, rfl, by show (0 : Int) < 13; decide, l3, _, _, _, rfl, rfl, SqL.of upd_same, e2, _, _, rfl, rfl, p2, ?_⟩
  obtain ⟨t0, t1⟩ : 0 ≤ vTwo c i q1 q2 ∧ vTwo c i q1 q2 < q2 := modb _ p2
  obtain ⟨q3, e3, p3, p3'⟩ := prime_at (i + 7)
  obtain ⟨m3, m3'⟩ := modb (vOne c i q1) (m := 1009) (by omega)
  have x3 : 0 ≤ vTwo c i q1 q2 + (vOne c i q1) % 1009 + i ∧ vTwo c i q1 q2 + (vOne c i q1) % 1009 + i ≤ 18446744073709551615 := ⟨by omega, by omega⟩
  refine ⟨_, rfl, _, rfl, _, _, rfl, rfl, by show (0 : Int) < 1009; decide, _, _, rfl, rfl, _, rfl, _, _, rfl, rfl, _, _, rfl, rfl, cpow x3 ⟨by decide, by decide⟩,
    _, rfl, _, rfl, _, _, rfl, rfl, _, _, rfl, rfl, by show (0 : Int) < 13; decide, l3, _, _, _, rfl, rfl, SqL.of upd_same, e3, _, _, rfl, rfl, p3, ?_⟩
  refine ⟨_, rfl, _, _, rfl, rfl, cmul_r ⟨by decide, by decide⟩, _, rfl, _, _, rfl, rfl, _, _, rfl, rfl, cmul_r ⟨by decide, by decide⟩, _, rfl, _, _, rfl, rfl, q _ _ g3⟩
end
end Pr
set_option maxRecDepth 100000
set_option maxHeartbeats 2000000
namespace Pr
open PySem PySem.Spec PyProof.Rows L2 GxR Gx Rp Dl Pd Tx
theorem Ge.upd {H H1 : Hp} {a : Addr} {o : HO} (g : Ge H H1) (h : H a = none) : Ge H (upd H1 a o) :=
  ⟨fun b u e n => by rw [upd_ne (ne_of_none e h)]; exact g.1 b u e n, fun b t => by
    obtain ⟨ps, e, w⟩ := g.2 b t
    obtain ⟨qs, e', w'⟩ := t
    exact ⟨ps, by rw [upd_ne (ne_of_none e' h)]; exact e, w⟩⟩
theorem cut_ints (ns : List Int) (lo hi : Option Int) : cutV (ns.map V.int) lo hi = ((ns.drop (HT.sIx ns.length 0 lo)).take (HT.sIx ns.length ns.length hi - HT.sIx ns.length 0 lo)).map V.int := by
  unfold cutV
  rw [List.length_map, List.map_take, List.map_drop]
def cellsOf (ns : List Int) : List Int := (ns.drop (HT.sIx ns.length 0 none)).take (HT.sIx ns.length ns.length (some 12) - HT.sIx ns.length 0 none)
def restOf (ns : List Int) : List Int := (ns.drop (HT.sIx ns.length 0 (some 12))).take (HT.sIx ns.length ns.length (some 63) - HT.sIx ns.length 0 (some 12))
theorem cells_len (ns : List Int) : (cellsOf ns).length = min 12 ns.length := by
  have e := HT.sIx_nat ns.length ns.length 12
  have e' : HT.sIx ns.length ns.length (some 12) = min 12 ns.length := e
  unfold cellsOf
  rw [e', HT.sIx_none, List.drop_zero, List.length_take]
  omega
theorem rest_len (ns : List Int) : (restOf ns).length ≤ ns.length - 12 := by
  have e := HT.sIx_nat ns.length 0 12
  have e' : HT.sIx ns.length 0 (some 12) = min 12 ns.length := e
  unfold restOf
  rw [e', List.length_take, List.length_drop]
  omega
section
variable {P : Program} {w : World} {K : PySem.W.Frag} {mg : Str → Option Value} {base : Heap} {T : List Addr}
def spOpen (K : PySem.W.Frag) : Sp := fun vs H Q _ => ∃ (a : Addr) (ns : List Int), vs = [.ref a] ∧ SqL K H a (ns.map V.int) ∧ ns.length ≤ 63 ∧ ∀ H' p cc, Ge H H' → PenAt H' p cc 0 → Q (.ref p) H'
abbrev nOpen : List Str := ["_law_script", "_law_cells", "_law_k", "_law_cell"]
theorem scOpen : FnScope nOpen ["_law_script"] (defScope s_law_open) := ⟨rfl, rfl, rfl, by decide +kernel, rfl, by decide +kernel, by decide +kernel⟩
theorem ok_law_open {f c : Addr} {fd : FuncData} (F : FunC K "_law_open" s_law_open f fd c) (B : Bn mg) : FnOk P w K mg base CX0 1 f fd ["_law_script"] (spOpen K) := by
  refine F.ok scOpen (fun vs H Q E ⟨_, _, h, _⟩ => by rw [h]; rfl) (fun A outer s H vs Q E hr h => ?_)
  obtain ⟨a, ns, rfl, hs, hl, q⟩ := h
  refine ⟨_, pss_cons (ps_asg (pe_callTy call_list_of rfl B.list bt_list (pa_cons (pe_slice sl_list (pv 0) po_none (po_some pe_int)) pa_nil)) (pg_name (i := 1) scOpen.nd rfl (Or.inl rfl)))
    (pss_cons (ps_for PassesOwn.never rfl (pi_enum rfl B.enumerate (pa_cons (pe_slice sl_list (pv 0) (po_some pe_int) (po_some pe_int)) pa_nil)) (pg_tup rfl (pgs_cons (pg_name (i := 2) scOpen.nd rfl (Or.inl rfl)) (pgs_cons (pg_name (i := 3) scOpen.nd rfl (Or.inl rfl)) pgs_nil)))
      (pss_one (ps_asg (pe_op op_add (pe_ix ix_list (pv 1) (pe_op op_mod (pv 2) pe_int) (fun _ _ => rfl)) (pv 3)) (pg_sub (pv 1) (pe_op op_mod (pv 2) pe_int) set_list))))
    (pss_one (ps_ret (pe_lst (pa_cons (pv 1) (pa_cons pe_int (pa_cons pe_int pa_nil))))))), ?_⟩
  refine ⟨_, rfl, 12, rfl, a, _, rfl, hs, fun l0 h0 => ⟨l0, _, rfl, Or.inl (SqL.of upd_same), fun l h => ?_⟩⟩
  have e1 : cutV (ns.map V.int) none (some 12) = (cellsOf ns).map V.int := cut_ints ns none (some 12)
  have e2 : cutV (ns.map V.int) (some 12) (some 63) = (restOf ns).map V.int := cut_ints ns (some 12) (some 63)
  rw [e1] at h ⊢
  have ga := Ge.new (H := H) (o := .lst ((cellsOf ns).map V.int)) h0
  have gb := ga.trans (Ge.new (o := .lst ((cellsOf ns).map V.int)) h)
  have hl0 : H l = none := by
    rcases hz : H l with _ | o
    · rfl
    · by_cases e : l = l0
      · rw [e, upd_same] at h
        cases h
      · rw [upd_ne e, hz] at h
        cases h
  refine ⟨_, rfl, 12, rfl, 63, rfl, a, _, rfl, gb.sqL hs, fun r hr => ⟨r, _, rfl, SqL.of upd_same, ?_⟩⟩
  rw [e2]
  have hrl : r ≠ l := fun z => by
    rw [z, upd_same] at hr
    cases hr
  have hr0 : H r = none := by
    rw [upd_ne hrl] at hr
    by_cases e : r = l0
    · rw [e, upd_same] at hr
      cases hr
    · rw [upd_ne e] at hr
      exact hr
  refine for_it (n := (restOf ns).length) (List.length_map (as := restOf ns) V.int ▸ walk_enum (xs := (restOf ns).map V.int)) (fun i σ H' => Ge H H' ∧ H' r = some (.lst ((restOf ns).map V.int)) ∧ (∃ cs : List Int, H' l = some (.lst (cs.map V.int)) ∧ cs.length = min 12 ns.length) ∧ ∃ x y, σ = [some (.ref a), some (.ref l), x, y])
    ⟨gb.trans (Ge.new hr), upd_same, ⟨cellsOf ns, by rw [upd_ne hrl.symm]; exact upd_same, cells_len ns⟩, _, _, rfl⟩ (fun i σ H' _ p => SqL.of p.2.1) ?_ ?_
  · rintro i x σ H1 H2 hi ⟨g, k1, ⟨cs, k2, k3⟩, x0, y0, rfl⟩ ⟨t, u, v, rfl, ht, rfl, eu, ev⟩
    cases eu
    have hi' := hi
    have hn : 12 < ns.length := by
      have := rest_len ns
      omega
    have hc12 : cs.length = 12 := by omega
    obtain ⟨m0, m1⟩ := modb (i : Int) (m := 12) (by omega)
    obtain ⟨q0, _, eq0⟩ := ints_at (ns := cs) m0 (by omega)
    have lt : l ≠ t := ne_of_none k2 ht
    have k2' : (upd H1 t (.tup [.int (i : Nat), v])) l = some (.lst (cs.map V.int)) := by rw [upd_ne lt]; exact k2
    obtain ⟨y, hy⟩ : ∃ y : Int, v = .int y := by
      change ((restOf ns).map V.int)[i]? = some v at ev
      rw [List.getElem?_map] at ev
      cases z : (restOf ns)[i]? with
      | none => rw [z] at ev; cases ev
      | some y => rw [z] at ev; exact ⟨y, (Option.some.inj ev).symm⟩
    subst hy
    refine ⟨t, _, rfl, SqT.of upd_same, rfl, _, _, rfl, _, _, rfl, rfl, ?_⟩
    refine ⟨_, rfl, _, rfl, _, _, rfl, rfl, by show (0 : Int) < 12; decide, l, _, _, _, rfl, rfl, SqL.of k2', eq0, _, rfl, _, _, rfl, rfl, ?_⟩
    have hx : ixN (cs.map V.int).length ((i : Int) % 12) = some ((i : Int) % 12).toNat := by
      unfold ixN
      rw [if_pos m0, if_pos (by rw [List.length_map]; omega)]
    refine ⟨_, rfl, _, rfl, _, _, rfl, rfl, by show (0 : Int) < 12; decide, l, _, _, _, rfl, rfl, k2', hx, ?_⟩
    refine ⟨Ge.upd (g.trans (Ge.new ht)) hl0, ?_, ⟨cs.set ((i : Int) % 12).toNat (q0 + y), ?_, by rw [List.length_set]; exact k3⟩, _, _, rfl⟩
    · rw [upd_ne hrl, upd_ne (ne_of_none k1 ht)]
      exact k1
    · rw [upd_same, List.map_set]
  · rintro σ H1 ⟨g, k1, ⟨cs, k2, k3⟩, x0, y0, rfl⟩
    refine ⟨_, rfl, by show 3 ≤ sizeLine; decide, fun p hp => ?_⟩
    exact q _ p l (g.trans (Ge.new hp)) ⟨cs, 0, 0, upd_same, by rw [upd_ne (ne_of_none k2 hp)]; exact k2, by omega, by omega, by omega⟩
end
end Pr
set_option maxRecDepth 100000
set_option maxHeartbeats 2000000
namespace Pr
open PySem PySem.Spec PyProof.Rows L2 GxR Gx Rp Dl Pd Tx
theorem seq_of {t u : TS} {D : Ends} {σ : L2.St} {H : Hp} (M : L2.St → Hp → Prop) (h1 : ∀ D' : Ends, (∀ σ' H', M σ' H' → D'.nx σ' H') → t D' σ H) (h2 : ∀ σ' H', M σ' H' → u D σ' H') : tSeq t u D σ H := h1 _ h2
theorem seq_set {u : TS} {D : Ends} {σ : L2.St} {H : Hp} {v : V} {i : Nat} (h : u D (σ.set i (some v)) H) : tSeq (tAsg (tC v) (gName i)) u D σ H := h
section
variable {P : Program} {w : World} {K : PySem.W.Frag} {mg : Str → Option Value} {base : Heap} {T : List Addr}
def spTake : Sp := fun vs H Q _ => ∃ (p cc : Addr) (m : Int) (a : Nat), vs = [.ref p, .int m] ∧ PenAt H p cc a ∧ a ≤ 100000 ∧ 0 < m ∧ m < 1073741824 ∧ ∀ H' r, GeP p H H' → PenAt H' p cc (a + 1) → 0 ≤ r → r < m → Q (.int r) H'
abbrev nTake : List Str := ["_law_pen", "_law_amount", "_law_at", "_law_cell", "_law_found"]
theorem scTake : FnScope nTake ["_law_pen", "_law_amount"] (defScope s_law_take) := ⟨rfl, rfl, rfl, by decide +kernel, rfl, by decide +kernel, by decide +kernel⟩
theorem ok_law_take {f c : Addr} {fd : FuncData} (F : FunC K "_law_take" s_law_take f fd c) (B : Bn mg) (D : DfP P w K mg base 1 "_law_spread" ["_law_cell", "_law_at"] spSpread) : FnOk P w K mg base CX0 2 f fd ["_law_pen", "_law_amount"] spTake := by
  refine F.ok scTake (fun vs H Q E ⟨_, _, _, _, h, _⟩ => by rw [h]; rfl) (fun A outer s H vs Q E hr h => ?_)
  obtain ⟨p, cc, m, a, rfl, hp, ha, hm, hm2, q⟩ := h
  refine ⟨_, pss_cons (ps_if (pt_cmpR op_lt (pe_ix ix_list (pv 0) pe_int (fun _ _ => rfl)) (pv 1) (nomark _))
      (pss_cons (ps_asg (pe_ix ix_list (pv 0) pe_int (fun _ _ => rfl)) (pg_name (i := 2) scTake.nd rfl (Or.inl rfl)))
      (pss_cons (ps_asg pe_int (pg_name (i := 3) scTake.nd rfl (Or.inl rfl)))
      (pss_cons (ps_if (pt_cmpR op_lt (pv 2) (pe_callB call_len_seq rfl B.len PySem.boot_len (pa_cons (pe_ix ix_list (pv 0) pe_int (fun _ _ => rfl)) pa_nil)) (nomark _))
          (pss_one (ps_asg (pe_ix ix_list (pe_ix ix_list (pv 0) pe_int (fun _ _ => rfl)) (pv 2) (fun _ _ => rfl)) (pg_name (i := 3) scTake.nd rfl (Or.inl rfl))))
          (pss_one (ps_if (pt_cmpR op_gt (pe_callB call_len_seq rfl B.len PySem.boot_len (pa_cons (pe_ix ix_list (pv 0) pe_int (fun _ _ => rfl)) pa_nil)) pe_int (nomark _))
            (pss_one (ps_asg (pe_op op_mod (pe_ix ix_list (pe_ix ix_list (pv 0) pe_int (fun _ _ => rfl)) (pe_op op_mod (pe_op op_add (pe_op op_mul (pv 2) pe_int) pe_int) (pe_callB call_len_seq rfl B.len PySem.boot_len (pa_cons (pe_ix ix_list (pv 0) pe_int (fun _ _ => rfl)) pa_nil))) (fun _ _ => rfl)) (pe_op op_add (pe_op op_pow pe_int pe_int) (pv 2))) (pg_name (i := 3) scTake.nd rfl (Or.inl rfl))))
            pss_nil)))
      (pss_cons (ps_asg (pe_op op_add (pv 2) pe_int) (pg_sub (pv 0) pe_int set_list))
      (pss_one (ps_asg (pcall D hr pass0 rfl (pa_cons (pv 3) (pa_cons (pv 2) pa_nil))) (pg_sub (pv 0) pe_int set_list))))))) pss_nil)
    (pss_cons (ps_asg (pe_op op_mod (pe_ix ix_list (pv 0) pe_int (fun _ _ => rfl)) (pv 1)) (pg_name (i := 4) scTake.nd rfl (Or.inl rfl)))
    (pss_cons (ps_asg (pe_op op_fdiv (pe_ix ix_list (pv 0) pe_int (fun _ _ => rfl)) (pv 1)) (pg_sub (pv 0) pe_int set_list))
    (pss_one (ps_ret (pv 4))))), ?_⟩
  obtain ⟨ns, i, val, hp1, hc, hn, hi0, hi1⟩ := hp
  refine seq_of (fun σ' H1 => GeP p H H1 ∧ (∃ (ns : List Int) (i val : Int), H1 p = some (.lst [.ref cc, .int i, .int val]) ∧ H1 cc = some (.lst (ns.map V.int)) ∧ ns.length ≤ 63 ∧ 0 ≤ i ∧ i ≤ (a + 1 : Nat)) ∧ ∃ x y z, σ' = [some (.ref p), some (.int m), x, y, z]) (fun D' hD => ?_) ?_
  · refine ⟨_, rfl, p, _, _, _, rfl, rfl, SqL.of hp1, atI_nat (j := 2) rfl, _, rfl, _, _, rfl, rfl, _, rfl, ?_⟩
    refine ite2 (fun _ => ?_) fun _ => hD _ _ ⟨GeP.refl, ⟨ns, i, val, hp1, hc, hn, hi0, by omega⟩, _, _, _, rfl⟩
    refine ⟨_, rfl, p, _, _, _, rfl, rfl, SqL.of hp1, atI_nat (j := 1) rfl, ?_⟩
    dsimp only [gName]
    refine seq_set (seq_of (fun σ' H1 => H1 = H ∧ ∃ x : Int, σ' = [some (.ref p), some (.int m), some (.int i), some (.int x), none]) (fun D' hD => ?_) ?_)
    · refine ⟨_, rfl, _, rfl, p, _, _, _, rfl, rfl, SqL.of hp1, atI_nat (j := 0) rfl, cc, _, rfl, Or.inl (SqL.of hc), _, _, rfl, rfl, _, rfl, ?_⟩
      rw [List.length_map]
      refine ite2 (fun z => ?_) fun z => ?_
      · have hlt := of_decide_eq_true z
        obtain ⟨x, _, ex⟩ := ints_at hi0 hlt
        exact ⟨_, rfl, p, _, _, _, rfl, rfl, SqL.of hp1, atI_nat (j := 0) rfl, _, rfl, cc, _, _, _, rfl, rfl, SqL.of hc, ex, hD _ _ ⟨rfl, x, rfl⟩⟩
      · refine ⟨_, rfl, p, _, _, _, rfl, rfl, SqL.of hp1, atI_nat (j := 0) rfl, cc, _, rfl, Or.inl (SqL.of hc), _, _, rfl, rfl, _, rfl, ?_⟩
        rw [List.length_map]
        refine ite2 (fun z => ?_) fun z => hD _ _ ⟨rfl, 0, rfl⟩
        have hpos : (0 : Int) < ns.length := of_decide_eq_true z
        obtain ⟨m0, m1⟩ := modb (i * 5 + 3) hpos
        obtain ⟨x, _, ex⟩ := ints_at m0 m1
        refine ⟨_, rfl, p, _, _, _, rfl, rfl, SqL.of hp1, atI_nat (j := 0) rfl, _, rfl, _, _, rfl, rfl, cmul_r ⟨by decide, by decide⟩, _, _, rfl, rfl, _, rfl, p, _, _, _, rfl, rfl, SqL.of hp1, atI_nat (j := 0) rfl, cc, _, rfl, Or.inl (SqL.of hc), ?_⟩
        rw [List.length_map]
        refine ⟨_, _, rfl, rfl, hpos, cc, _, _, _, rfl, rfl, SqL.of hc, ex, _, _, rfl, rfl, cpow ⟨by decide, by decide⟩ ⟨by decide, by decide⟩, _, rfl, _, _, rfl, rfl, _, _, rfl, rfl, ?_, hD _ _ ⟨rfl, _, rfl⟩⟩
        have : (0 : Int) < 10 ^ (17 : Int).toNat := by decide
        show (0 : Int) < 10 ^ (17 : Int).toNat + i
        omega
    · rintro σ' H1 ⟨rfl, x, rfl⟩
      refine ⟨_, rfl, _, _, rfl, rfl, _, rfl, p, _, 1, 1, rfl, rfl, hp1, rfl, ?_⟩
      have hcp := cell_ne hp1 hc
      have g0 : GeP p H1 (upd H1 p (.lst [.ref cc, .int (i + 1), .int val])) := GeP.set hp1
      refine ⟨_, rfl, _, rfl, x, i, rfl, hi0, by omega, fun H2 r g => ⟨_, rfl, p, _, 2, 2, rfl, rfl, g.1 p _ upd_same (fun ps z => by cases z), rfl, hD _ _ ⟨?_, ⟨ns, i + 1, r, upd_same, ?_, hn, by omega, by omega⟩, _, _, _, rfl⟩⟩⟩
      · exact g0.trans ((GeP.of g).trans (GeP.set (g.1 p _ upd_same (fun ps z => by cases z))))
      · rw [upd_ne hcp]
        exact g.1 cc _ (by rw [upd_ne hcp]; exact hc) (fun ps z => by cases z)
  · rintro σ' H1 ⟨g, ⟨ns, i, val, hp1, hc, hn, hi0, hi1⟩, x, y, z, rfl⟩
    refine ⟨_, rfl, p, _, _, _, rfl, rfl, SqL.of hp1, atI_nat (j := 2) rfl, _, rfl, _, _, rfl, rfl, hm, ?_⟩
    refine ⟨_, rfl, p, _, _, _, rfl, rfl, SqL.of hp1, atI_nat (j := 2) rfl, _, rfl, _, _, rfl, rfl, ⟨hm, hm2⟩, _, rfl, p, _, 2, 2, rfl, rfl, hp1, rfl, ?_⟩
    obtain ⟨m0, m1⟩ := modb val hm
    exact ⟨_, rfl, q _ _ (g.trans (GeP.set hp1)) ⟨ns, i, val / m, upd_same, by rw [upd_ne (cell_ne hp1 hc)]; exact hc, hn, hi0, hi1⟩ m0 m1⟩
end
end Pr
set_option maxRecDepth 100000
set_option maxHeartbeats 2000000
namespace Pr
open PySem PySem.Spec PyProof.Rows L2 GxR Gx Rp Dl Pd Tx
theorem any_at {α : Type} {xs : List α} {i : Int} (h0 : 0 ≤ i) (h1 : i < xs.length) : ∃ v ∈ xs, atI xs i = some v := by
  obtain ⟨k, rfl⟩ := Int.eq_ofNat_of_zero_le h0
  have hk : k < xs.length := by omega
  exact ⟨xs[k], List.getElem_mem hk, atI_nat (List.getElem?_eq_getElem hk)⟩
section
variable {P : Program} {w : World} {K : PySem.W.Frag} {mg : Str → Option Value} {base : Heap} {T : List Addr}
/-- what is picked from: a list that is tracked, a text -/
def PickL (H : Hp) (p : Addr) (x : V) (ok : V → Prop) : Prop := ∃ b xs, x = .ref b ∧ b ≠ p ∧ H b = some (.lst xs) ∧ 0 < xs.length ∧ xs.length ≤ 100000 ∧ ∀ v ∈ xs, ok v
def PickS (x : V) (ok : V → Prop) : Prop := ∃ z : Str, x = .str z ∧ 0 < z.length ∧ z.length ≤ 100000 ∧ ∀ c ∈ z.cps.toList, ok (.str ⟨#[c]⟩)
def spPick : Sp := fun vs H Q _ => ∃ (p cc : Addr) (x : V) (a : Nat) (ok : V → Prop), vs = [.ref p, x] ∧ PenAt H p cc a ∧ a ≤ 100000 ∧ (PickL H p x ok ∨ PickS x ok) ∧ ∀ H' v, GeP p H H' → PenAt H' p cc (a + 1) → ok v → Q v H'
abbrev nPick : List Str := ["_law_pen", "_law_some"]
theorem scPick : FnScope nPick ["_law_pen", "_law_some"] (defScope s_law_one_of) := ⟨rfl, rfl, rfl, by decide +kernel, rfl, by decide +kernel, by decide +kernel⟩
theorem ok_law_one_of {f c : Addr} {fd : FuncData} (F : FunC K "_law_one_of" s_law_one_of f fd c) (B : Bn mg) (D : DfP P w K mg base 2 "_law_take" ["_law_pen", "_law_amount"] spTake) : FnOk P w K mg base CX0 3 f fd ["_law_pen", "_law_some"] spPick := by
  refine F.ok scPick (fun vs H Q E ⟨_, _, _, _, _, h, _⟩ => by rw [h]; rfl) (fun A outer s H vs Q E hr h => ?_)
  obtain ⟨p, cc, x, a, ok, rfl, hp, ha, hx, q⟩ := h
  refine ⟨_, pss_one (ps_ret (pe_ix ix_seq (pv 1) (pcall D hr pass0 rfl (pa_cons (pv 0) (pa_cons (pe_callB (call_len_seq.or call_len_str) rfl B.len PySem.boot_len (pa_cons (pv 1) pa_nil)) pa_nil))) (fun _ _ => rfl))), ?_⟩
  rcases hx with ⟨b, xs, rfl, hb, hH, h0, h1, hok⟩ | ⟨z, rfl, h0, h1, hok⟩
  · refine ⟨_, rfl, _, rfl, _, rfl, Or.inl ⟨b, xs, rfl, Or.inl (SqL.of hH), p, cc, _, a, rfl, hp, ha, by omega, by omega, fun H' r g hp' r0 r1 => ?_⟩⟩
    obtain ⟨v, hv, e⟩ := any_at r0 r1
    exact Or.inl ⟨b, xs, r, v, rfl, rfl, SqL.of (g.1 b _ hb hH (fun ps z => by cases z)), e, q H' v g hp' (hok v hv)⟩
  · have hs : z.length ≤ sizeLine := Nat.le_trans h1 (by decide)
    refine ⟨_, rfl, _, rfl, _, rfl, Or.inr ⟨z, rfl, hs, p, cc, _, a, rfl, hp, ha, by omega, by omega, fun H' r g hp' r0 r1 => ?_⟩⟩
    obtain ⟨c, hc, e⟩ := any_at (xs := z.cps.toList) r0 (by simpa [Str.length] using r1)
    exact Or.inr (Or.inr ⟨z, r, c, rfl, rfl, hs, e, q H' _ g hp' (hok c hc)⟩)
end
end Pr
set_option maxRecDepth 100000
set_option maxHeartbeats 2000000
namespace Pr
open PySem PySem.Spec PyProof.Rows L2 GxR Gx Rp Dl Pd Tx
/-- a dict of some of the flags, with a boolean each -/
def Eff (H : Hp) (v : V) (fl : List Str) : Prop := ∃ d kvs, v = .ref d ∧ H d = some (.dK kvs) ∧ (kvs.map (·.1)).Nodup ∧ (∀ kv ∈ kvs, ∃ f b, kv = (.inr f, .bl b) ∧ f ∈ fl) ∧ kvs.length ≤ fl.length
theorem putK_app {kvs : List (Key × V)} {k : Key} {v : V} (h : k ∉ kvs.map (·.1)) : putK kvs k v = kvs ++ [(k, v)] := by
  unfold putK
  rw [if_neg]
  intro z
  obtain ⟨kv, hm, e⟩ := List.any_eq_true.mp z
  exact h (List.mem_map.mpr ⟨kv, hm, of_decide_eq_true e⟩)
theorem take_fresh {α : Type} {fl : List α} {i : Nat} {x : α} (hn : fl.Nodup) (h : fl[i]? = some x) : x ∉ fl.take i := by
  intro hm
  obtain ⟨k, hk, e⟩ := List.getElem_of_mem hm
  rw [List.length_take] at hk
  rw [List.getElem_take] at e
  obtain ⟨hi, ei⟩ := List.getElem?_eq_some_iff.mp h
  exact (List.pairwise_iff_getElem.mp hn) k i (by omega) hi (by omega) (e.trans ei.symm)
section
variable {P : Program} {w : World} {K : PySem.W.Frag} {mg : Str → Option Value} {base : Heap} {T : List Addr}
def spEffect (K : PySem.W.Frag) : Sp := fun vs H Q _ => ∃ (p cc t : Addr) (a : Nat) (fl : List Str), vs = [.ref p, .ref t] ∧ PenAt H p cc a ∧ a + 3 ≤ 100000 ∧ Rd H t (.tup (fl.map V.str)) ∧ fl.Nodup ∧ fl.length ≤ 3 ∧ ∀ H' v, GeP p H H' → PenAt H' p cc (a + 3) → Eff H' v fl → Q v H'
abbrev nEffect : List Str := ["_law_pen", "_law_flags", "_law_found", "_law_flag", "_law_way"]
end
end Pr
set_option maxRecDepth 100000
set_option maxHeartbeats 2000000
namespace Pr
open PySem PySem.Spec PyProof.Rows L2 GxR Gx Rp Dl Pd Tx
section
variable {P : Program} {w : World} {K : PySem.W.Frag} {mg : Str → Option Value} {base : Heap} {T : List Addr}
def isCh (c : Nat) : Bool := decide (97 ≤ c) && decide (c ≤ 122)
/-- a text of letters to pick from -/
def LetS (z : Str) : Prop := 0 < z.length ∧ z.length ≤ 100 ∧ letters z = true
def spKeys : Sp := fun vs H Q _ => ∃ (p cc : Addr) (a : Nat) (z : Str), vs = [.ref p, .str z] ∧ PenAt H p cc a ∧ a + 5 ≤ 100000 ∧ LetS z ∧ ∀ H' x, GeP p H H' → PenAt H' p cc (a + 5) → 1 ≤ x.length → x.length ≤ 4 → letters x = true → Q (.str x) H'
abbrev nKeys : List Str := ["_law_pen", "_law_letters", "_law_size", "_law_k"]
theorem scLKeys : FnScope nKeys ["_law_pen", "_law_letters"] (defScope s_law_draw_keys) := ⟨rfl, rfl, rfl, by decide +kernel, rfl, by decide +kernel, by decide +kernel⟩
theorem joinL_nil : ∀ cs : List Nat, TL.joinL [] (cs.map fun c => [c]) = cs
  | [] => rfl
  | [c] => rfl
  | c :: e :: r => by
    show [c] ++ ([] ++ TL.joinL [] ((e :: r).map fun c => [c])) = c :: e :: r
    rw [joinL_nil (e :: r)]
    rfl
theorem join_signs (cs : List Nat) : (Txt.join (Str.ofString "") (cs.map fun c => (⟨#[c]⟩ : Str))).cps.toList = cs := by
  rw [TL.join_eq]
  have h := TL.tl_join (Str.ofString "") (cs.map fun c => (⟨#[c]⟩ : Str))
  have e : (cs.map fun c => (⟨#[c]⟩ : Str)).map TL.tl = cs.map fun c => [c] := by
    rw [List.map_map]
    rfl
  rw [e] at h
  have e2 : TL.tl (Str.ofString "") = [] := rfl
  rw [e2, joinL_nil] at h
  exact h
theorem ok_law_draw_keys {f c : Addr} {fd : FuncData} (F : FunC K "_law_draw_keys" s_law_draw_keys f fd c) (B : Bn mg) (D : DfP P w K mg base 3 "_law_one_of" ["_law_pen", "_law_some"] spPick) : FnOk P w K mg base CX0 4 f fd ["_law_pen", "_law_letters"] spKeys := by
  refine F.ok scLKeys (fun vs H Q E ⟨_, _, _, _, h, _⟩ => by rw [h]; rfl) (fun A outer s H vs Q E hr h => ?_)
  obtain ⟨p, cc, a, z, rfl, hp, ha, ⟨hz1, hz2, hz3⟩, q⟩ := h
  refine ⟨_, pss_cons (ps_asg (pcall D hr pass0 rfl (pa_cons (pv 0) (pa_cons (pe_lst (pa_cons pe_int (pa_cons pe_int (pa_cons pe_int (pa_cons pe_int (pa_cons pe_int (pa_cons pe_int (pa_cons pe_int (pa_cons pe_int pa_nil))))))))) pa_nil))) (pg_name (i := 2) scLKeys.nd rfl (Or.inl rfl)))
    (pss_one (ps_ret (pe_join pe_str (pe_lc (own := [("_law_k", 3)]) (g := gName 3) (tt := tYes) rfl scLKeys.nd (pi_range1 rfl B.range (pa_cons (pv 2) pa_nil)) (blkOk_by (N := nKeys) (sc := defScope s_law_draw_keys) (by decide +kernel)) (fun _ _ _ _ _ => pg_name (i := 3) scLKeys.nd rfl (Or.inl rfl)) (fun _ _ _ _ _ => pts_nil)
      (fun _ _ _ _ _ => pcall D hr pass0 rfl (pa_cons (pv 0) (pa_cons (pv 1) pa_nil))))))), ?_⟩
  refine ⟨_, rfl, by decide, fun l hl => ⟨p, cc, _, a, fun v => ∃ n : Nat, v = .int n ∧ 1 ≤ n ∧ n ≤ 4, rfl, hp.ge (Ge.new hl), by omega, Or.inl ⟨l, _, rfl, (hp.fresh hl).1, upd_same, by decide, by decide, ?_⟩, fun H1 v g1 hp1 ⟨n, e, n1, n4⟩ => ?_⟩⟩
  · intro v hv
    have e : [V.int 1, V.int 1, V.int 2, V.int 2, V.int 2, V.int 3, V.int 3, V.int 4] = ([1, 1, 2, 2, 2, 3, 3, 4] : List Nat).map (fun n : Nat => V.int (n : Int)) := rfl
    rw [e] at hv
    obtain ⟨n, hn, rfl⟩ := List.mem_map.mp hv
    refine ⟨n, rfl, ?_⟩
    simp at hn
    omega
  · subst e
    have g1' := (GeP.of (p := p) (Ge.new hl)).trans g1
    refine ⟨⟨_, rfl⟩, _, rfl, (n : Int), rfl, by omega, by omega, fun L hL => ?_⟩
    rw [Int.toNat_natCast]
    have hLp := hp1.fresh hL
    have hnw := g1'.nw hL hLp.1
    refine lc_range (lo := 0) (n := n) (fun i H' => i ≤ n ∧ GeP p H H' ∧ PenAt H' p cc (a + 1 + i) ∧ ∃ cs : List Nat, H' L = some (.lst ((cs.map fun c => (⟨#[c]⟩ : Str)).map V.str)) ∧ cs.length = i ∧ ∀ c ∈ cs, isCh c = true)
      ⟨Nat.zero_le _, g1'.upd hnw, hp1.upd hLp.1 hLp.2, [], upd_same, rfl, fun c hc => by cases hc⟩ ?_ ?_
    · rintro i H2 hi ⟨_, g2, hp2, cs, k1, k2, k3⟩
      refine ⟨rfl, _, rfl, _, rfl, p, cc, _, a + 1 + i, fun v => ∃ c, v = .str ⟨#[c]⟩ ∧ isCh c = true, rfl, hp2, by omega, Or.inr ⟨z, rfl, hz1, by omega, fun c hc => ⟨c, rfl, List.all_eq_true.mp hz3 c hc⟩⟩, fun H3 v g3 hp3 ⟨c, e, hc⟩ => ?_⟩
      subst e
      have k1' := g3.1 L _ hLp.1 k1 (fun ps z => by cases z)
      refine ⟨_, k1', ?_, hi, (g2.trans g3).upd hnw, hp3.upd hLp.1 hLp.2, cs ++ [c], ?_, ?_, ?_⟩
      · rw [List.length_map, List.length_map, k2]
        exact Nat.lt_of_lt_of_le hi (Nat.le_trans n4 (by decide))
      · rw [upd_same, List.map_append, List.map_append]
        rfl
      · rw [List.length_append, k2]
        rfl
      · intro e he
        rcases List.mem_append.mp he with he | he
        · exact k3 e he
        · rw [List.mem_singleton.mp he]
          exact hc
    · rintro H2 ⟨_, g2, hp2, cs, k1, k2, k3⟩
      have el : (Txt.join (Str.ofString "") (cs.map fun c => (⟨#[c]⟩ : Str))).length = n := by
        rw [← k2]
        show (Txt.join (Str.ofString "") (cs.map fun c => (⟨#[c]⟩ : Str))).cps.size = cs.length
        rw [← Array.length_toList, join_signs]
      refine ⟨Str.ofString "", L, cs.map fun c => (⟨#[c]⟩ : Str), rfl, rfl, Or.inl (SqL.of k1), ?_, q H2 _ g2 (hp2.mono (by omega)) (by omega) (by omega) ?_⟩
      · have e1 : ((cs.map fun c => (⟨#[c]⟩ : Str)).map (·.length)).sum = cs.length := by
          rw [List.map_map]
          have : ((fun x : Str => x.length) ∘ fun c : Nat => (⟨#[c]⟩ : Str)) = fun _ => 1 := rfl
          rw [this, List.map_const', List.sum_replicate_nat]
          simp
        have e2 : (Str.ofString "").length = 0 := rfl
        rw [e1, e2]
        omega
      · unfold letters
        rw [join_signs]
        exact List.all_eq_true.mpr k3
end
end Pr
set_option maxRecDepth 100000
set_option maxHeartbeats 2000000
namespace Pr
open PySem PySem.Spec PyProof.Rows L2 GxR Gx Rp Dl Pd Tx
theorem Eff.gp {p : Addr} {H H' : Hp} {v : V} {fl : List Str} {xs : List V} (e : Eff H v fl) (g : GeP p H H') (hp : H p = some (.lst xs)) : Eff H' v fl := let ⟨d, kvs, e1, e2, e3⟩ := e; ⟨d, kvs, e1, g.dk hp e2, e3⟩
theorem Eff.ge {H H' : Hp} {v : V} {fl : List Str} (e : Eff H v fl) (g : Ge H H') : Eff H' v fl := let ⟨d, kvs, e1, e2, e3⟩ := e; ⟨d, kvs, e1, g.dk e2, e3⟩
/-- a binding -/
def Bnd (H : Hp) (v : V) (fl ns : List Str) : Prop := ∃ b x c m, v = .ref b ∧ H b = some (.tup [.str x, c, m]) ∧ 1 ≤ x.length ∧ x.length ≤ 4 ∧ letters x = true ∧ Eff H c fl ∧ (m = .non ∨ ∃ n ∈ ns, m = .str n)
theorem Bnd.gp {p : Addr} {H H' : Hp} {v : V} {fl ns : List Str} {xs : List V} (e : Bnd H v fl ns) (g : GeP p H H') (hp : H p = some (.lst xs)) : Bnd H' v fl ns := let ⟨b, x, c, m, e1, e2, e3, e4, e5, e6, e7⟩ := e; ⟨b, x, c, m, e1, g.1 b _ (fun z => by rw [z, hp] at e2; cases e2) e2 (fun ps z => by cases z), e3, e4, e5, e6.gp g hp, e7⟩
theorem Bnd.ge {H H' : Hp} {v : V} {fl ns : List Str} (e : Bnd H v fl ns) (g : Ge H H') : Bnd H' v fl ns := let ⟨b, x, c, m, e1, e2, e3, e4, e5, e6, e7⟩ := e; ⟨b, x, c, m, e1, g.1 b _ e2 (fun ps z => by cases z), e3, e4, e5, e6.ge g, e7⟩
theorem dp_strs {K : PySem.W.Frag} {H : Hp} : ∀ ns : List Str, DpAll K H (ns.map V.str) (ns.map PyData.str)
  | [] => .nil
  | n :: r => .cons (.str n) (dp_strs r)
section
variable {P : Program} {w : World} {K : PySem.W.Frag} {mg : Str → Option Value} {base : Heap} {T : List Addr}
/-- names, a list -/
def NmL (H : Hp) (p nl : Addr) (ns : List Str) : Prop := nl ≠ p ∧ H nl = some (.lst (ns.map V.str)) ∧ ns.length ≤ 5 ∧ SeqAt.shaped (.list (ns.map PyData.str)) = true
/-- flags, a tuple -/
def FlT (H : Hp) (t : Addr) (fl : List Str) : Prop := Rd H t (.tup (fl.map V.str)) ∧ fl.Nodup ∧ fl.length ≤ 3
def spBinding : Sp := fun vs H Q _ => ∃ (p cc t nl : Addr) (a : Nat) (fl ns : List Str) (z : Str), vs = [.ref p, .ref t, .ref nl, .str z] ∧ PenAt H p cc a ∧ a + 10 ≤ 100000 ∧ FlT H t fl ∧ NmL H p nl ns ∧ LetS z ∧ ∀ H' v, GeP p H H' → PenAt H' p cc (a + 10) → Bnd H' v fl ns → Q v H'
abbrev nLBind : List Str := ["_law_pen", "_law_flags", "_law_names", "_law_letters", "_law_keys", "_law_condition"]
end
end Pr
set_option maxRecDepth 100000
set_option maxHeartbeats 2000000
namespace Pr
open PySem PySem.Spec PyProof.Rows L2 GxR Gx Rp Dl Pd Tx
/-- xs[::s], s one or minus one -/
def tStepL (K : PySem.W.Frag) (te : TE) (ts : TO) : TE := fun σ H Q => te σ H fun x H1 => ts σ H1 fun o H2 => ∃ a xs i, x = .ref a ∧ o = some i ∧ (i = 1 ∨ i = -1) ∧ SqL K H2 a xs ∧ ∀ p, H2 p = none → Q (.ref p) (upd H2 p (.lst (if i = 1 then xs else xs.reverse)))
theorem pe_stepL {X : Cx} {e st : Expr} {te : TE} {ts : TO} {p2 pos : Pos} (he : PE X e te) (hs : PO X (some st) ts) : PE X (.Subscript e (.Slice none none (some st) p2) pos) (tStepL X.K te ts) := by
  refine ⟨fun pins s σ H Q I h => ?_⟩
  refine Subscript_ (thn (he.run pins s σ H _ I h) fun v s1 ⟨x, H1, I1, r1, q1⟩ => ?_)
  refine wpAny_Slice (thn (po_none.run pins s1 σ H1 (fun o H2 => o = none ∧ H2 = H1) I1 ⟨rfl, rfl⟩) fun vl s2 ⟨l, H2, I2, pl, el, e2⟩ => ?_)
  subst el e2
  refine thn (po_none.run pins s2 σ H2 (fun o H3 => o = none ∧ H3 = H2) I2 ⟨rfl, rfl⟩) fun vu s3 ⟨u, H3, I3, pu, eu, e3⟩ => ?_
  subst eu e3
  refine thn (hs.run pins s3 σ H3 _ I3 q1) fun vs s4 ⟨o, H4, I4, ps, a, xs, i, ex, eo, hi, hx, q⟩ => ?_
  subst ex eo
  cases r1
  have I5 : Inv X pins σ H4 { s4 with heap := s4.heap.push { cls := .type "slice", data := .fields #[vl, vu, vs] } } := I4.kept (t' := s4.toks) fun b ob q => Heap.get?_push_of_some _ q
  obtain ⟨its, r, ht, hz⟩ := I5.list hx
  have hlen := r.length
  show wpAny (model X.prog X.w) X.A (subscriptTail e (.Slice none none (some st) p2) (.ref a) (.ref s4.heap.objs.size)) (EP X pins σ Q) X.xe { s4 with heap := s4.heap.push { cls := .type "slice", data := .fields #[vl, vu, vs] } }
  refine tail_any (ops := [.ref a, .ref s4.heap.objs.size]) ht.isList.typeIs (PySem.slot_list_getitem.lookup) ?_ (by with_unfolding_all rfl)
  refine wpAny_getItem_list_slice ht.isList (Heap.IsSliceOf.new _ vl vu vs) pl pu ps (by rcases hi with rfl | rfl <;> decide) ?_ (by rw [List.size_toArray]; omega)
  rcases hi with rfl | rfl
  · have e : slicePick its.toArray none none (some 1) = its.toArray := slicePick_all its.toArray
    rw [e]
    refine ⟨.ref _, _, I5.laid (t' := s4.toks) (o := .lst xs) (fun b ob q => Heap.get?_push_of_some _ q) (Nat.le_refl _) ?_, rfl, q _ (I5.hok.fresh (Nat.le_refl _))⟩
    exact ⟨hz, _, 0, r, Heap.get?_push_size _ rfl⟩
  · rw [PySem.W.krv_pick]
    refine ⟨.ref _, _, I5.laid (t' := s4.toks) (o := .lst xs.reverse) (fun b ob q => Heap.get?_push_of_some _ q) (Nat.le_refl _) ?_, rfl, q _ (I5.hok.fresh (Nat.le_refl _))⟩
    exact ⟨by rw [List.length_reverse]; exact hz, _, 0, r.reverse, Heap.get?_push_size _ rfl⟩
end Pr
set_option maxRecDepth 100000
set_option maxHeartbeats 2000000
namespace Pr
open PySem PySem.Spec PyProof.Rows L2 GxR Gx Rp Dl Pd Tx
theorem mergeK_app : ∀ {more acc : List (Key × V)}, ((acc ++ more).map (·.1)).Nodup → mergeK acc more = acc ++ more
  | [], acc, _ => (List.append_nil acc).symm
  | (k, v) :: r, acc, h => by
    have fresh : k ∉ acc.map (·.1) := fun z => by
      rw [List.map_append, List.nodup_append] at h
      exact h.2.2 k z k (by simp) rfl
    show mergeK (putK acc k v) r = acc ++ (k, v) :: r
    rw [putK_app fresh, mergeK_app (by rw [List.append_assoc]; exact h), List.append_assoc]
    rfl
/-- the list at l with v behind -/
def bump (lay : List (Addr × List V)) (l : Addr) (v : V) : List (Addr × List V) := lay.map fun e => if e.1 = l then (e.1, e.2 ++ [v]) else e
def cnt (lay : List (Addr × List V)) : Nat := (lay.map fun e => e.2.length).sum
theorem bump_fst (lay : List (Addr × List V)) (l : Addr) (v : V) : (bump lay l v).map (·.1) = lay.map (·.1) := by
  unfold bump
  rw [List.map_map]
  refine List.map_congr_left fun e _ => ?_
  show (if e.1 = l then (e.1, e.2 ++ [v]) else e).1 = e.1
  by_cases h : e.1 = l
  · rw [if_pos h]
  · rw [if_neg h]
theorem bump_len (lay : List (Addr × List V)) (l : Addr) (v : V) : (bump lay l v).length = lay.length := by
  unfold bump
  rw [List.length_map]
theorem bump_not : ∀ {lay : List (Addr × List V)} {l : Addr} {v : V}, l ∉ lay.map (·.1) → bump lay l v = lay
  | [], _, _, _ => rfl
  | e :: r, l, v, h => by
    have h1 : e.1 ≠ l := fun z => h (by rw [← z]; simp)
    have h2 : l ∉ r.map (·.1) := fun z => h (by simp only [List.map_cons, List.mem_cons]; exact Or.inr z)
    show (if e.1 = l then (e.1, e.2 ++ [v]) else e) :: bump r l v = e :: r
    rw [if_neg h1, bump_not h2]
theorem cnt_bump : ∀ {lay : List (Addr × List V)} {l : Addr} {v : V}, (lay.map (·.1)).Nodup → cnt (bump lay l v) ≤ cnt lay + 1
  | [], _, _, _ => by show 0 ≤ 1; omega
  | e :: r, l, v, h => by
    have h' : e.1 ∉ r.map (·.1) ∧ (r.map (·.1)).Nodup := List.nodup_cons.mp h
    show (((if e.1 = l then (e.1, e.2 ++ [v]) else e) :: bump r l v).map fun e => e.2.length).sum ≤ ((e :: r).map fun e => e.2.length).sum + 1
    by_cases z : e.1 = l
    · rw [if_pos z, bump_not (by rw [← z]; exact h'.1)]
      simp only [List.map_cons, List.sum_cons, List.length_append, List.length_singleton]
      omega
    · rw [if_neg z]
      have ih := cnt_bump (v := v) (l := l) h'.2
      unfold cnt at ih
      simp only [List.map_cons, List.sum_cons]
      omega
theorem sub_snoc {α : Type} {ys xs : List α} {x : α} {k : Nat} (h : ys.Sublist (xs.take k)) (e : xs[k]? = some x) : (ys ++ [x]).Sublist (xs.take (k + 1)) ∧ ys.Sublist (xs.take (k + 1)) := by
  rw [List.take_succ, e]
  exact ⟨h.append (List.Sublist.refl [x]), h.trans (List.sublist_append_left _ _)⟩
/-- [x for x in texts if a test that draws from the pen] -/
theorem filt {p cc : Addr} {a : Nat} {J : It} {G : Hp → Prop} {xs : List Str} {σ : L2.St} {i : Nat} {tt : TT} {D : Addr} {H1 : Hp} {Qd : Hp → Prop} (wk : Walk J xs.length G (YAt (xs.map V.str))) (hD : H1 D = none) (hp : PenAt H1 p cc a) (hi : i < σ.length) (hn : xs.length ≤ 1000)
    (hG : ∀ H', GeP p H1 H' → G H')
    (htt : ∀ x H' k, k < xs.length → GeP p H1 H' → PenAt H' p cc (a + k) → ∀ R : Bool → Hp → Prop, (∀ b H4, GeP p H' H4 → PenAt H4 p cc (a + k + 1) → R b H4) → tt ((wipe σ [i]).set i (some x)) H' R)
    (hd : ∀ (H' : Hp) (ys : List Str), ys.Sublist xs → GeP p H1 H' → PenAt H' p cc (a + xs.length) → H' D = some (.lst (ys.map V.str)) → Qd H') :
    ∃ W : Nat → Nat → Hp → Prop, (∃ m, W 0 m (upd H1 D (.lst []))) ∧ ∀ k m H, W k m H →
      (J.stop k H ∧ Qd H) ∨ (J.go k H ∧ ∃ Nx : Hp → Prop, (∀ H', Nx H' → ∃ m', m' < m ∧ W (k + 1) m' H') ∧ ∀ x H', J.yld k H x H' → gName i x (wipe σ [i]) H' fun σ2 H2 => wipe σ2 [i] = wipe σ [i] ∧ tt σ2 H2 fun b H3 =>
        if b = true then tVar i σ2 H3 fun y H4 => ∃ acc, H4 D = some (.lst acc) ∧ acc.length < sizeLine ∧ Nx (upd H4 D (.lst (acc ++ [y]))) else Nx H3) := by
  have hf := hp.fresh hD
  refine lc_it (n := xs.length) wk (fun k H' => k ≤ xs.length ∧ GeP p H1 H' ∧ PenAt H' p cc (a + k) ∧ ∃ ys, ys.Sublist (xs.take k) ∧ H' D = some (.lst (ys.map V.str)))
    ⟨Nat.zero_le _, GeP.refl.upd (Nw.none hD), hp.upd hf.1 hf.2, [], List.nil_sublist _, upd_same⟩ (fun k H' _ z => hG H' z.2.1) ?_ ?_
  · rintro k x H2 H3 hk ⟨_, g, hp2, ys, s1, s2⟩ ⟨rfl, ex⟩
    rw [List.getElem?_map] at ex
    cases ez : xs[k]? with
    | none => rw [ez] at ex; cases ex
    | some y =>
      rw [ez] at ex
      cases ex
      obtain ⟨u1, u2⟩ := sub_snoc s1 ez
      refine ⟨?_, htt _ _ k hk g hp2 _ fun b H4 g4 hp4 => ?_⟩
      · show ((σ.set i none).set i (some (V.str y))).set i none = σ.set i none
        rw [List.set_set, List.set_set]
      · have k4 := g4.1 D _ hf.1 s2 (fun ps z => by cases z)
        have hl : ys.length ≤ 1000 := Nat.le_trans s1.length_le (by rw [List.length_take]; omega)
        refine ite2 (fun _ => ⟨V.str y, ?_, _, k4, ?_, hk, (g.trans g4).upd (Nw.none hD), hp4.upd hf.1 hf.2, ys ++ [y], u1, ?_⟩) fun _ => ⟨hk, g.trans g4, hp4, ys, u2, k4⟩
        · show ((σ.set i none).set i (some (V.str y)))[i]? = some (some (V.str y))
          rw [List.set_set, List.getElem?_set_self hi]
        · rw [List.length_map]
          exact Nat.lt_of_le_of_lt hl (by decide)
        · rw [upd_same, List.map_append]
          rfl
  · rintro H2 ⟨_, g, hp2, ys, s1, s2⟩
    rw [List.take_length] at s1
    exact hd H2 ys s1 g hp2 s2
end Pr
set_option maxRecDepth 100000
set_option maxHeartbeats 4000000
namespace Pr
open PySem PySem.Spec PyProof.Rows L2 GxR Gx Rp Dl Pd Tx
theorem call_tupleK {X : Cx} {K : PySem.W.Frag} (h : X.K = K) : CallR X (.type "tuple") (fun xs H Q => ∃ p ys, xs = [.ref p] ∧ ((SqL K H p ys ∧ ∀ l, H l = none → Q (.ref l) (upd H l (.tup ys))) ∨ (SqT K H p ys ∧ Q (.ref p) H))) := h ▸ call_tuple_of
section
variable {P : Program} {w : World} {K : PySem.W.Frag} {mg : Str → Option Value} {base : Heap} {T : List Addr}
def FLAGS : List Str := ["a", "ins", "cap", "vis", "b", "c", "in", "nu", "z"]
def FLS : List (List Str) := [[], ["a"], ["ins"], ["a", "ins"], ["cap", "vis"], ["a", "b", "c"], ["in", "nu", "z"]]
def NMS : List (List Str) := [["go"], ["a", "b"], ["go", "leave", "x"], ["a", "copy", "up"], ["a", "b", "c", "d", "e", "f", "g", "h"]]
structure SubF (fl : List Str) : Prop where
  mem : fl ∈ FLS
structure SubN (ns : List Str) : Prop where
  mem : ns ∈ NMS
theorem SubF.length_le {fl : List Str} (h : SubF fl) : fl.length ≤ 3 := (by decide +kernel : ∀ fl ∈ FLS, fl.length ≤ 3) fl h.1
theorem SubF.nodup {fl : List Str} (h : SubF fl) : fl.Nodup := (by decide +kernel : ∀ fl ∈ FLS, fl.Nodup) fl h.1
theorem SubF.subset {fl : List Str} (h : SubF fl) {x : Str} (hx : x ∈ fl) : x ∈ FLAGS := (by decide +kernel : ∀ fl ∈ FLS, ∀ x ∈ fl, x ∈ FLAGS) fl h.1 x hx
def NAMES : List Str := ["go", "a", "b", "leave", "x", "copy", "up", "c", "d", "e", "f", "g", "h"]
theorem SubN.subset {fl : List Str} (h : SubN fl) {x : Str} (hx : x ∈ fl) : x ∈ NAMES := (by decide +kernel : ∀ fl ∈ NMS, ∀ x ∈ fl, x ∈ NAMES) fl h.1 x hx
theorem SubN.nodup {fl : List Str} (h : SubN fl) : fl.Nodup := (by decide +kernel : ∀ fl ∈ NMS, fl.Nodup) fl h.1
theorem SubN.length_le {fl : List Str} (h : SubN fl) : fl.length ≤ 8 := (by decide +kernel : ∀ fl ∈ NMS, fl.length ≤ 8) fl h.1
/-- the commands -/
def Cmd (H : Hp) (cd : Addr) (ns fl : List Str) : Prop := ∃ kvs, H cd = some (.dK kvs) ∧ (kvs.map (·.1)).Nodup ∧ (∀ kv ∈ kvs, ∃ n v, kv = (.inr n, v) ∧ n ∈ ns ∧ Eff H v fl) ∧ (∀ n ∈ ns, ∃ v, (Sum.inr n, v) ∈ kvs) ∧ kvs.length ≤ 8
theorem Cmd.gp {p cd : Addr} {H H' : Hp} {ns fl : List Str} {xs : List V} (e : Cmd H cd ns fl) (g : GeP p H H') (hp : H p = some (.lst xs)) : Cmd H' cd ns fl := by
  obtain ⟨kvs, e1, e2, e3, e4, e5⟩ := e
  exact ⟨kvs, g.dk hp e1, e2, fun kv hk => let ⟨n, v, h1, h2, h3⟩ := e3 kv hk; ⟨n, v, h1, h2, h3.gp g hp⟩, e4, e5⟩
/-- a keymap -/
def MapH (H : Hp) (v : V) : Prop := ∃ (m t o cd ly : Addr) (fl ol ns : List Str) (ks : List (Addr × List V)) (i : Int), v = .ref m ∧ H m = some (.tup [.ref t, .ref o, .ref cd, .ref ly, .int i]) ∧ Rd H t (.tup (fl.map V.str)) ∧ Rd H o (.tup (ol.map V.str)) ∧ SubF fl ∧ ol.Sublist fl ∧ SubN ns ∧ Cmd H cd ns fl ∧ 1 ≤ i ∧ i ≤ 1000 ∧
  H ly = some (.tup (ks.map fun e => .ref e.1)) ∧ 1 ≤ ks.length ∧ ks.length ≤ 4 ∧ cnt ks ≤ 16 ∧ ∀ e ∈ ks, H e.1 = some (.tup e.2) ∧ ∀ b ∈ e.2, Bnd H b fl ns
def spMap : Sp := fun vs H Q _ => ∃ (p cc : Addr) (a : Nat) (most : Int), vs = [.ref p, .int most] ∧ 0 ≤ most ∧ most ≤ 16 ∧ PenAt H p cc a ∧ a + 300 ≤ 100000 ∧ ∀ H' v, GeP p H H' → PenAt H' p cc (a + 300) → MapH H' v → Q v H'
structure Stg (H0 H : Hp) (p cc : Addr) (a : Nat) (t o nl : Addr) (fl ol ns : List Str) : Prop where
  g : GeP p H0 H
  pen : PenAt H p cc a
  hfl : FlT H t fl
  hol : Rd H o (.tup (ol.map V.str))
  nm : NmL H p nl ns
  s1 : SubF fl
  s2 : ol.Sublist fl
  s3 : SubN ns
theorem Stg.gp {H0 H H' : Hp} {p cc : Addr} {a b : Nat} {t o nl : Addr} {fl ol ns : List Str} (S : Stg H0 H p cc a t o nl fl ol ns) (g : GeP p H H') (hp : PenAt H' p cc b) : Stg H0 H' p cc b t o nl fl ol ns := by
  obtain ⟨xs, hx⟩ := S.pen.lst
  exact ⟨S.g.trans g, hp, ⟨g.rd hx (fun ps z => by cases z) (fun ys z => by cases z) S.hfl.1, S.hfl.2⟩, g.rd hx (fun ps z => by cases z) (fun ys z => by cases z) S.hol, ⟨S.nm.1, g.1 nl _ S.nm.1 S.nm.2.1 (fun ps z => by cases z), S.nm.2.2⟩, S.s1, S.s2, S.s3⟩
theorem Stg.ge {H0 H H' : Hp} {p cc : Addr} {a : Nat} {t o nl : Addr} {fl ol ns : List Str} (S : Stg H0 H p cc a t o nl fl ol ns) (g : Ge H H') : Stg H0 H' p cc a t o nl fl ol ns := S.gp (GeP.of g) (S.pen.ge g)
theorem Stg.updL {H0 H : Hp} {p cc D : Addr} {a : Nat} {t o nl : Addr} {fl ol ns : List Str} {ys zs : List V} (S : Stg H0 H p cc a t o nl fl ol ns) (hD : H D = some (.lst ys)) (h1 : D ≠ p) (h2 : D ≠ cc) (h3 : D ≠ nl) (h4 : Nw H0 D) : Stg H0 (upd H D (.lst zs)) p cc a t o nl fl ol ns := by
  have g : GeP D H (upd H D (.lst zs)) := GeP.set hD
  exact ⟨S.g.upd h4, S.pen.upd h1 h2, ⟨g.rd hD (fun ps z => by cases z) (fun ys z => by cases z) S.hfl.1, S.hfl.2⟩, g.rd hD (fun ps z => by cases z) (fun ys z => by cases z) S.hol, ⟨S.nm.1, by rw [upd_ne h3.symm]; exact S.nm.2.1, S.nm.2.2⟩, S.s1, S.s2, S.s3⟩
theorem Stg.mono {H0 H : Hp} {p cc : Addr} {a b : Nat} {t o nl : Addr} {fl ol ns : List Str} (S : Stg H0 H p cc a t o nl fl ol ns) (h : a ≤ b) : Stg H0 H p cc b t o nl fl ol ns := ⟨S.g, S.pen.mono h, S.hfl, S.hol, S.nm, S.s1, S.s2, S.s3⟩
theorem paired_of {K : PySem.W.Frag} {H : Hp} : ∀ es : List (Addr × Str × V), (∀ e ∈ es, SqT K H e.1 [.str e.2.1, e.2.2]) → Paired (fun p (kv : Key × V) => SqT K H p [kV kv.1, kv.2]) (es.map (·.1)) (es.map fun e => (.inr e.2.1, e.2.2))
  | [], _ => .nil
  | e :: r, h => .cons (h e List.mem_cons_self) (paired_of r fun x hx => h x (List.mem_cons_of_mem _ hx))
/-- the layers under way -/
structure Lay (H0 H : Hp) (p cc nl L : Addr) (fl ns : List Str) (lay : List (Addr × List V)) : Prop where
  top : H L = some (.lst (lay.map fun e => .ref e.1))
  nd : (lay.map (·.1)).Nodup
  Lp : L ≠ p
  ok : ∀ e ∈ lay, e.1 ≠ p ∧ e.1 ≠ cc ∧ e.1 ≠ nl ∧ e.1 ≠ L ∧ Nw H0 e.1 ∧ H e.1 = some (.lst e.2) ∧ ∀ b ∈ e.2, Bnd H b fl ns
theorem Lay.gp {H0 H H' : Hp} {p cc nl L : Addr} {fl ns : List Str} {lay : List (Addr × List V)} {xs : List V} (Y : Lay H0 H p cc nl L fl ns lay) (g : GeP p H H') (hp : H p = some (.lst xs)) : Lay H0 H' p cc nl L fl ns lay :=
  ⟨g.1 L _ Y.Lp Y.top (fun ps z => by cases z), Y.nd, Y.Lp, fun e he => let ⟨h1, h2, h3, h4, h5, h6, h7⟩ := Y.ok e he; ⟨h1, h2, h3, h4, h5, g.1 e.1 _ h1 h6 (fun ps z => by cases z), fun b hb => (h7 b hb).gp g hp⟩⟩
theorem Lay.bump {H0 H : Hp} {p cc nl L : Addr} {fl ns : List Str} {lay : List (Addr × List V)} {e : Addr × List V} {v : V} (Y : Lay H0 H p cc nl L fl ns lay) (he : e ∈ lay) (hv : Bnd H v fl ns) : Lay H0 (upd H e.1 (.lst (e.2 ++ [v]))) p cc nl L fl ns (bump lay e.1 v) := by
  obtain ⟨h1, h2, h3, h4, h5, h6, h7⟩ := Y.ok e he
  have g : GeP e.1 H (upd H e.1 (.lst (e.2 ++ [v]))) := GeP.set h6
  refine ⟨?_, by rw [bump_fst]; exact Y.nd, Y.Lp, fun x hx => ?_⟩
  · rw [upd_ne h4.symm, Y.top]
    have z : ∀ l : List (Addr × List V), (l.map fun e => V.ref e.1) = (l.map (·.1)).map V.ref := fun l => by rw [List.map_map]; rfl
    rw [z, z, bump_fst]
  · obtain ⟨y, hy, rfl⟩ := List.mem_map.mp hx
    obtain ⟨k1, k2, k3, k4, k5, k6, k7⟩ := Y.ok y hy
    by_cases z : y.1 = e.1
    · rw [if_pos z]
      have ey : y.2 = e.2 := by
        rw [z, h6] at k6
        exact (HO.lst.inj (Option.some.inj k6)).symm
      refine ⟨k1, k2, k3, k4, k5, ?_, fun b hb => ?_⟩
      · show upd H e.1 _ y.1 = some (.lst (y.2 ++ [v]))
        rw [z, ey]
        exact upd_same
      · rcases List.mem_append.mp hb with hb | hb
        · exact (k7 b hb).gp g h6
        · rw [List.mem_singleton.mp hb]
          exact hv.gp g h6
    · rw [if_neg z]
      exact ⟨k1, k2, k3, k4, k5, by rw [upd_ne z]; exact k6, fun b hb => (k7 b hb).gp g h6⟩
theorem Lay.add {H0 H : Hp} {p cc nl L b : Addr} {fl ns : List Str} {lay : List (Addr × List V)} (Y : Lay H0 H p cc nl L fl ns lay) (hb : H b = none) (b1 : b ≠ p) (b2 : b ≠ cc) (b3 : b ≠ nl) (b4 : Nw H0 b) : Lay H0 (upd (upd H b (.lst [])) L (.lst ((lay.map fun e => .ref e.1) ++ [.ref b]))) p cc nl L fl ns (lay ++ [(b, [])]) := by
  have bL : b ≠ L := (ne_of_none Y.top hb).symm
  have g1 : Ge H (upd H b (.lst [])) := Ge.new hb
  have hL : upd H b (.lst []) L = some (.lst (lay.map fun e => .ref e.1)) := g1.1 _ _ Y.top (fun ps z => by cases z)
  have g2 : GeP L (upd H b (.lst [])) (upd (upd H b (.lst [])) L (.lst ((lay.map fun e => .ref e.1) ++ [.ref b]))) := GeP.set hL
  refine ⟨?_, ?_, Y.Lp, fun e he => ?_⟩
  · rw [upd_same, List.map_append]
    rfl
  · rw [List.map_append, List.nodup_append]
    refine ⟨Y.nd, by simp, fun x hx y hy z => ?_⟩
    simp at hy
    subst z
    subst hy
    obtain ⟨e, he, e1⟩ := List.mem_map.mp hx
    have h6 := (Y.ok e he).2.2.2.2.2.1
    rw [e1, hb] at h6
    cases h6
  · rcases List.mem_append.mp he with he | he
    · obtain ⟨k1, k2, k3, k4, k5, k6, k7⟩ := Y.ok e he
      exact ⟨k1, k2, k3, k4, k5, g2.1 _ _ k4 (g1.1 _ _ k6 (fun ps z => by cases z)) (fun ps z => by cases z), fun v hv => ((k7 v hv).ge g1).gp g2 hL⟩
    · rw [List.mem_singleton.mp he]
      exact ⟨b1, b2, b3, bL, b4, g2.1 _ _ bL upd_same (fun ps z => by cases z), fun v hv => by cases hv⟩
theorem mem_cnt : ∀ {lay : List (Addr × List V)} {e : Addr × List V}, e ∈ lay → e.2.length ≤ cnt lay
  | [], _, h => by cases h
  | x :: r, e, h => by
    show e.2.length ≤ ((x :: r).map fun e => e.2.length).sum
    rw [List.map_cons, List.sum_cons]
    rcases List.mem_cons.mp h with h | h
    · rw [h]
      omega
    · have ih := mem_cnt h
      unfold cnt at ih
      omega
theorem Lay.updO {H0 H : Hp} {p cc nl L D : Addr} {fl ns : List Str} {lay : List (Addr × List V)} {ys zs : List V} (Y : Lay H0 H p cc nl L fl ns lay) (hD : H D = some (.lst ys)) (h1 : D ≠ L) (h2 : ∀ e ∈ lay, e.1 ≠ D) : Lay H0 (upd H D (.lst zs)) p cc nl L fl ns lay :=
  ⟨by rw [upd_ne h1.symm]; exact Y.top, Y.nd, Y.Lp, fun e he => let ⟨k1, k2, k3, k4, k5, k6, k7⟩ := Y.ok e he; ⟨k1, k2, k3, k4, k5, by rw [upd_ne (h2 e he)]; exact k6, fun b hb => (k7 b hb).gp (GeP.set (p := D) hD) hD⟩⟩
theorem nd_flags : FLAGS.Nodup := by decide +kernel
theorem nd_names : NAMES.Nodup := by decide +kernel
def subs {α : Type} : List α → List (List α)
  | [] => [[]]
  | x :: r => subs r ++ (subs r).map (x :: ·)
theorem mem_subs {α : Type} {ys xs : List α} (h : ys.Sublist xs) : ys ∈ subs xs := by
  induction h with
  | slnil => simp [subs]
  | cons a _ ih => exact List.mem_append_left _ ih
  | cons_cons a _ ih => exact List.mem_append_right _ (List.mem_map.mpr ⟨_, ih, rfl⟩)
theorem walk_list_tup {K : PySem.W.Frag} {a : Addr} (xs : List Str) : Walk (Itt K a) xs.length (fun H => SqT K H a (xs.map V.str)) (YAt (xs.map V.str)) := by
  have h := walk_tup (K := K) (a := a) (xs := xs.map V.str)
  rw [List.length_map] at h
  exact h
theorem names_shaped : ∀ ns ∈ NMS, SeqAt.shaped (.list (ns.map PyData.str)) = true := by decide +kernel
abbrev nLMap : List Str := ["_law_pen", "_law_most", "_law_flags", "_law_outside", "_law_names", "_law_commands", "_law_letters", "_law_turn", "_law_layers", "_law_wait", "_law_flag", "_law_name", "_law_layer"]
end
end Pr
set_option maxRecDepth 100000
set_option maxHeartbeats 2000000
namespace Pr
open PySem PySem.Spec PyProof.Rows L2 GxR Gx Rp Dl Pd Tx
mutual
/-- a bound of the text that repr gives -/
def wgt : PyData → Nat
  | .none => 5
  | .bool _ => 5
  | .int _ => 5
  | .str x => 10 * x.length + 2
  | .list xs => wgtAll xs + 4
  | .tuple xs => wgtAll xs + 4
  | .dict kvs => wgtKv kvs + 4
def wgtAll : List PyData → Nat
  | [] => 0
  | x :: xs => wgt x + 2 + wgtAll xs
def wgtKv : List (PyData × PyData) → Nat
  | [] => 0
  | (k, v) :: r => wgt k + wgt v + 4 + wgtKv r
end
mutual
/-- short ints, plain signs, few items -/
def okD : PyData → Bool
  | .none => true
  | .bool _ => true
  | .int i => decide (0 ≤ i) && decide (i ≤ 1000)
  | .str x => decide (x.length ≤ 100) && x.cps.toList.all (fun c => decide (c < 128))
  | .list xs => decide (xs.length ≤ 100) && okAll xs
  | .tuple xs => decide (xs.length ≤ 100) && okAll xs
  | .dict kvs => decide (kvs.length ≤ 100) && okKv kvs
def okAll : List PyData → Bool
  | [] => true
  | x :: xs => okD x && okAll xs
def okKv : List (PyData × PyData) → Bool
  | [] => true
  | (k, v) :: r => okD k && okD v && okKv r
end
theorem int_len : ∀ i : Fin 1001, ((toString (i.val : Int) : String) : Str).length ≤ 5 := by decide +kernel
theorem strLen_join {ts : List Str} {n : Nat} (h : piled ts ≤ n) : (Str.join ", " ts).length ≤ n := by
  by_cases e : ts = []
  · subst e
    exact Nat.zero_le _
  · have := join_length_add ts e
    omega
theorem listText_le (ts : List Str) : (listText ts).length ≤ piled ts + 4 := by
  cases ts with
  | nil => exact (by decide : (listText []).length ≤ 0 + 4)
  | cons t r =>
    have h := textFrom_length_pos r 1 (("[" : Str) ++ (if (0 : Nat) > 0 then ", " else "" : String) ++ t) (Nat.succ_pos 0)
    have e : ((("[" : Str) ++ (if (0 : Nat) > 0 then ", " else "" : String) ++ t)).length = 1 + t.length := by
      rw [strLen_append, strLen_append]; rfl
    have hX : (listText (t :: r)).length = (textFrom 1 (("[" : Str) ++ (if (0 : Nat) > 0 then ", " else "" : String) ++ t) r).length + 1 := by
      show (textFrom 0 "[" (t :: r) ++ "]").length = _
      rw [strLen_append]; rfl
    rw [hX, h, e, piled_cons]; omega
theorem tupleText_le (ts : List Str) : (tupleText ts).length ≤ piled ts + 4 := by
  unfold tupleText
  rw [strLen_append, strLen_append]
  have e1 : ((("(" : String) : Str)).length = 1 := rfl
  have e3 : (((if ts.length == 1 then ",)" else ")" : String) : Str)).length ≤ 2 := by split <;> decide
  have := strLen_join (Nat.le_refl (piled ts))
  omega
theorem dictText_le (ts : List Str) : (dictText ts).length ≤ piled ts + 4 := by
  unfold dictText
  rw [strLen_append, strLen_append]
  have e1 : ((("{" : String) : Str)).length = 1 := rfl
  have e2 : ((("}" : String) : Str)).length = 1 := rfl
  have := strLen_join (Nat.le_refl (piled ts))
  omega
mutual
theorem shown_le : ∀ d : PyData, okD d = true → d.shown.length ≤ wgt d ∧ d.showable = true ∧ small d = true
  | .none, _ => ⟨by decide, rfl, rfl⟩
  | .bool b, _ => by cases b <;> exact ⟨by decide, rfl, rfl⟩
  | .int i, h => by
    have h' : (decide (0 ≤ i) && decide (i ≤ 1000)) = true := h
    rw [Bool.and_eq_true] at h'
    have h0 := of_decide_eq_true h'.1
    have h1 := of_decide_eq_true h'.2
    have e : ((⟨i.toNat, by omega⟩ : Fin 1001).val : Int) = i := by show (i.toNat : Int) = i; omega
    have z := int_len ⟨i.toNat, by omega⟩
    rw [e] at z
    refine ⟨z, ?_, rfl⟩
    show decide (i.natAbs.log2 < 1920) = true
    have : i.natAbs.log2 ≤ i.natAbs := Nat.log2_le_self _
    exact decide_eq_true (by omega)
  | .str x, h => by
    have h' : (decide (x.length ≤ 100) && x.cps.toList.all (fun c => decide (c < 128))) = true := h
    rw [Bool.and_eq_true] at h'
    have h0 := of_decide_eq_true h'.1
    refine ⟨StrLaws.reprText_len x fun c hc => Nat.lt_trans (of_decide_eq_true (List.all_eq_true.mp h'.2 c hc)) (by decide), rfl, ?_⟩
    show decide (x.length ≤ 100000) = true
    exact decide_eq_true (by omega)
  | .list xs, h => by
    have h' : (decide (xs.length ≤ 100) && okAll xs) = true := by simpa only [okD] using h
    rw [Bool.and_eq_true] at h'
    have h0 := of_decide_eq_true h'.1
    obtain ⟨a, b, c⟩ := shownAll_le xs h'.2
    refine ⟨?_, by simpa only [PyData.showable] using b, ?_⟩
    · have := listText_le (PyData.shownAll xs)
      simp only [PyData.shown, wgt]
      omega
    · simp only [small, c, Bool.and_true]
      exact decide_eq_true (by omega)
  | .tuple xs, h => by
    have h' : (decide (xs.length ≤ 100) && okAll xs) = true := by simpa only [okD] using h
    rw [Bool.and_eq_true] at h'
    have h0 := of_decide_eq_true h'.1
    obtain ⟨a, b, c⟩ := shownAll_le xs h'.2
    refine ⟨?_, by simpa only [PyData.showable] using b, ?_⟩
    · have := tupleText_le (PyData.shownAll xs)
      simp only [PyData.shown, wgt]
      omega
    · simp only [small, c, Bool.and_true]
      exact decide_eq_true (by omega)
  | .dict kvs, h => by
    have h' : (decide (kvs.length ≤ 100) && okKv kvs) = true := by simpa only [okD] using h
    rw [Bool.and_eq_true] at h'
    have h0 := of_decide_eq_true h'.1
    obtain ⟨a, b, c⟩ := shownKv_le kvs h'.2
    refine ⟨?_, by simpa only [PyData.showable] using b, ?_⟩
    · have := dictText_le (PyData.shownKv kvs)
      simp only [PyData.shown, wgt]
      omega
    · simp only [small, c, Bool.and_true]
      exact decide_eq_true (by omega)
theorem shownAll_le : ∀ xs : List PyData, okAll xs = true → piled (PyData.shownAll xs) ≤ wgtAll xs ∧ PyData.showableAll xs = true ∧ smallAll xs = true
  | [], _ => ⟨by decide, rfl, rfl⟩
  | x :: xs, h => by
    have h' : (okD x && okAll xs) = true := by simpa only [okAll] using h
    rw [Bool.and_eq_true] at h'
    obtain ⟨a, b, c⟩ := shown_le x h'.1
    obtain ⟨a', b', c'⟩ := shownAll_le xs h'.2
    refine ⟨?_, by simp only [PyData.showableAll, b, b', Bool.and_self], by simp only [smallAll, c, c', Bool.and_self]⟩
    simp only [PyData.shownAll, wgtAll, piled_cons]
    omega
theorem shownKv_le : ∀ kvs : List (PyData × PyData), okKv kvs = true → piled (PyData.shownKv kvs) ≤ wgtKv kvs ∧ PyData.showableKv kvs = true ∧ smallKv kvs = true
  | [], _ => ⟨by decide, rfl, rfl⟩
  | (k, v) :: r, h => by
    have h' : (okD k && okD v && okKv r) = true := by simpa only [okKv] using h
    rw [Bool.and_eq_true, Bool.and_eq_true] at h'
    obtain ⟨a, b, c⟩ := shown_le k h'.1.1
    obtain ⟨a1, b1, c1⟩ := shown_le v h'.1.2
    obtain ⟨a', b', c'⟩ := shownKv_le r h'.2
    refine ⟨?_, by simp only [PyData.showableKv, b, b1, b', Bool.and_self], by simp only [smallKv, c, c1, c', Bool.and_self]⟩
    have e : (((": " : String) : Str)).length = 2 := rfl
    simp only [PyData.shownKv, wgtKv, piled_cons, strLen_append, e]
    omega
end
end Pr
set_option maxRecDepth 100000
set_option maxHeartbeats 2000000
namespace Pr
open PySem PySem.Spec PyProof.Rows L2 GxR Gx Rp Dl Pd Tx
theorem ok_flags : ∀ fl ∈ FLS, areFlags (.tuple (fl.map .str)) = true ∧ fl.length ≤ 3 := by decide +kernel
theorem ok_outside : ∀ fl ∈ FLS, ∀ ol ∈ subs fl, areOutside (fl.map .str) (.tuple (ol.map .str)) = true ∧ ol.length ≤ 3 := by decide +kernel
theorem ok_names : ∀ n ∈ NAMES, isName (.str n) = true ∧ okD (.str n) = true ∧ n.length ≤ 8 := by decide +kernel
theorem ok_fnames : ∀ n ∈ FLAGS, okD (.str n) = true ∧ n.length ≤ 8 := by decide +kernel
theorem isS_self (x : Str) : isS x (.str x) = true := by
  unfold isS
  exact beq_self_eq_true x
theorem memS_of {fl : List Str} {f : Str} (h : f ∈ fl) : memS (fl.map .str) (.str f) = true := List.any_eq_true.mpr ⟨.str f, List.mem_map.mpr ⟨f, h, rfl⟩, isS_self f⟩
section
variable {K : PySem.W.Frag} {H : Hp}
theorem da_strs : ∀ xs : List Str, DaAll K H (xs.map V.str) (xs.map PyData.str)
  | [] => .nil
  | x :: r => .cons (.str x) (da_strs r)
/-- settings as data -/
def EffD (ds : List (PyData × PyData)) (fl : List Str) : Prop := (∀ p ∈ ds, ∃ f b, p = (PyData.str f, PyData.bool b) ∧ f ∈ fl) ∧ ds.length ≤ fl.length
theorem eff_kv {fl : List Str} : ∀ kvs : List (Key × V), (∀ kv ∈ kvs, ∃ f b, kv = (.inr f, .bl b) ∧ f ∈ fl) → ∃ ds, DaKv K H kvs ds ∧ (∀ p ∈ ds, ∃ f b, p = (PyData.str f, PyData.bool b) ∧ f ∈ fl) ∧ ds.length = kvs.length
  | [], _ => ⟨[], .nil, (fun p hp => by cases hp), rfl⟩
  | kv :: r, h => by
    obtain ⟨f, b, rfl, hf⟩ := h kv List.mem_cons_self
    obtain ⟨ds, h1, h2, h3⟩ := eff_kv r fun x hx => h x (List.mem_cons_of_mem _ hx)
    refine ⟨(.str f, .bool b) :: ds, .cons (k := .inr f) (.bl b) h1, fun p hp => ?_, by simp [h3]⟩
    rcases List.mem_cons.mp hp with rfl | hp
    · exact ⟨f, b, rfl, hf⟩
    · exact h2 p hp
theorem eff_da {v : V} {fl : List Str} (e : Eff H v fl) : ∃ ds, Da K H v (.dict ds) ∧ EffD ds fl := by
  obtain ⟨d, kvs, rfl, h1, h2, h3, h4⟩ := e
  obtain ⟨ds, k1, k2, k3⟩ := eff_kv (K := K) (H := H) kvs h3
  exact ⟨ds, .dct (Or.inl h1) h2 k1, k2, by omega⟩
theorem effd_set {ds : List (PyData × PyData)} {fl : List Str} (e : EffD ds fl) : areSettings (fl.map .str) (.dict ds) = true := by
  refine List.all_eq_true.mpr fun p hp => ?_
  obtain ⟨f, b, rfl, hf⟩ := e.1 p hp
  rw [Bool.and_eq_true]
  exact ⟨memS_of hf, rfl⟩
/-- what is bounded -/
def Fit (d : PyData) (wt dp : Nat) : Prop := okD d = true ∧ noL d = true ∧ wgt d ≤ wt ∧ d.depth ≤ dp
theorem fit_kv {B D : Nat} : ∀ ds : List (PyData × PyData), (∀ p ∈ ds, (okD p.1 = true ∧ wgt p.1 ≤ 100 ∧ p.1.depth = 0) ∧ Fit p.2 B D) → okKv ds = true ∧ noLKv ds = true ∧ wgtKv ds ≤ ds.length * (B + 104) ∧ PyData.depthKv ds ≤ D
  | [], _ => ⟨rfl, rfl, by simp [wgtKv], by simp [PyData.depthKv]⟩
  | (k, v) :: r, h => by
    obtain ⟨⟨a1, a2, a3⟩, b1, b2, b3, b4⟩ := h (k, v) List.mem_cons_self
    obtain ⟨c1, c2, c3, c4⟩ := fit_kv r fun p hp => h p (List.mem_cons_of_mem _ hp)
    change okD k = true at a1
    change okD v = true at b1
    change noL v = true at b2
    change wgt k ≤ 100 at a2
    change wgt v ≤ B at b3
    change k.depth = 0 at a3
    change v.depth ≤ D at b4
    refine ⟨by simp only [okKv, a1, b1, c1, Bool.and_self], by simp only [noLKv, b2, c2, Bool.and_self], ?_, ?_⟩
    · have e : (r.length + 1) * (B + 104) = r.length * (B + 104) + (B + 104) := by rw [Nat.add_mul, Nat.one_mul]
      simp only [wgtKv, List.length_cons]
      omega
    · simp only [PyData.depthKv, a3]
      omega
theorem fit_all {B D : Nat} : ∀ ds : List PyData, (∀ d ∈ ds, Fit d B D) → okAll ds = true ∧ noLAll ds = true ∧ wgtAll ds ≤ ds.length * (B + 2) ∧ PyData.depthAll ds ≤ D
  | [], _ => ⟨rfl, rfl, by simp [wgtAll], by simp [PyData.depthAll]⟩
  | v :: r, h => by
    obtain ⟨b1, b2, b3, b4⟩ := h v List.mem_cons_self
    obtain ⟨c1, c2, c3, c4⟩ := fit_all r fun p hp => h p (List.mem_cons_of_mem _ hp)
    refine ⟨by simp only [okAll, b1, c1, Bool.and_self], by simp only [noLAll, b2, c2, Bool.and_self], ?_, ?_⟩
    · have e : (r.length + 1) * (B + 2) = r.length * (B + 2) + (B + 2) := by rw [Nat.add_mul, Nat.one_mul]
      simp only [wgtAll, List.length_cons]
      omega
    · simp only [PyData.depthAll]
      omega
theorem fit_tuple {ds : List PyData} {B D n : Nat} (h : ∀ d ∈ ds, Fit d B D) (hn : ds.length ≤ n) (h100 : n ≤ 100) : Fit (.tuple ds) (n * (B + 2) + 4) (D + 1) := by
  obtain ⟨a, b, c, d⟩ := fit_all ds h
  have e : ds.length * (B + 2) ≤ n * (B + 2) := Nat.mul_le_mul_right _ hn
  refine ⟨?_, by simp only [noL, b], ?_, ?_⟩
  · simp only [okD, a, Bool.and_true]
    exact decide_eq_true (by omega)
  · simp only [wgt]
    omega
  · simp only [PyData.depth]
    omega
theorem fit_dict {ds : List (PyData × PyData)} {B D n : Nat} (h : ∀ p ∈ ds, (okD p.1 = true ∧ wgt p.1 ≤ 100 ∧ p.1.depth = 0) ∧ Fit p.2 B D) (hn : ds.length ≤ n) (h100 : n ≤ 100) : Fit (.dict ds) (n * (B + 104) + 4) (D + 1) := by
  obtain ⟨a, b, c, d⟩ := fit_kv ds h
  have e : ds.length * (B + 104) ≤ n * (B + 104) := Nat.mul_le_mul_right _ hn
  refine ⟨?_, by simp only [noL, b], ?_, ?_⟩
  · simp only [okD, a, Bool.and_true]
    exact decide_eq_true (by omega)
  · simp only [wgt]
    omega
  · simp only [PyData.depth]
    omega
theorem Fit.mono {d : PyData} {a b c e : Nat} (h : Fit d a b) (h1 : a ≤ c) (h2 : b ≤ e) : Fit d c e := ⟨h.1, h.2.1, Nat.le_trans h.2.2.1 h1, Nat.le_trans h.2.2.2 h2⟩
theorem fit_str {x : Str} (h : okD (.str x) = true) (hx : x.length ≤ 8) : Fit (.str x) 100 0 := ⟨h, rfl, by simp only [wgt]; omega, Nat.le_refl _⟩
theorem fit_bool (b : Bool) : Fit (.bool b) 100 0 := ⟨rfl, rfl, by simp only [wgt]; omega, Nat.le_refl _⟩
theorem fit_none : Fit .none 100 0 := ⟨rfl, rfl, by simp only [wgt]; omega, Nat.le_refl _⟩
theorem effd_fit {ds : List (PyData × PyData)} {fl : List Str} (e : EffD ds fl) (hf : SubF fl) : Fit (.dict ds) 1000 1 := by
  have l3 : fl.length ≤ 3 := hf.length_le
  refine (fit_dict (B := 100) (D := 0) (n := 3) (fun p hp => ?_) (Nat.le_trans e.2 l3) (by decide)).mono (by decide) (by decide)
  obtain ⟨f, b, rfl, hm⟩ := e.1 p hp
  have z := ok_fnames f (hf.subset hm)
  exact ⟨⟨z.1, (fit_str z.1 z.2).2.2.1, rfl⟩, fit_bool b⟩
def BndD (d : PyData) (fl ns : List Str) : Prop := ∃ x ds m, d = .tuple [.str x, .dict ds, m] ∧ 1 ≤ x.length ∧ x.length ≤ 4 ∧ letters x = true ∧ EffD ds fl ∧ (m = .none ∨ ∃ n ∈ ns, m = .str n)
theorem bnd_da {v : V} {fl ns : List Str} (e : Bnd H v fl ns) : ∃ d, Da K H v d ∧ BndD d fl ns := by
  obtain ⟨b, x, c, m, rfl, h1, x1, x4, xl, ef, hm⟩ := e
  obtain ⟨ds, k1, k2⟩ := eff_da (K := K) ef
  rcases hm with rfl | ⟨n, hn, rfl⟩
  · exact ⟨_, .tup (Or.inl h1) (.cons (.str x) (.cons k1 (.cons .non .nil))), x, ds, .none, rfl, x1, x4, xl, k2, Or.inl rfl⟩
  · exact ⟨_, .tup (Or.inl h1) (.cons (.str x) (.cons k1 (.cons (.str n) .nil))), x, ds, .str n, rfl, x1, x4, xl, k2, Or.inr ⟨n, hn, rfl⟩⟩
theorem letters_ok {x : Str} (h : letters x = true) (hl : x.length ≤ 8) : okD (.str x) = true := by
  show (decide (x.length ≤ 100) && x.cps.toList.all (fun c => decide (c < 128))) = true
  rw [Bool.and_eq_true]
  refine ⟨decide_eq_true (by omega), List.all_eq_true.mpr fun c hc => ?_⟩
  have z := List.all_eq_true.mp h c hc
  rw [Bool.and_eq_true] at z
  have := of_decide_eq_true z.2
  exact decide_eq_true (by omega)
theorem bndd_fit {d : PyData} {fl ns : List Str} (e : BndD d fl ns) (hf : SubF fl) (hn : SubN ns) : Fit d 4000 2 := by
  obtain ⟨x, ds, m, rfl, x1, x4, xl, ef, hm⟩ := e
  refine (fit_tuple (B := 1000) (D := 1) (n := 3) (fun d hd => ?_) (Nat.le_refl _) (by decide)).mono (by decide) (by decide)
  simp only [List.mem_cons, List.not_mem_nil, or_false] at hd
  rcases hd with rfl | rfl | rfl
  · exact (fit_str (letters_ok xl (by omega)) (by omega)).mono (by decide) (by decide)
  · exact effd_fit ef hf
  · rcases hm with rfl | ⟨n, hn', rfl⟩
    · exact fit_none.mono (by decide) (by decide)
    · have z := ok_names n (hn.subset hn')
      exact (fit_str z.2.1 z.2.2).mono (by decide) (by decide)
theorem bndd_is {d : PyData} {fl ns : List Str} {cs : List (PyData × PyData)} (e : BndD d fl ns) (hn : SubN ns) (hc : ∀ n ∈ ns, ∃ v, (PyData.str n, v) ∈ cs) : isBinding (fl.map .str) cs d = true := by
  obtain ⟨x, ds, m, rfl, x1, x4, xl, ef, hm⟩ := e
  show (isKeys (.str x) && areSettings (fl.map .str) (.dict ds) && cmdOk cs m) = true
  rw [effd_set ef]
  have e1 : isKeys (.str x) = true := by
    show (decide (1 ≤ (x.length : Int)) && decide ((x.length : Int) ≤ 4) && letters x) = true
    rw [xl, decide_eq_true (by omega), decide_eq_true (by omega)]
    rfl
  rw [e1]
  rcases hm with rfl | ⟨n, hn', rfl⟩
  · rfl
  · show (true && true && (isName (.str n) && memC cs (.str n))) = true
    rw [(ok_names n (hn.subset hn')).1]
    obtain ⟨v, hv⟩ := hc n hn'
    have z : memC cs (.str n) = true := List.any_eq_true.mpr ⟨_, hv, isS_self n⟩
    rw [z]
    rfl
theorem bnds_da {fl ns : List Str} : ∀ bs : List V, (∀ b ∈ bs, Bnd H b fl ns) → ∃ ds, DaAll K H bs ds ∧ (∀ d ∈ ds, BndD d fl ns) ∧ ds.length = bs.length
  | [], _ => ⟨[], .nil, (fun p hp => by cases hp), rfl⟩
  | b :: r, h => by
    obtain ⟨d, h1, h2⟩ := bnd_da (K := K) (h b List.mem_cons_self)
    obtain ⟨ds, k1, k2, k3⟩ := bnds_da r fun x hx => h x (List.mem_cons_of_mem _ hx)
    refine ⟨d :: ds, .cons h1 k1, fun p hp => ?_, by simp [k3]⟩
    rcases List.mem_cons.mp hp with rfl | hp
    · exact h2
    · exact k2 p hp
theorem lays_da {fl ns : List Str} : ∀ ks : List (Addr × List V), (∀ e ∈ ks, H e.1 = some (.tup e.2) ∧ ∀ b ∈ e.2, Bnd H b fl ns) → ∃ ls, DaAll K H (ks.map fun e => .ref e.1) ls ∧ (∀ l ∈ ls, ∃ ds, l = PyData.tuple ds ∧ (∀ d ∈ ds, BndD d fl ns) ∧ ds.length ≤ cnt ks) ∧ ls.length = ks.length ∧ (ls.map lenT).sum = cnt ks
  | [], _ => ⟨[], .nil, (fun p hp => by cases hp), rfl, rfl⟩
  | e :: r, h => by
    obtain ⟨h1, h2⟩ := h e List.mem_cons_self
    obtain ⟨ds, a1, a2, a3⟩ := bnds_da (K := K) e.2 h2
    obtain ⟨ls, k1, k2, k3, k4⟩ := lays_da r fun x hx => h x (List.mem_cons_of_mem _ hx)
    have ec : cnt (e :: r) = e.2.length + cnt r := by
      unfold cnt
      rw [List.map_cons, List.sum_cons]
    refine ⟨.tuple ds :: ls, .cons (.tup (Or.inl h1) a1) k1, fun p hp => ?_, by simp [k3], ?_⟩
    · rcases List.mem_cons.mp hp with rfl | hp
      · exact ⟨ds, rfl, a2, by omega⟩
      · obtain ⟨ds', q1, q2, q3⟩ := k2 p hp
        exact ⟨ds', q1, q2, by omega⟩
    · rw [List.map_cons, List.sum_cons, k4, ec]
      show ds.length + _ = _
      omega
theorem cmd_kv {ns fl : List Str} : ∀ kvs : List (Key × V), (∀ kv ∈ kvs, ∃ n v, kv = (.inr n, v) ∧ n ∈ ns ∧ Eff H v fl) → ∃ cs, DaKv K H kvs cs ∧ (∀ p ∈ cs, ∃ n ds, p = (PyData.str n, PyData.dict ds) ∧ n ∈ ns ∧ EffD ds fl) ∧ cs.length = kvs.length ∧ ∀ n v, (Sum.inr n, v) ∈ kvs → ∃ d, (PyData.str n, d) ∈ cs
  | [], _ => ⟨[], .nil, (fun p hp => by cases hp), rfl, (fun n v hp => by cases hp)⟩
  | kv :: r, h => by
    obtain ⟨n, v, rfl, hn, ef⟩ := h kv List.mem_cons_self
    obtain ⟨ds, a1, a2⟩ := eff_da (K := K) ef
    obtain ⟨cs, h1, h2, h3, h4⟩ := cmd_kv r fun x hx => h x (List.mem_cons_of_mem _ hx)
    refine ⟨(.str n, .dict ds) :: cs, .cons (k := .inr n) a1 h1, fun p hp => ?_, by simp [h3], fun m u hm => ?_⟩
    · rcases List.mem_cons.mp hp with rfl | hp
      · exact ⟨n, ds, rfl, hn, a2⟩
      · exact h2 p hp
    · rcases List.mem_cons.mp hm with e | hm
      · cases e
        exact ⟨_, List.mem_cons_self⟩
      · obtain ⟨d, hd⟩ := h4 m u hm
        exact ⟨d, List.mem_cons_of_mem _ hd⟩
/-- a keymap as data -/
def MapD (d : PyData) : Prop := isMap d = true ∧ Fit d 2000000 10
theorem map_da {v : V} (e : MapH H v) : ∃ d, Da K H v d ∧ MapD d := by
  obtain ⟨m, t, o, cd, ly, fl, ol, ns, ks, i, rfl, hm, ht, ho, s1, s2, s3, ⟨kvs, c1, c2, c3, c4, c5⟩, i1, i2, hly, k1, k4, kc, hk⟩ := e
  obtain ⟨cs, d1, d2, d3, d4⟩ := cmd_kv (K := K) kvs c3
  obtain ⟨ls, l1, l2, l3, l4⟩ := lays_da (K := K) ks hk
  have f1 := ok_flags fl s1.1
  have f2 := ok_outside fl s1.1 ol (mem_subs s2)
  have hc : ∀ n ∈ ns, ∃ v, (PyData.str n, v) ∈ cs := fun n hn => by
    obtain ⟨v, hv⟩ := c4 n hn
    exact d4 n v hv
  refine ⟨.tuple [.tuple (fl.map .str), .tuple (ol.map .str), .dict cs, .tuple ls, .int i], .tup (Or.inl hm) (.cons (.tup ht (da_strs fl)) (.cons (.tup ho (da_strs ol)) (.cons (.dct (Or.inl c1) c2 d1) (.cons (.tup (Or.inl hly) l1) (.cons (.int i) .nil))))), ?_, ?_⟩
  · show (areFlags (.tuple (fl.map .str)) && areOutside (fl.map .str) (.tuple (ol.map .str)) && areCommands (fl.map .str) (.dict cs) && areLayers (fl.map .str) cs (.tuple ls) && isWithin 1 1000 (.int i)) = true
    have e1 : areCommands (fl.map .str) (.dict cs) = true := by
      show (decide (cs.length ≤ 8) && cs.all fun p => isName p.1 && areSettings (fl.map .str) p.2) = true
      rw [decide_eq_true (by omega), Bool.true_and]
      refine List.all_eq_true.mpr fun p hp => ?_
      obtain ⟨n, ds, rfl, hn, ef⟩ := d2 p hp
      rw [Bool.and_eq_true]
      exact ⟨(ok_names n (s3.subset hn)).1, effd_set ef⟩
    have e2 : areLayers (fl.map .str) cs (.tuple ls) = true := by
      show (decide (1 ≤ ls.length) && decide (ls.length ≤ 4) && ls.all isTup && decide ((ls.map lenT).sum ≤ 16) && ls.all fun l => (itemsT l).all (isBinding (fl.map .str) cs)) = true
      rw [decide_eq_true (by omega), decide_eq_true (by omega), decide_eq_true (by omega)]
      simp only [Bool.and_eq_true, Bool.and_true, Bool.true_and]
      refine ⟨List.all_eq_true.mpr fun l hl => ?_, List.all_eq_true.mpr fun l hl => ?_⟩
      · obtain ⟨ds, rfl, _⟩ := l2 l hl
        rfl
      · obtain ⟨ds, rfl, hb, _⟩ := l2 l hl
        exact List.all_eq_true.mpr fun d hd => bndd_is (hb d hd) s3 hc
    have e3 : isWithin 1 1000 (.int i) = true := by
      show (decide (1 ≤ i) && decide (i ≤ 1000)) = true
      rw [decide_eq_true i1, decide_eq_true i2]
      rfl
    rw [f1.1, f2.1, e1, e2, e3]
    rfl
  · refine (fit_tuple (B := 330000) (D := 4) (n := 5) (fun d hd => ?_) (Nat.le_refl _) (by decide)).mono (by decide) (by decide)
    have fstr : ∀ xs : List Str, (∀ x ∈ xs, x ∈ FLAGS) ∧ xs.length ≤ 3 → Fit (.tuple (xs.map PyData.str)) 400 1 := fun xs hx => by
      refine (fit_tuple (B := 100) (D := 0) (n := 3) (fun d hd => ?_) (by rw [List.length_map]; exact hx.2) (by decide)).mono (by decide) (by decide)
      obtain ⟨x, hx', rfl⟩ := List.mem_map.mp hd
      have z := ok_fnames x (hx.1 x hx')
      exact fit_str z.1 z.2
    simp only [List.mem_cons, List.not_mem_nil, or_false] at hd
    rcases hd with rfl | rfl | rfl | rfl | rfl
    · exact (fstr fl ⟨fun x hx => s1.subset hx, s1.length_le⟩).mono (by decide) (by decide)
    · exact (fstr ol ⟨fun x hx => s1.subset (s2.subset hx), Nat.le_trans s2.length_le s1.length_le⟩).mono (by decide) (by decide)
    · refine (fit_dict (B := 1000) (D := 1) (n := 8) (fun p hp => ?_) (by omega) (by decide)).mono (by decide) (by decide)
      obtain ⟨n, ds, rfl, hn, ef⟩ := d2 p hp
      have z := ok_names n (s3.subset hn)
      exact ⟨⟨z.2.1, (fit_str z.2.1 z.2.2).2.2.1, rfl⟩, effd_fit ef s1⟩
    · refine (fit_tuple (B := 65000) (D := 3) (n := 4) (fun l hl => ?_) (by omega) (by decide)).mono (by decide) (by decide)
      obtain ⟨ds, rfl, hb, hl⟩ := l2 l hl
      exact (fit_tuple (B := 4000) (D := 2) (n := 16) (fun d hd => bndd_fit (hb d hd) s1 s3) (by omega) (by decide)).mono (by decide) (by decide)
    · refine ⟨?_, rfl, by simp only [wgt]; omega, by simp only [PyData.depth]; omega⟩
      show (decide (0 ≤ i) && decide (i ≤ 1000)) = true
      rw [decide_eq_true (by omega), decide_eq_true i2]
      rfl
end
end Pr
set_option maxRecDepth 100000
set_option maxHeartbeats 2000000
namespace Pr
open PySem PySem.Spec PyProof.Rows L2 GxR Gx Rp Dl Pd Tx
section
variable {P : Program} {w : World} {K : PySem.W.Frag} {mg : Str → Option Value} {base : Heap} {T : List Addr}
theorem da_bools {H : Hp} : ∀ bs : List Bool, DaAll K H (bs.map V.bl) (bs.map PyData.bool)
  | [] => .nil
  | b :: r => .cons (.bl b) (da_bools r)
def spState : Sp := fun vs H Q _ => ∃ (p cc m t : Addr) (rest : List V) (a : Nat) (fl : List Str), vs = [.ref p, .ref m] ∧ PenAt H p cc a ∧ a + 3 ≤ 100000 ∧ H m = some (.tup (.ref t :: rest)) ∧ Rd H t (.tup (fl.map V.str)) ∧ fl.length ≤ 3 ∧ ∀ (H' : Hp) (s : Addr) (bs : List Bool), GeP p H H' → PenAt H' p cc (a + 3) → H' s = some (.tup (bs.map V.bl)) → bs.length = fl.length → Q (.ref s) H'
abbrev nLState : List Str := ["_law_pen", "_law_keymap", "_law_flag"]
theorem scLState : FnScope nLState ["_law_pen", "_law_keymap"] (defScope s_law_draw_state) := ⟨rfl, rfl, rfl, by decide +kernel, rfl, by decide +kernel, by decide +kernel⟩
theorem ok_law_draw_state {f c : Addr} {fd : FuncData} (F : FunC K "_law_draw_state" s_law_draw_state f fd c) (B : Bn mg) (D3 : DfP P w K mg base 2 "_law_take" ["_law_pen", "_law_amount"] spTake) : FnOk P w K mg base CX0 3 f fd ["_law_pen", "_law_keymap"] spState := by
  refine F.ok scLState (fun vs H Q E ⟨_, _, _, _, _, _, _, h, _⟩ => by rw [h]; rfl) (fun A outer s H vs Q E hr h => ?_)
  obtain ⟨p, cc, m, t, rest, a, fl, rfl, hp, ha, hm, ht, h3, q⟩ := h
  refine ⟨_, pss_one (ps_ret (pe_callTy call_tuple_of rfl B.tuple bt_tuple (pa_cons (pe_lc (own := [("_law_flag", 2)]) (g := gName 2) (tt := tYes) rfl scLState.nd (pi_tup (pe_ix ix_tup (pv 1) pe_int (fun _ _ => rfl))) (blkOk_by (N := nLState) (sc := defScope s_law_draw_state) (by decide +kernel)) (fun _ _ _ _ _ => pg_name (i := 2) scLState.nd rfl (Or.inl rfl))
        (fun _ _ _ _ _ => pts_nil) (fun _ _ _ _ _ => pe_cmp (pc_eqI (pcall D3 hr pass0 rfl (pa_cons (pv 0) (pa_cons pe_int pa_nil))) pe_int))) pa_nil))), ?_⟩
  obtain ⟨px, hpx⟩ := hp.lst
  refine ⟨_, rfl, m, _, _, _, rfl, rfl, SqT.of hm, atI_nat (j := 0) rfl, t, rfl, ⟨_, Or.inl ht⟩, fun D hD => ?_⟩
  have fD := hp.fresh hD
  refine lc_tup (xs := fl.map V.str) (fun k H' => k ≤ fl.length ∧ GeP p H H' ∧ PenAt H' p cc (a + k) ∧ ∃ bs : List Bool, H' D = some (.lst (bs.map V.bl)) ∧ bs.length = k)
    ⟨Nat.zero_le _, GeP.of (Ge.new hD), hp.ge (Ge.new hD), [], upd_same, rfl⟩ (fun k H' _ z => Or.inl (z.2.1.rd hpx (fun ps z => by cases z) (fun ys z => by cases z) ht)) ?_ ?_
  · rintro k x H1 hx ⟨hk, g, hp1, bs, k1, k2⟩
    have hk' : k < fl.length := by
      have := (List.getElem?_eq_some_iff.mp hx).1
      rwa [List.length_map] at this
    refine ⟨rfl, _, rfl, p, cc, 2, a + k, rfl, hp1, by omega, by decide, by decide, fun H2 r g2 hp2 r0 r1 => ⟨r, 0, rfl, rfl, ?_⟩⟩
    have kD := g2.1 D _ fD.1 k1 (fun ps z => by cases z)
    refine ⟨_, kD, ?_, hk', (g.trans g2).upd (Nw.none hD), hp2.upd fD.1 fD.2, bs ++ [r == 0], ?_, ?_⟩
    · rw [List.length_map, k2]
      exact Nat.lt_of_lt_of_le hk' (Nat.le_trans h3 (by decide))
    · rw [upd_same, List.map_append]
      rfl
    · rw [List.length_append, k2]
      rfl
  · rintro H1 ⟨hk, g, hp1, bs, k1, k2⟩
    rw [List.length_map] at hp1 k2
    refine ⟨D, _, rfl, Or.inl ⟨SqL.of k1, fun s hs => ?_⟩⟩
    exact q _ s bs (g.trans (GeP.of (Ge.new hs))) ((hp1.mono (by omega)).ge (Ge.new hs)) upd_same k2
/-! ### things -/
/-- what is judged: its data, and what is due -/
def TD (K : PySem.W.Frag) (n : Nat) (H : Hp) (x : V) (due : Bool) : Prop := ∃ d, Da K H x d ∧ okD d = true ∧ wgt d ≤ 100000 ∧ d.depth ≤ 20 ∧ (d.hasDict = true → noL d = true) ∧ fitsState n d = due
def Thing (K : PySem.W.Frag) (n : Nat) (H : Hp) (q : Addr) : Prop := ∃ x due, H q = some (.tup [x, .bl due]) ∧ TD K n H x due
theorem TD.ge {n : Nat} {H H' : Hp} {x : V} {due : Bool} (h : TD K n H x due) (g : Ge H H') : TD K n H' x due := let ⟨d, h1, h2⟩ := h; ⟨d, g.da h1, h2⟩
theorem Thing.ge {n : Nat} {H H' : Hp} {q : Addr} (h : Thing K n H q) (g : Ge H H') : Thing K n H' q := let ⟨x, due, h1, h2⟩ := h; ⟨x, due, g.1 q _ h1 (fun ps z => by cases z), h2.ge g⟩
/-- x, due -/
theorem rd_pair {n : Nat} {te : TE} {σ : L2.St} {H : Hp} {due : Bool} {R : VK} (h : ∀ Q : VK, (∀ x H1, Ge H H1 → TD K n H1 x due → Q x H1) → te σ H Q) (hR : ∀ q H2, Ge H H2 → Thing K n H2 q → R (.ref q) H2) : tTup (tCons te (tCons (tC (.bl due)) tNil)) σ H R :=
  h _ fun x H1 g t => ⟨(by decide : 2 ≤ sizeLine), fun q hq => hR q _ (g.trans (Ge.new hq)) ⟨x, due, upd_same, t.ge (Ge.new hq)⟩⟩
theorem rd_ths {n : Nat} {tp : TE} {tr : TA} {σ : L2.St} {H : Hp} {k : Nat} (h1 : ∀ R : VK, (∀ q H1, Ge H H1 → Thing K n H1 q → R (.ref q) H1) → tp σ H R)
    (h2 : ∀ H1, Ge H H1 → ∀ R : List V → Hp → Prop, (∀ (ts : List Addr) H2, ts.length = k → Ge H1 H2 → (∀ q ∈ ts, Thing K n H2 q) → R (ts.map V.ref) H2) → tr σ H1 R) :
    ∀ R : List V → Hp → Prop, (∀ (ts : List Addr) H2, ts.length = k + 1 → Ge H H2 → (∀ q ∈ ts, Thing K n H2 q) → R (ts.map V.ref) H2) → tCons tp tr σ H R := fun R hR =>
  h1 _ fun q H1 g1 t1 => h2 H1 g1 _ fun ts H2 hl g2 hts => hR (q :: ts) H2 (by simp [hl]) (g1.trans g2) fun x hx => by
    rcases List.mem_cons.mp hx with rfl | hx
    · exact t1.ge g2
    · exact hts x hx
theorem rd_ths0 {n : Nat} {σ : L2.St} {H : Hp} : ∀ R : List V → Hp → Prop, (∀ (ts : List Addr) H2, ts.length = 0 → Ge H H2 → (∀ q ∈ ts, Thing K n H2 q) → R (ts.map V.ref) H2) → tNil σ H R := fun R hR => hR [] H rfl (Ge.refl H) fun q hq => by cases hq
/-- t + u, all ways alike -/
theorem rd_cat {H : Hp} {a b : Addr} {xs ys : List V} {Q : VK} (ha : Rd H a (.tup xs)) (hb : Rd H b (.tup ys)) (hz : xs.length + ys.length ≤ sizeLine) (q : ∀ H' c, Ge H H' → Rd H' c (.tup (xs ++ ys)) → Q (.ref c) H') : rCatA K (.ref a) (.ref b) H Q := by
  refine ⟨a, b, xs, ys, rfl, rfl, Or.inl ha, Or.inl hb, hz, fun e => ?_, fun _ e => ?_, fun _ _ p hp => q _ p (Ge.new hp) (Or.inl upd_same)⟩
  · subst e
    exact q H b (Ge.refl H) hb
  · subst e
    exact q H a (Ge.refl H) (by rw [List.append_nil]; exact ha)
theorem rd_slA {H : Hp} {a : Addr} {xs : List V} {lo hi : Option Int} {Q : VK} (ha : Rd H a (.tup xs)) (q : ∀ H' c, Ge H H' → Rd H' c (.tup (cutV xs lo hi)) → Q (.ref c) H') : rSlA K (.ref a) lo hi H Q := by
  refine ⟨a, xs, rfl, Or.inl ha, fun e => ?_, fun _ p hp => q _ p (Ge.new hp) (Or.inl upd_same)⟩
  refine q H a (Ge.refl H) ?_
  unfold cutV
  rw [e.1, e.2]
  simpa using ha
/-- the heap without what stands at F -/
def wo (F : Addr) (H : Hp) : Hp := fun b => if b = F then none else H b
theorem wo_ge {F : Addr} {H : Hp} : Ge (wo F H) H := by
  refine ⟨fun a o e _ => ?_, fun a ⟨ps, e, t⟩ => ⟨ps, ?_, t⟩⟩ <;> unfold wo at e <;> by_cases z : a = F
  · rw [if_pos z] at e; cases e
  · rw [if_neg z] at e; exact e
  · rw [if_pos z] at e; cases e
  · rw [if_neg z] at e; exact e
theorem wo_ne {F b : Addr} {H : Hp} (h : b ≠ F) : wo F H b = H b := if_neg h
theorem wo_upd {F : Addr} {H : Hp} {o : HO} : wo F (upd H F o) = wo F H := by
  funext b
  unfold wo
  by_cases z : b = F
  · rw [if_pos z, if_pos z]
  · rw [if_neg z, if_neg z, upd_ne z]
theorem wo_mono {F : Addr} {H H' : Hp} {xs : List V} (g : Ge H H') (hF : H F = some (.lst xs)) : Ge (wo F H) (wo F H') := by
  refine ⟨fun a o e n => ?_, fun a ⟨ps, e, t⟩ => ?_⟩
  · by_cases z : a = F
    · unfold wo at e
      rw [if_pos z] at e
      cases e
    · rw [wo_ne z] at e ⊢
      exact g.1 a o e n
  · by_cases z : a = F
    · unfold wo at e
      rw [if_pos z] at e
      cases e
    · rw [wo_ne z] at e
      obtain ⟨qs, e', t'⟩ := g.2 a ⟨ps, e, t⟩
      exact ⟨qs, by rw [wo_ne z]; exact e', t'⟩
theorem wo_new {F : Addr} {H : Hp} {o : HO} (h : H F = none) : Ge H (wo F (upd H F o)) := by
  rw [wo_upd]
  refine ⟨fun a u e n => ?_, fun a ⟨ps, e, t⟩ => ⟨ps, ?_, t⟩⟩
  · rw [wo_ne (ne_of_none e h)]
    exact e
  · rw [wo_ne (ne_of_none e h)]
    exact e
end
end Pr
set_option maxRecDepth 100000
set_option maxHeartbeats 4000000
namespace Pr
open PySem PySem.Spec PyProof.Rows L2 GxR Gx Rp Dl Pd Tx
theorem okAll_app : ∀ xs ys : List PyData, okAll (xs ++ ys) = (okAll xs && okAll ys)
  | [], ys => by simp [okAll]
  | x :: r, ys => by simp [okAll, okAll_app r ys, Bool.and_assoc]
theorem wgtAll_app : ∀ xs ys : List PyData, wgtAll (xs ++ ys) = wgtAll xs + wgtAll ys
  | [], ys => by simp [wgtAll]
  | x :: r, ys => by simp [wgtAll, wgtAll_app r ys, Nat.add_assoc]
theorem depthAll_app : ∀ xs ys : List PyData, PyData.depthAll (xs ++ ys) = max (PyData.depthAll xs) (PyData.depthAll ys)
  | [], ys => by simp [PyData.depthAll]
  | x :: r, ys => by simp [PyData.depthAll, depthAll_app r ys, Nat.max_assoc]
theorem noLAll_app : ∀ xs ys : List PyData, noLAll (xs ++ ys) = (noLAll xs && noLAll ys)
  | [], ys => by simp [noLAll]
  | x :: r, ys => by simp [noLAll, noLAll_app r ys, Bool.and_assoc]
theorem hasDictAll_app : ∀ xs ys : List PyData, PyData.hasDictAll (xs ++ ys) = (PyData.hasDictAll xs || PyData.hasDictAll ys)
  | [], ys => by simp [PyData.hasDictAll]
  | x :: r, ys => by simp [PyData.hasDictAll, hasDictAll_app r ys, Bool.or_assoc]
theorem bools_all : ∀ bs : List Bool, okAll (bs.map .bool) = true ∧ wgtAll (bs.map .bool) = 7 * bs.length ∧ PyData.depthAll (bs.map .bool) = 0 ∧ noLAll (bs.map .bool) = true ∧ PyData.hasDictAll (bs.map .bool) = false ∧ (bs.map PyData.bool).all isBoolD = true
  | [] => ⟨rfl, rfl, rfl, rfl, rfl, rfl⟩
  | b :: r => by
    obtain ⟨h1, h2, h3, h4, h5, h6⟩ := bools_all r
    refine ⟨by simp [okAll, okD, h1], ?_, by simp [PyData.depthAll, PyData.depth, h3], by simp [noLAll, noL, h4], by simp [PyData.hasDictAll, PyData.hasDict, h5], ?_⟩
    · simp only [List.map_cons, wgtAll, wgt, h2, List.length_cons]
      omega
    · rw [List.map_cons, List.all_cons, h6]
      rfl
section
variable {K : PySem.W.Frag} {H : Hp} {n : Nat}
theorem td_bools {c : Addr} {cs : List Bool} (h : Rd H c (.tup (cs.map V.bl))) (hl : cs.length ≤ 50) : TD K n H (.ref c) (decide (cs.length = n)) := by
  obtain ⟨h1, h2, h3, h4, h5, h6⟩ := bools_all cs
  refine ⟨.tuple (cs.map .bool), .tup h (da_bools cs), ?_, ?_, ?_, fun _ => by simp only [noL, h4], ?_⟩
  · simp only [okD, h1, Bool.and_true, List.length_map]
    exact decide_eq_true (by omega)
  · simp only [wgt, h2]
    omega
  · simp only [PyData.depth, h3]
    omega
  · show (decide ((cs.map PyData.bool).length = n) && (cs.map PyData.bool).all isBoolD) = _
    rw [h6, List.length_map, Bool.and_true]
theorem td_list {c : Addr} {cs : List Bool} (h : Rd H c (.lst (cs.map V.bl))) (hl : cs.length ≤ 50) : TD K n H (.ref c) false := by
  obtain ⟨h1, h2, h3, h4, h5, h6⟩ := bools_all cs
  refine ⟨.list (cs.map .bool), .lst h (da_bools cs), ?_, ?_, ?_, fun z => ?_, rfl⟩
  · simp only [okD, h1, Bool.and_true, List.length_map]
    exact decide_eq_true (by omega)
  · simp only [wgt, h2]
    omega
  · simp only [PyData.depth, h3]
    omega
  · simp only [PyData.hasDict, h5] at z
    cases z
theorem td_wrap {c b : Addr} {cs : List Bool} (h : Rd H c (.tup (cs.map V.bl))) (hb : Rd H b (.tup [.ref c])) (hl : cs.length ≤ 50) : TD K n H (.ref b) false := by
  obtain ⟨h1, h2, h3, h4, h5, h6⟩ := bools_all cs
  refine ⟨.tuple [.tuple (cs.map .bool)], .tup hb (.cons (.tup h (da_bools cs)) .nil), ?_, ?_, ?_, fun _ => by simp only [noL, noLAll, h4, Bool.and_self], ?_⟩
  · simp only [okD, okAll, h1, Bool.and_true, List.length_map]
    rw [Bool.and_eq_true]
    exact ⟨decide_eq_true (by show 1 ≤ 100; omega), decide_eq_true (by omega)⟩
  · simp only [wgt, wgtAll, h2]
    omega
  · simp only [PyData.depth, PyData.depthAll, h3]
    omega
  · show (decide ([PyData.tuple (cs.map .bool)].length = n) && [PyData.tuple (cs.map .bool)].all isBoolD) = false
    rw [show [PyData.tuple (cs.map .bool)].all isBoolD = false from rfl, Bool.and_false]
theorem td_non : TD K n H .non false := ⟨.none, .non, rfl, by simp [wgt], by simp [PyData.depth], fun _ => rfl, rfl⟩
theorem td_bl {b : Bool} : TD K n H (.bl b) false := ⟨.bool b, .bl b, rfl, by simp [wgt], by simp [PyData.depth], fun _ => rfl, rfl⟩
theorem td_str0 {x : Str} (h : okD (.str x) = true) : TD K n H (.str x) false := ⟨.str x, .str x, h, by
  have h' : (decide (x.length ≤ 100) && x.cps.toList.all (fun c => decide (c < 128))) = true := h
  rw [Bool.and_eq_true] at h'
  have := of_decide_eq_true h'.1
  simp only [wgt]
  omega, by simp [PyData.depth], fun _ => rfl, rfl⟩
theorem td_int {i : Int} (h0 : 0 ≤ i) (h1 : i ≤ 1000) : TD K n H (.int i) false := ⟨.int i, .int i, by
  show (decide (0 ≤ i) && decide (i ≤ 1000)) = true
  rw [decide_eq_true h0, decide_eq_true h1]
  rfl, by simp [wgt], by simp [PyData.depth], fun _ => rfl, rfl⟩
theorem td_dict {d : Addr} (h : H d = some (.dK [])) : TD K n H (.ref d) false := ⟨.dict [], .dct (Or.inl h) List.nodup_nil .nil, rfl, by simp [wgt, wgtKv], by simp [PyData.depth, PyData.depthKv], fun _ => rfl, rfl⟩
/-- a piece that is no boolean -/
def Pc (K : PySem.W.Frag) (H : Hp) (x : V) : Prop := ∃ d, Da K H x d ∧ okD d = true ∧ wgt d ≤ 1000 ∧ d.depth ≤ 5 ∧ (d.hasDict = true → noL d = true) ∧ isBoolD d = false
theorem Pc.ge {H' : Hp} {x : V} (h : Pc K H x) (g : Ge H H') : Pc K H' x := let ⟨d, h1, h2⟩ := h; ⟨d, g.da h1, h2⟩
theorem daAll_app : ∀ {xs ys : List V} {ds es : List PyData}, DaAll K H xs ds → DaAll K H ys es → DaAll K H (xs ++ ys) (ds ++ es)
  | [], ys, _, es, h, h' => by cases h; exact h'
  | x :: r, ys, _, es, h, h' => by
    cases h with
    | cons h1 h2 => exact .cons h1 (daAll_app h2 h')
theorem td_piece {c : Addr} {x : V} {b1 b2 : List Bool} (hp : Pc K H x) (h : Rd H c (.tup ((b1.map V.bl ++ [x]) ++ b2.map V.bl))) (h1 : b1.length ≤ 20) (h2 : b2.length ≤ 20) : TD K n H (.ref c) false := by
  obtain ⟨d, hd, p1, p2, p3, p4, p5⟩ := hp
  obtain ⟨a1, a2, a3, a4, a5, a6⟩ := bools_all b1
  obtain ⟨c1, c2, c3, c4, c5, c6⟩ := bools_all b2
  refine ⟨.tuple ((b1.map .bool ++ [d]) ++ b2.map .bool), .tup h (daAll_app (daAll_app (da_bools b1) (.cons hd .nil)) (da_bools b2)), ?_, ?_, ?_, fun z => ?_, ?_⟩
  · simp only [okD, okAll_app, a1, c1, okAll, p1, Bool.and_self, Bool.and_true, List.length_append, List.length_map, List.length_singleton]
    exact decide_eq_true (by omega)
  · simp only [wgt, wgtAll_app, a2, c2, wgtAll]
    omega
  · simp only [PyData.depth, depthAll_app, a3, c3, PyData.depthAll]
    omega
  · simp only [PyData.hasDict, hasDictAll_app, a5, c5, PyData.hasDictAll, Bool.or_false, Bool.false_or] at z
    simp only [noL, noLAll_app, a4, c4, noLAll, p4 z, Bool.and_self]
  · show (decide (((b1.map PyData.bool ++ [d]) ++ b2.map PyData.bool).length = n) && ((b1.map PyData.bool ++ [d]) ++ b2.map PyData.bool).all isBoolD) = false
    rw [List.all_append, List.all_append, show [d].all isBoolD = (isBoolD d && true) from rfl, p5]
    simp
def isI01 (i : Int) : Prop := i = 0 ∨ i = 1
theorem ints_all : ∀ is : List Int, (∀ i ∈ is, isI01 i) → okAll (is.map .int) = true ∧ wgtAll (is.map .int) = 7 * is.length ∧ PyData.depthAll (is.map .int) = 0 ∧ noLAll (is.map .int) = true
  | [], _ => ⟨rfl, rfl, rfl, rfl⟩
  | b :: r, h => by
    obtain ⟨h1, h2, h3, h4⟩ := ints_all r fun i hi => h i (List.mem_cons_of_mem _ hi)
    have hb : okD (.int b) = true := by rcases h b List.mem_cons_self with rfl | rfl <;> rfl
    refine ⟨by simp only [List.map_cons, okAll, hb, h1, Bool.and_self], ?_, by simp [PyData.depthAll, PyData.depth, h3], by simp [noLAll, noL, h4]⟩
    simp only [List.map_cons, wgtAll, wgt, h2, List.length_cons]
    omega
theorem da_ints : ∀ is : List Int, DaAll K H (is.map V.int) (is.map PyData.int)
  | [] => .nil
  | i :: r => .cons (.int i) (da_ints r)
theorem td_ints {c : Addr} {is : List Int} (h : Rd H c (.tup (is.map V.int))) (h0 : 0 < is.length) (hl : is.length ≤ 50) (hi : ∀ i ∈ is, isI01 i) : TD K n H (.ref c) false := by
  obtain ⟨h1, h2, h3, h4⟩ := ints_all is hi
  refine ⟨.tuple (is.map .int), .tup h (da_ints is), ?_, ?_, ?_, fun _ => by simp only [noL, h4], ?_⟩
  · simp only [okD, h1, Bool.and_true, List.length_map]
    exact decide_eq_true (by omega)
  · simp only [wgt, h2]
    omega
  · simp only [PyData.depth, h3]
    omega
  · cases is with
    | nil => exact absurd h0 (by decide)
    | cons i r =>
      show (decide (((i :: r).map PyData.int).length = n) && ((i :: r).map PyData.int).all isBoolD) = false
      rw [List.map_cons, List.all_cons, show isBoolD (.int i) = false from rfl, Bool.false_and, Bool.and_false]
end
end Pr
set_option maxRecDepth 100000
set_option maxHeartbeats 2000000
/-! dict(zip(t, u)) of two tuples -/
namespace Zq
open PySem PySem.Spec PyProof.Rows L2 RZ
section
variable {prog : Program} {w : World} {A : Around} {E : Value → Shared → Prop} {s : Shared}
/-- the zip's next pair while the pair before is still held -/
theorem held_body {z TI TO T i1 i2 l1 l2 : Addr} {f : Bool} {oT : Obj} {k : Nat} {xs ys : Array Value} {x y : Value} {Q : Value → Shared → Prop} (D : ZipApart z TI TO i1 i2 l1 l2)
    (hz : IsZipHeld s.heap z TI TO T f) (hT : s.heap.get? T = some oT) (hTI : IsPair s.heap TI (.ref i1) (.ref i2)) (t1 : s.heap.IsTupleIter i1 l1 k) (t2 : s.heap.IsTupleIter i2 l2 k) (u1 : s.heap.IsTuple l1 xs) (u2 : s.heap.IsTuple l2 ys) (hx : xs[k]? = some x) (hy : ys[k]? = some y)
    (hQ : ∀ h', IsZipHeld h' z TI TO T true → h'.IsTupleIter i1 l1 (k + 1) → h'.IsTupleIter i2 l2 (k + 1) → IsPair h' s.heap.objs.size x y → (∀ c o, c ≠ z → c ≠ i1 → c ≠ i2 → s.heap.get? c = some o → h'.get? c = some o) → Q (.ref s.heap.objs.size) { s with heap := h' }) :
    wpAny (model prog w) A (Builtin.«zip.__next__» ⟨[.ref z], []⟩) (fun fin s' => ∃ v, fin = .done (.ret v) ∧ Q v s') E s := by
  refine (show wpAny _ _ (field (.ref z) 2 >>= _) _ _ _ from wpAny_bind (wpAny_field hz rfl (x := .bool false) rfl ?_))
  refine (show wpAny _ _ (field (.ref z) 3 >>= _) _ _ _ from wpAny_bind (wpAny_field hz rfl (x := .ref TI) rfl (wpAny_bind (wpAny_seqItems hTI rfl ?_))))
  refine (show wpAny _ _ (Builtin.SmallTypes.ownedTupleIsFree (.ref z) >>= _) _ _ _ from wpAny_bind (wpAny_tupleHeld_zip hz hT fun g1 z1 b1 => ?_))
  simp only [Bool.false_eq_true, if_false]
  refine wpAny_bind ?_
  rw [← Array.forIn_toList]; simp only [List.forIn_cons, List.forIn_nil]
  refine wpAny_bind (wpAny_bind (wpAny_holding (show wpAny _ _ (Builtin.SmallTypes.nextOf (.ref i1) >>= _) _ _ _ from wpAny_bind (nextOf_tuple_item (s := { s with heap := g1 }) (t1.extBut b1.extBut D.i1z) (u1.extBut b1.extBut D.l1z) hx fun g2 v1 b2 => wpAny_pure (wpAny_pure ?_)))))
  refine wpAny_bind (wpAny_bind (wpAny_holding (show wpAny _ _ (Builtin.SmallTypes.nextOf (.ref i2) >>= _) _ _ _ from wpAny_bind (nextOf_tuple_item (s := { s with heap := g2 }) ((t2.extBut b1.extBut D.i2z).extBut b2.extBut D.i12.symm) ((u2.extBut b1.extBut D.l2z).extBut b2.extBut D.l2i1) hy fun g3 v2 b3 => wpAny_pure (wpAny_pure (wpAny_pure ?_))))))
  refine (show wpAny _ _ (newTuple [x, y] >>= _) _ _ _ from wpAny_bind (wpAny_newTuple (wpAny_pure ⟨_, rfl, ?_⟩)))
  have sz : g3.objs.size = s.heap.objs.size := by rw [b3.1, b2.1, b1.1]
  have kp : ∀ c o, c ≠ z → c ≠ i1 → c ≠ i2 → s.heap.get? c = some o → g3.get? c = some o := fun c o n1 n2 n3 e => b3.extBut _ _ n3 (b2.extBut _ _ n2 (b1.extBut _ _ n1 e))
  have zz : IsZipHeld g3 z TI TO T true := b3.extBut _ _ D.i2z.symm (b2.extBut _ _ D.i1z.symm z1)
  have pr : IsPair (g3.push { cls := .type "tuple", data := .seq #[x, y] }) g3.objs.size x y := Heap.get?_push_size _ rfl
  have up : ∀ c o, g3.get? c = some o → (g3.push { cls := .type "tuple", data := .seq #[x, y] }).get? c = some o := fun c o e => Heap.get?_push_of_some _ e
  show Q (.ref g3.objs.size) _
  rw [sz] at pr ⊢
  exact hQ _ (up _ _ zz) ((v1.extBut b3.extBut D.i12).at fun o e => up _ o e) (v2.at fun o e => up _ o e) pr fun c o n1 n2 n3 e => up c o (kp c o n1 n2 n3 e)
theorem held_item {z TI TO T i1 i2 l1 l2 : Addr} {f : Bool} {oT : Obj} {k : Nat} {xs ys : Array Value} {x y : Value} {Q : Option Value → Shared → Prop} (D : ZipApart z TI TO i1 i2 l1 l2)
    (hz : IsZipHeld s.heap z TI TO T f) (hT : s.heap.get? T = some oT) (hTI : IsPair s.heap TI (.ref i1) (.ref i2)) (t1 : s.heap.IsTupleIter i1 l1 k) (t2 : s.heap.IsTupleIter i2 l2 k) (u1 : s.heap.IsTuple l1 xs) (u2 : s.heap.IsTuple l2 ys) (hx : xs[k]? = some x) (hy : ys[k]? = some y)
    (hQ : ∀ h', IsZipHeld h' z TI TO T true → h'.IsTupleIter i1 l1 (k + 1) → h'.IsTupleIter i2 l2 (k + 1) → IsPair h' s.heap.objs.size x y → (∀ c o, c ≠ z → c ≠ i1 → c ≠ i2 → s.heap.get? c = some o → h'.get? c = some o) → Q (some (.ref s.heap.objs.size)) { s with heap := h' }) :
    wpAny (model prog w) A (pyNext (.ref z)) Q E s := by
  have ty : s.TypeIs (.ref z) "zip" := ⟨_, hz, rfl⟩
  unfold pyNext
  exact wpAny_bind (wpAny_attempt (wpAny_callSpecial?_slot (name := Str.ofString "__next__") ty F.slot_zip_next (wpAny_call_entry F.slot_zip_next ty F.entry_zip_next (held_body D hz hT hTI t1 t2 u1 u2 hx hy fun h' a1 a2 a3 a4 a5 => wpAny_pure (hQ h' a1 a2 a3 a4 a5)) (F.args_zip_next_1 _))))
/-- the end, while the last pair is still held; both are of one length -/
theorem held_end_body {z TI TO T i1 i2 l1 l2 : Addr} {f : Bool} {oT : Obj} {k : Nat} {xs : Array Value} {Q : Fin → Shared → Prop} (hh : A.handled = none) (D : ZipApart z TI TO i1 i2 l1 l2)
    (hz : IsZipHeld s.heap z TI TO T f) (hT : s.heap.get? T = some oT) (hTI : IsPair s.heap TI (.ref i1) (.ref i2)) (t1 : s.heap.IsTupleIter i1 l1 k) (u1 : s.heap.IsTuple l1 xs) (hx : xs[k]? = none)
    (hE : ∀ h' e, (∀ c o, c ≠ z → c ≠ i1 → s.heap.get? c = some o → h'.get? c = some o) → (∃ o, h'.get? e = some o ∧ o.cls = .type "StopIteration") → E (.ref e) { s with heap := h' }) :
    wpAny (model prog w) A (Builtin.«zip.__next__» ⟨[.ref z], []⟩) Q E s := by
  refine (show wpAny _ _ (field (.ref z) 2 >>= _) _ _ _ from wpAny_bind (wpAny_field hz rfl (x := .bool false) rfl ?_))
  refine (show wpAny _ _ (field (.ref z) 3 >>= _) _ _ _ from wpAny_bind (wpAny_field hz rfl (x := .ref TI) rfl (wpAny_bind (wpAny_seqItems hTI rfl ?_))))
  refine (show wpAny _ _ (Builtin.SmallTypes.ownedTupleIsFree (.ref z) >>= _) _ _ _ from wpAny_bind (wpAny_tupleHeld_zip hz hT fun g1 z1 b1 => ?_))
  simp only [Bool.false_eq_true, if_false]
  refine wpAny_bind ?_
  rw [← Array.forIn_toList]; simp only [List.forIn_cons, List.forIn_nil]
  exact wpAny_bind (wpAny_bind (wpAny_holding (show wpAny _ _ (Builtin.SmallTypes.nextOf (.ref i1) >>= _) _ _ _ from wpAny_bind (nextOf_tuple_end (s := { s with heap := g1 }) hh (t1.extBut b1.extBut D.i1z) (u1.extBut b1.extBut D.l1z) hx fun g2 e b2 he => hE g2 e (fun c o n1 n2 x => b2 _ _ n2 (b1.extBut _ _ n1 x)) he))))
theorem held_end {z TI TO T i1 i2 l1 l2 : Addr} {f : Bool} {oT : Obj} {k : Nat} {xs : Array Value} {Q : Option Value → Shared → Prop} (hh : A.handled = none) (D : ZipApart z TI TO i1 i2 l1 l2)
    (hz : IsZipHeld s.heap z TI TO T f) (hT : s.heap.get? T = some oT) (hTI : IsPair s.heap TI (.ref i1) (.ref i2)) (t1 : s.heap.IsTupleIter i1 l1 k) (u1 : s.heap.IsTuple l1 xs) (hx : xs[k]? = none)
    (hQ : ∀ h', (∀ c o, c ≠ z → c ≠ i1 → s.heap.get? c = some o → h'.get? c = some o) → Q none { s with heap := h' }) : wpAny (model prog w) A (pyNext (.ref z)) Q E s := by
  have ty : s.TypeIs (.ref z) "zip" := ⟨_, hz, rfl⟩
  unfold pyNext
  refine wpAny_bind (wpAny_attempt (wpAny_callSpecial?_slot (name := Str.ofString "__next__") ty F.slot_zip_next (wpAny_call_entry F.slot_zip_next ty F.entry_zip_next (held_end_body hh D hz hT hTI t1 u1 hx fun h' e kp he => ?_) (F.args_zip_next_1 _))))
  obtain ⟨o, ho, hc⟩ := he
  exact wpAny_bind (wpAny_isInstance (T := "StopIteration") (b := true) ⟨o, ho, hc⟩ isSubtype_stop (wpAny_pure (hQ _ kp)))
end
section
variable {prog : Program} {w : World}
/-- what a zip of two tuples that has not begun is known by -/
def Ok0 (z TI TO i1 i2 l1 l2 : Addr) (xs ys : Array Value) (h : Heap) : Prop := IsZip h z TI TO .none ∧ IsPair h TI (.ref i1) (.ref i2) ∧ (∃ a b, IsPair h TO a b) ∧ h.IsTupleIter i1 l1 0 ∧ h.IsTupleIter i2 l2 0 ∧ h.IsTuple l1 xs ∧ h.IsTuple l2 ys
/-- under way, while at d a dict is filled -/
def Stz (z TI TO i1 i2 l1 l2 d : Addr) (xs ys : Array Value) (i : Nat) (h : Heap) : Prop := (IsPair h TI (.ref i1) (.ref i2) ∧ h.IsTupleIter i1 l1 i ∧ h.IsTupleIter i2 l2 i ∧ h.IsTuple l1 xs ∧ h.IsTuple l2 ys) ∧
  ((IsZip h z TI TO .none ∧ ∃ a b, IsPair h TO a b) ∨ ∃ T f oT, IsZipHeld h z TI TO T f ∧ h.get? T = some oT ∧ T ≠ z ∧ T ≠ i1 ∧ T ≠ i2 ∧ T ≠ d)
theorem src {A : Around} {z TI TO i1 i2 l1 l2 d : Addr} {xs ys : Array Value} (hA : A.handled = none) (D : ZipApart z TI TO i1 i2 l1 l2) (hn : xs.size = ys.size) (nd : d ∉ [z, TI, TO, i1, i2, l1, l2]) :
    PairSrc prog w A z d [z, TO, i1, i2] xs.size (fun i k v => xs[i]? = some k ∧ ys[i]? = some v) (Stz z TI TO i1 i2 l1 l2 d xs ys) := by
  simp only [List.mem_cons, List.not_mem_nil, or_false, not_or] at nd
  obtain ⟨n1, n2, n3, n4, n5, n6, n7⟩ := nd
  constructor
  · simp only [List.mem_cons, List.not_mem_nil, or_false, not_or]
    exact ⟨n1, n3, n4, n5⟩
  · rintro i h h' ⟨⟨a1, a2, a3, a4, a5⟩, q⟩ k
    refine ⟨⟨k _ _ (Ne.symm n2) a1, a2.at fun o e => k _ o (Ne.symm n4) e, a3.at fun o e => k _ o (Ne.symm n5) e, a4.at fun o e => k _ o (Ne.symm n6) e, a5.at fun o e => k _ o (Ne.symm n7) e⟩, ?_⟩
    rcases q with ⟨q, a, b, q2⟩ | ⟨T, f, oT, q, q2, r1, r2, r3, r4⟩
    · exact Or.inl ⟨k _ _ (Ne.symm n1) q, a, b, k _ _ (Ne.symm n3) q2⟩
    · exact Or.inr ⟨T, f, oT, k _ _ (Ne.symm n1) q, k _ _ r4 q2, r1, r2, r3, r4⟩
  · rintro i s Q E hi ⟨⟨a1, a2, a3, a4, a5⟩, q⟩ hds hQ
    have ex := Array.getElem?_eq_getElem hi
    have ey := Array.getElem?_eq_getElem (show i < ys.size by omega)
    have big : ∀ {c o}, s.heap.get? c = some o → s.heap.objs.size ≠ c := fun e => Nat.ne_of_gt (Heap.lt_size e)
    have m1 : s.heap.objs.size ≠ i1 := let ⟨_, e, _⟩ := a2; big e
    have m2 : s.heap.objs.size ≠ i2 := let ⟨_, e, _⟩ := a3; big e
    rcases q with ⟨q, a, b, q2⟩ | ⟨T, f, oT, q, q2, r1, r2, r3, r4⟩
    · refine pyNext_zipT_item D q a1 q2 a2 a3 a4 a5 ex ey fun h' b1 b2 b3 b4 b5 b6 k => ?_
      refine hQ s.heap.objs.size _ _ h' s.toks ⟨ex, ey⟩ (.inl ⟨_, b5, rfl, _, rfl⟩) ⟨⟨k _ _ D.TIz D.TITO D.TIi1 D.TIi2 a1, b3, b4, a4.at fun o e => k _ o D.l1z D.l1TO D.l1i1 D.l1i2 e, a5.at fun o e => k _ o D.l2z D.l2TO D.l2i1 D.l2i2 e⟩, ?_⟩ ?_
      · exact Or.inr ⟨s.heap.objs.size, false, _, b1, b5, big q, m1, m2, Nat.ne_of_gt hds⟩
      · intro c o hc e
        simp only [List.mem_cons, List.not_mem_nil, or_false, not_or] at hc
        exact k c o hc.1 hc.2.1 hc.2.2.1 hc.2.2.2 e
    · refine held_item D q q2 a1 a2 a3 a4 a5 ex ey fun h' b1 b3 b4 b5 k => ?_
      refine hQ s.heap.objs.size _ _ h' s.toks ⟨ex, ey⟩ (.inl ⟨_, b5, rfl, _, rfl⟩) ⟨⟨k _ _ D.TIz D.TIi1 D.TIi2 a1, b3, b4, a4.at fun o e => k _ o D.l1z D.l1i1 D.l1i2 e, a5.at fun o e => k _ o D.l2z D.l2i1 D.l2i2 e⟩, ?_⟩ ?_
      · exact Or.inr ⟨T, true, oT, b1, k _ _ r1 r2 r3 q2, r1, r2, r3, r4⟩
      · intro c o hc e
        simp only [List.mem_cons, List.not_mem_nil, or_false, not_or] at hc
        exact k c o hc.1 hc.2.2.1 hc.2.2.2 e
  · rintro s Q E ⟨⟨a1, a2, a3, a4, a5⟩, q⟩ hQ
    have ex : xs[xs.size]? = none := Array.getElem?_eq_none (Nat.le_refl _)
    rcases q with ⟨q, a, b, q2⟩ | ⟨T, f, oT, q, q2, r1, r2, r3, r4⟩
    · refine pyNext_zipT_end hA D q a1 q2 a2 a3 a4 a5 (Or.inl ex) fun h' k => hQ h' s.toks fun c o hc e => ?_
      simp only [List.mem_cons, List.not_mem_nil, or_false, not_or] at hc
      exact k c o hc.1 hc.2.1 hc.2.2.1 hc.2.2.2 e
    · refine held_end hA D q q2 a1 a2 a4 ex fun h' k => hQ h' s.toks fun c o hc e => ?_
      simp only [List.mem_cons, List.not_mem_nil, or_false, not_or] at hc
      exact k c o hc.1 hc.2.2.1 e
theorem arg {z TI TO i1 i2 l1 l2 : Addr} {xs ys : Array Value} (D : ZipApart z TI TO i1 i2 l1 l2) (hn : xs.size = ys.size) :
    PairArg prog w "zip" z [z, TI, TO, i1, i2, l1, l2] [z, TO, i1, i2] xs.size (fun i k v => xs[i]? = some k ∧ ys[i]? = some v) (Ok0 z TI TO i1 i2 l1 l2 xs ys) := by
  constructor
  · exact fun s ok => ⟨_, ok.1, rfl⟩
  · decide
  · rintro h h' ⟨a0, a1, ⟨a, b, a6⟩, a2, a3, a4, a5⟩ k
    exact ⟨k _ _ a0, k _ _ a1, ⟨a, b, k _ _ a6⟩, a2.at fun o e => k _ o e, a3.at fun o e => k _ o e, a4.at fun o e => k _ o e, a5.at fun o e => k _ o e⟩
  · rintro h ⟨a0, a1, ⟨a, c, a6⟩, ⟨o1, h1, _⟩, ⟨o2, h2, _⟩, ⟨o3, h3, _⟩, ⟨o4, h4, _⟩⟩ b hb
    simp only [List.mem_cons, List.not_mem_nil, or_false] at hb
    rcases hb with e | e | e | e | e | e | e <;> rw [e] <;> first | exact ⟨_, a0⟩ | exact ⟨_, a1⟩ | exact ⟨_, a6⟩ | exact ⟨_, h1⟩ | exact ⟨_, h2⟩ | exact ⟨_, h3⟩ | exact ⟨_, h4⟩
  · intro b hb
    simp only [List.mem_cons, List.not_mem_nil, or_false] at hb ⊢
    rcases hb with e | e | e | e <;> simp [e]
  · exact fun A s Q E hA ok h => getAttrOr_miss_zip ok.1 rfl rfl rfl zip_no_keys (by decide +kernel) hA h
  · intro A s d Q E hA ok hd nd h
    obtain ⟨a0, a1, a6, a2, a3, a4, a5⟩ := ok
    exact wpAny_pyIter_zip a0 (h z [z, TO, i1, i2] _ s.heap s.toks (src hA D hn nd) ⟨⟨a1, a2, a3, a4, a5⟩, Or.inl ⟨a0, a6⟩⟩ (fun _ _ e => e) fun b hb => Or.inl hb)
end
end Zq
set_option maxRecDepth 100000
set_option maxHeartbeats 2000000
namespace Zq
open PySem PySem.Spec PyProof.Rows L2 RZ
/-- dict(zip(t, u)): keys that are ints or texts -/
def tDz (K : PySem.W.Frag) (ta : TA) : TE := fun σ H Q => ta σ H fun vs H1 => ∃ (t u : Addr) (ks : List Key) (ws : List V), vs = [.ref t, .ref u] ∧ SqT K H1 t (ks.map kV) ∧ SqT K H1 u ws ∧ ks.length = ws.length ∧ ∀ p, H1 p = none → Q (.ref p) (upd H1 p (.dK (mergeK [] (ks.zip ws))))
theorem kv_zip : ∀ (ks : List Key) (ws : List V) (vs : List Value), Vals ws vs → KV (ks.zip ws) (ks.zip vs)
  | [], _, _, _ => (.nil : Paired _ [] [])
  | k :: ks, [], _, h => by cases h; exact (.nil : Paired _ [] [])
  | k :: ks, w :: ws, _, h => by
    cases h with
    | cons h1 h2 => exact .cons ⟨rfl, h1⟩ (kv_zip ks ws _ h2)
theorem pe_dzip {X : Cx} {a b : Expr} {ta : TA} {p p2 pos pos2 : Pos} (hc : X.calm = true) (hg : Gl X "dict") (hm : X.mg "dict" = none) (hg2 : Gl X "zip") (hm2 : X.mg "zip" = none) (ha : PA X [a, b] ta)
    (he : starEach [.Call (.Name "zip" p2) [a, b] [] pos2] X.env = (false, eval (.Call (.Name "zip" p2) [a, b] [] pos2) X.env) :: starEach [] X.env := by rfl) (hpl0 : (backTo pos (starEach [] X.env)).any (·.1) = false := by rfl)
    (hs : starEach [a, b] X.env = (false, eval a X.env) :: starEach [b] X.env := by rfl) (hpl : (backTo pos2 (starEach [b] X.env)).any (·.1) = false := by rfl) : PE X (.Call (.Name "dict" p) [.Call (.Name "zip" p2) [a, b] [] pos2] [] pos) (tDz X.K ta) := by
  refine ⟨fun pins s σ H Q I h => ?_⟩
  refine wpAny_Call_Name_kw (ld_blt I hg hm boot_dict ?_ (by decide) (by decide))
  refine callWith_type1 ?_ he hpl0
  rw [he]
  show wpAny _ _ (spliced ((false, eval (.Call (.Name "zip" p2) [a, b] [] pos2) X.env) :: backTo pos (starEach [] X.env))) _ _ s
  refine Calls.spliced_cons (Call_ (ld_blt I hg2 hm2 boot_zip (callWith_type1 (thn (ha.run pos2 pins s σ H _ I h) fun us s1 ⟨vs, H1, I1, r1, q1⟩ => ?_) hs hpl)))
  obtain ⟨t, u, ks, ws, ex, hqx, hqy, hlen, q⟩ := q1
  subst ex
  cases r1 with
  | cons r rr =>
    cases rr with
    | cons r' rr =>
      cases rr
      cases r
      cases r'
      obtain ⟨its, rv, p1, z1⟩ := I1.tuple hqx
      obtain ⟨its2, rv2, p2, z2⟩ := I1.tuple hqy
      obtain ⟨o1, ho1, _⟩ := id p1
      obtain ⟨o2, ho2, _⟩ := id p2
      have l1 := rv.length
      have l2 := rv2.length
      rw [List.length_map] at l1
      refine call_zipT (show s1.heap.IsTuple t its.toArray from p1) (show s1.heap.IsTuple u its2.toArray from p2) fun h' hz hTI hTO h1 h2 hsz hk => Calls.spliced_nil ?_
      have I2 : Inv X pins σ H1 { s1 with heap := h' } := I1.kept (t' := s1.toks) hk
      have D := PySem.W.ktu_apart s1.heap.objs.size t u (Heap.lt_size ho1) (Heap.lt_size ho2)
      have hn : its.toArray.size = its2.toArray.size := by rw [List.size_toArray, List.size_toArray]; omega
      have ok : Ok0 (s1.heap.objs.size + 4) (s1.heap.objs.size + 2) (s1.heap.objs.size + 3) s1.heap.objs.size (s1.heap.objs.size + 1) t u its.toArray its2.toArray h' := ⟨hz, hTI, ⟨_, _, hTO⟩, h1, h2, (show s1.heap.IsTuple t its.toArray from p1).at fun o e => hk _ o e, (show s1.heap.IsTuple u its2.toArray from p2).at fun o e => hk _ o e⟩
      refine call_dict_pairs (s := { s1 with heap := h' }) (knd := mixKind X.prog X.w) (kvs := ks.zip its2) (arg D hn) (I1.ok.hd hc) ok ⟨?_, fun i k v hkv => ?_⟩ ?_ fun h'' tk hd' hkeep => ?_
      · rw [List.length_zip, List.size_toArray]
        omega
      · obtain ⟨e1, e2⟩ := hkv
        have e1' : its[i]? = some k := by simpa using e1
        have e2' : its2[i]? = some v := by simpa using e2
        have hi : i < ks.length := by
          have := (List.getElem?_eq_some_iff.mp e1').1
          omega
        have ek : (ks.map kV)[i]? = some (kV ks[i]) := by rw [List.getElem?_map, List.getElem?_eq_getElem hi]; rfl
        obtain ⟨k', ek', rk⟩ := rv.get ek
        rw [e1'] at ek'
        cases ek'
        refine ⟨ks[i], ?_, kV_is (P := X.prog) (w := X.w) rk⟩
        rw [List.getElem?_zip_eq_some]
        exact ⟨List.getElem?_eq_getElem hi, e2'⟩
      · rw [List.size_toArray]
        omega
      · have hm : ((({ s1 with heap := h' } : Shared).heap.objs.size) == sysModules) = false := beq_eq_false_iff_ne.mpr (Nat.ne_of_gt I2.big)
        have rel := kv_zip ks ws its2 rv2
        have len : (mergeK [] (ks.zip ws)).length ≤ sizeLine := by
          refine Nat.le_trans (length_mergeK _ _) ?_
          rw [List.length_nil, Nat.zero_add, List.length_zip]
          omega
        have big : s1.heap.objs.size ≤ h'.objs.size := by rw [hsz]; omega
        refine ⟨.ref h'.objs.size, upd H1 h'.objs.size (.dK (mergeK [] (ks.zip ws))), I1.laid (t' := tk) (fun b o e => hkeep b o (fun z => ?_) (hk b o e)) big (show ObjOk X.prog X.w _ _ _ (.dK (mergeK [] (ks.zip ws))) from ⟨len, hm, merged [] (ks.zip its2), KV.merge rel .nil, hd'⟩), rfl, q _ (I1.hok.fresh big)⟩
        have lt := Heap.lt_size e
        simp only [List.mem_cons, List.not_mem_nil, or_false] at z
        rcases z with z | z | z | z <;> (rw [z] at lt; first | exact absurd lt (Nat.not_lt.mpr (Nat.le_add_right _ _)) | exact absurd lt (Nat.lt_irrefl _))
end Zq
set_option maxRecDepth 100000
set_option maxHeartbeats 2000000
/-! for i, x in enumerate(t), t a tuple -/
namespace Zq
open PySem PySem.Spec PyProof.Rows L2 RZ
abbrev tIt (t : Addr) : Obj := { cls := .type "tuple_iterator", data := .fields #[.ref t, .int 0 0] }
abbrev eOb (it : Addr) : Obj := { cls := .type "enumerate", data := .fields #[.none, .bool false, .ref it, rawInt 0, .none, .none] }
set_option maxHeartbeats 4000000 in
theorem meets_enumT (t : Addr) (items : Array Value) : Meets (Builtin.«enumerate.__new__» ⟨[.type "enumerate", .ref t], []⟩) (fun _ R s => s.heap.IsTuple t items ∧ R (.ok (.ret (.ref (s.heap.push (tIt t)).objs.size))) { s with heap := (s.heap.push (tIt t)).push (eOb s.heap.objs.size) }) := by
  refine .of_wp fun prog w A R s h => ?_
  obtain ⟨hp, g, d, tk, os⟩ := s
  obtain ⟨h1, h⟩ := h
  have hsub := sub_enumerate
  have go : ∀ {A' : Around} {E : Value → Shared → Prop} {Q : Value → Shared → Prop}, Q (.ref hp.objs.size) ⟨hp.push (tIt t), g, d, tk, os⟩ → wpAny (model prog w) A' (pyIter (.ref t)) Q E ⟨hp, g, d, tk, os⟩ := fun q => (begins_tuple t items).iter prog w _ _ ⟨hp, g, d, tk, os⟩ _ h1 q
  wp_walk using go
  refine wpAny_stack_any fun st => wpAny_pure ?_
  split
  next c _ _ _ _ _ => cases (c == Value.type "enumerate") <;> (wp_walk using go; exact ⟨_, rfl, h⟩)
  next => wp_walk using go; exact ⟨_, rfl, h⟩
section
variable {prog : Program} {w : World} {A : Around} {E : Value → Shared → Prop} {s : Shared}
theorem call_enumT {t : Addr} {items : Array Value} {Q : Value → Shared → Prop} (hL : s.heap.IsTuple t items)
    (h : ∀ h', IsEnum h' (s.heap.objs.size + 1) s.heap.objs.size 0 .none → h'.IsTupleIter s.heap.objs.size t 0 → (∀ b o, s.heap.get? b = some o → h'.get? b = some o) → Q (.ref (s.heap.objs.size + 1)) { s with heap := h' }) :
    wpAny (model prog w) A (call (.type "enumerate") [.ref t]) Q E s := by
  refine callType_new F.called_enumerate (by decide) (F.typeCall_enumerate_1 _) (F.newCall_enumerate_1 _) (fun obj => F.args_object_init_2 obj _) F.entry_enumerate_new (meets_enumT t items) ⟨hL, ?_⟩
  have z1 : (s.heap.push (tIt t)).objs.size = s.heap.objs.size + 1 := Heap.size_push ..
  have e1 : IsEnum ((s.heap.push (tIt t)).push (eOb s.heap.objs.size)) (s.heap.objs.size + 1) s.heap.objs.size 0 .none := by
    have q := Heap.get?_push_size (s.heap.push (tIt t)) (o := eOb s.heap.objs.size) rfl
    rw [z1] at q
    exact q
  refine (show _ ∧ _ from by rw [z1]; exact ⟨⟨_, e1, rfl⟩, h _ e1 ⟨_, Heap.get?_push_of_some _ (Heap.get?_push_size _ rfl), rfl, rfl⟩ fun b o x => Heap.get?_push_of_some _ (Heap.get?_push_of_some _ x)⟩)
end
section
variable {prog : Program} {w : World} {A : Around} {E : Value → Shared → Prop} {s : Shared}
theorem enumT_end {e it t : Addr} {i : Nat} {items : Array Value} {old : Value} {Q : Option Value → Shared → Prop} (hh : A.handled = none) (he : IsEnum s.heap e it ((i : Nat) : Int) old) (hit : s.heap.IsTupleIter it t i) (hl : s.heap.IsTuple t items) (hx : items[i]? = none)
    (hQ : ∀ h', Heap.ExtBut it s.heap h' → Q none { s with heap := h' }) : wpAny (model prog w) A (pyNext (.ref e)) Q E s := by
  have ty : s.TypeIs (.ref e) "enumerate" := ⟨_, he, rfl⟩
  unfold pyNext
  refine wpAny_bind (wpAny_attempt (wpAny_callSpecial?_slot (name := Str.ofString "__next__") ty F.slot_enumerate_next (wpAny_call_entry F.slot_enumerate_next ty F.entry_enumerate_next (show wpAny _ _ (field (.ref e) 2 >>= _) _ _ _ from wpAny_bind (wpAny_field he rfl (x := .ref it) rfl (wpAny_bind (nextOf_tuple_end hh hit hl hx fun h' x kp he' => ?_)))) (F.args_enumerate_next_1 _))))
  obtain ⟨o, ho, hc⟩ := he'
  exact wpAny_bind (wpAny_isInstance (T := "StopIteration") (b := true) ⟨o, ho, hc⟩ isSubtype_stop (wpAny_pure (hQ _ kp)))
end
/-- the tuple at a, each item in a new pair with its place -/
def IeT (K : PySem.W.Frag) (a : Addr) : It :=
  ⟨fun i H => ∃ (xs : List V) (x : V), SqT K H a xs ∧ xs[i]? = some x, fun i H v H' => ∃ T x, v = .ref T ∧ H T = none ∧ H' = upd H T (.tup [.int (i : Nat), x]) ∧ ∀ xs, SqT K H a xs → xs[i]? = some x, fun i H => ∃ xs : List V, SqT K H a xs ∧ xs.length ≤ i⟩
theorem turn_enumT {P : Program} {w : World} {K : PySem.W.Frag} {elts : List Expr} {kk : Nat} {tpos : Pos} (a e it : Addr) (hait : a ≠ it) (hae : a ≠ e) :
    Turn P w K (.Tuple elts kk tpos) (IeT K a) [e, it] e (fun i h => (∃ old, IsEnum h e it ((i : Nat) : Int) old) ∧ h.IsTupleIter it a i ∧ e ≠ it) := by
  constructor
  · simp
  · rintro i h ⟨⟨old, he⟩, ⟨o, ho, hc, hd⟩, _⟩ b hb
    simp only [List.mem_cons, List.not_mem_nil, or_false] at hb
    rcases hb with z | z <;> rw [z]
    · exact ⟨_, he, fun v q => by cases q⟩
    · exact ⟨o, ho, fun v q => by rw [hd] at q; cases q⟩
  · rintro i h h' ⟨⟨old, he⟩, hi, hne⟩ k
    exact ⟨⟨old, k e (by simp) _ he⟩, hi.at fun o q => k it (by simp) o q, hne⟩
  · intro X hP hw hK hc i pins s σ H E I hf st hg
    subst hP hw hK
    obtain ⟨⟨old, he⟩, hit, hne⟩ := st
    obtain ⟨xs, x, hq, hx⟩ := hg
    obtain ⟨its, rv, p, hz⟩ := I.tuple hq
    have pT : s.heap.IsTuple a its.toArray := p
    obtain ⟨u, hu, ru⟩ := rv.get hx
    have li : i < its.toArray.size := by
      have := (List.getElem?_eq_some_iff.mp hu).1
      simpa using this
    have el : e < s.heap.objs.size := Heap.lt_size he
    have il : it < s.heap.objs.size := let ⟨_, q, _⟩ := hit; Heap.lt_size q
    refine wpAny_pyNext_enum_itemC (Draws.tuple (show X.A.in1.handled = none from I.ok.hd hc) it a hait its.toArray) he ⟨hit, pT⟩ li hne (by simp [hne, Ne.symm hae]) fun y h' tk hy ho st' hT hsz hk => ?_
    have ey : y = u := by
      have : its[i]? = some y := by simpa using hy
      rw [hu] at this
      exact (Option.some.inj this).symm
    subst ey
    refine ⟨_, rfl, wpAny_letOwnedTupleGo_enum (s := { s with heap := h', toks := tk + 1 }) ho fun h'' he' sb => ?_⟩
    have hT2 : h''.get? s.heap.objs.size = some { cls := .type "tuple", data := .seq #[.int i tk, y] } := (sb.2 _ (Nat.ne_of_gt el)).trans hT
    have new : ObjOk X.prog X.w (upd H s.heap.objs.size (.tup [.int (i : Nat), x])) h'' s.heap.objs.size (.tup [.int (i : Nat), x]) := ⟨(by decide : 2 ≤ sizeLine), [.int i tk, y], .cons ⟨_, rfl⟩ (.cons ru .nil), ⟨_, hT2, rfl, _, rfl⟩⟩
    have out : ∀ b ob, b ∉ [e, it] → s.heap.get? b = some ob → h''.get? b = some ob := fun b ob hb q => by
      simp only [List.mem_cons, List.not_mem_nil, or_false, not_or] at hb
      exact (sb.2 b hb.1).trans (hk b ob hb.1 hb.2 q)
    have I1 : Inv X pins σ (upd H s.heap.objs.size (.tup [.int (i : Nat), x])) { s with heap := h'', toks := tk + 1 } := I.turnedNew (ch := [e, it]) out hf (Nat.le_refl _) new
    refine ⟨.ref s.heap.objs.size, _, I1, rfl, ⟨_, x, rfl, I.hok.fresh (Nat.le_refl _), rfl, fun ys hy => by rw [I.tuple_inj hy hq]; exact hx⟩, ⟨⟨y, ?_⟩, st'.1.at fun o q => (sb.2 it (Ne.symm hne)).trans q, hne⟩, fun b hb => ?_⟩
    · rw [show ((i + 1 : Nat) : Int) = (i : Int) + 1 by omega]
      exact he'
    · have lt : b < s.heap.objs.size := by
        simp only [List.mem_cons, List.not_mem_nil, or_false] at hb
        rcases hb with z | z <;> rw [z]
        · exact el
        · exact il
      rw [upd_ne (Nat.ne_of_lt lt)]
      exact (hf b hb).1
  · intro X hP hw hK hc i pins s σ H E I hf st hg
    subst hP hw hK
    obtain ⟨⟨old, he⟩, hit, hne⟩ := st
    obtain ⟨xs, hq, hx⟩ := hg
    obtain ⟨its, rv, p, hz⟩ := I.tuple hq
    obtain ⟨f0, f1, f2, f3, f4, f5⟩ := hf it (by simp)
    have hl := rv.length
    exact enumT_end (I.ok.hd hc) he hit (show s.heap.IsTuple a its.toArray from p) (by simp; omega) fun h' eb => ⟨rfl, I.turned (t' := s.toks) (fun b o hb q => eb b o hb q) f0 f1 f3 f4 f5⟩
  · rintro A i s Q E ⟨⟨_, he⟩, _⟩ h
    exact wpAny_pyIter_enum he h
def iEnT (K : PySem.W.Frag) (ta : TA) : TI := fun σ H R => ta σ H fun vs H1 => ∃ a xs, vs = [.ref a] ∧ SqT K H1 a xs ∧ R (IeT K a) H1
theorem pi_enumT {X : Cx} {e : Expr} {ta : TA} {p pos tpos : Pos} {elts : List Expr} {kk : Nat} (hg : Gl X "enumerate") (hm : X.mg "enumerate" = none) (ha : PA X [e] ta) (hs : starEach [e] X.env = [(false, eval e X.env)] := by rfl) : PI X (.Tuple elts kk tpos) (.Call (.Name "enumerate" p) [e] [] pos) (iEnT X.K ta) := by
  refine ⟨fun pins s σ H R I h => ?_⟩
  refine Call_ (ld_blt I hg hm boot_enumerate (callWith_type1 (thn (ha.run pos pins s σ H _ I h) fun us s1 ⟨vs, H1, I1, r1, q1⟩ => ?_) hs rfl))
  obtain ⟨a, xs, rfl, hq, q⟩ := q1
  cases r1 with
  | cons r rr =>
    cases rr
    cases r
    obtain ⟨its, rv, p', hz⟩ := I1.tuple hq
    have la : a < s1.heap.objs.size := let ⟨_, q, _⟩ := p'; Heap.lt_size q
    refine call_enumT (show s1.heap.IsTuple a its.toArray from p') fun h' he hit hk => wpAny_pyIter_enum he ?_
    have I2 : Inv X pins σ H1 { s1 with heap := h' } := I1.kept (t' := s1.toks) hk
    refine ⟨s1.heap.objs.size + 1, [s1.heap.objs.size + 1, s1.heap.objs.size], _, _, H1, rfl, I2, turn_enumT a (s1.heap.objs.size + 1) s1.heap.objs.size (Nat.ne_of_lt la) (Nat.ne_of_lt (Nat.lt_succ_of_lt la)), ⟨⟨.none, he⟩, hit, Nat.succ_ne_self _⟩, fun b hb => ?_, q⟩
    have le : s1.heap.objs.size ≤ b := by
      simp only [List.mem_cons, List.not_mem_nil, or_false] at hb
      rcases hb with z | z <;> rw [z]
      · exact Nat.le_add_right _ _
      · exact Nat.le_refl _
    exact I1.fpOk le (I1.hok.fresh le)
theorem walk_enumT {K : PySem.W.Frag} {a : Addr} {xs : List V} : Walk (IeT K a) xs.length (fun H => SqT K H a xs) (YPair (fun i => some (.int (i : Nat))) (fun i => xs[i]?)) := by
  refine ⟨fun i _ hi q => ⟨xs, xs[i], q, by simp [hi]⟩, fun _ q => ⟨xs, q, Nat.le_refl _⟩, fun i H v H' _ q y => ?_⟩
  obtain ⟨T, x, h1, h2, h3, h4⟩ := y
  exact ⟨T, .int (i : Nat), x, h1, h2, h3, rfl, h4 xs q⟩
end Zq
set_option maxRecDepth 100000
set_option maxHeartbeats 2000000
/-! The program's winners: facts, conditions -/
namespace Pr
open PySem PySem.Spec PyProof.Rows L2 GxR Gx Rp Dl Pd Tx Zq
/-- the facts: each flag with its value -/
def factsK (fl : List Str) (bs : List Bool) : List (Key × V) := (fl.map fun f => (Sum.inr f : Key)).zip (bs.map V.bl)
theorem facts_fst : ∀ {fl : List Str} {bs : List Bool}, fl.length = bs.length → (factsK fl bs).map (·.1) = fl.map fun f => (Sum.inr f : Key)
  | [], [], _ => rfl
  | f :: fl, b :: bs, h => by
    have ih := facts_fst (fl := fl) (bs := bs) (by simpa using h)
    unfold factsK at ih ⊢
    simp only [List.map_cons, List.zip_cons_cons]
    exact congrArg _ ih
  | [], _ :: _, h => by simp at h
  | _ :: _, [], h => by simp at h
theorem facts_at : ∀ {fl : List Str} {bs : List Bool} {f : Str}, fl.length = bs.length → f ∈ fl → ∃ b : Bool, valV (factsK fl bs) (Sum.inr f : Key) = some (.bl b)
  | [], _, _, _, h => by cases h
  | g :: fl, [], _, h, _ => by simp at h
  | g :: fl, b :: bs, f, h, hf => by
    by_cases e : g = f
    · exact ⟨b, by rw [← e]; exact valV_pos rfl⟩
    · have hf' : f ∈ fl := by
        rcases List.mem_cons.mp hf with z | z
        · exact absurd z.symm e
        · exact z
      obtain ⟨b', h'⟩ := facts_at (fl := fl) (bs := bs) (by simpa using h) hf'
      refine ⟨b', ?_⟩
      rw [← h']
      exact valV_neg fun z => e (Sum.inr.inj z)
/-- a condition holds -/
def holdsK (F ck : List (Key × V)) : Bool := ck.all fun q => decide (valV F q.1 = some q.2)
section
variable {P : Program} {w : World} {K : PySem.W.Frag} {mg : Str → Option Value} {base : Heap} {T : List Addr}
def spFacts : Sp := fun vs H Q _ => ∃ (m t s : Addr) (rest : List V) (fl : List Str) (bs : List Bool), vs = [.ref m, .ref s] ∧ Rd H m (.tup (.ref t :: rest)) ∧ Rd H t (.tup (fl.map V.str)) ∧ fl.Nodup ∧ Rd H s (.tup (bs.map V.bl)) ∧ bs.length = fl.length ∧ fl.length ≤ 3 ∧ ∀ H' a, Ge H H' → H a = none → H' a = some (.dK (factsK fl bs)) → Q (.ref a) H'
abbrev nFacts : List Str := ["keymap", "state"]
theorem scFacts : FnScope nFacts ["keymap", "state"] (defScope s_facts_of) := ⟨rfl, rfl, rfl, by decide +kernel, rfl, by decide +kernel, by decide +kernel⟩
theorem ok_facts_of {f c : Addr} {fd : FuncData} (F : FunC K "facts_of" s_facts_of f fd c) (B : Bn mg) : FnOk P w K mg base CX0 1 f fd ["keymap", "state"] spFacts := by
  refine F.ok scFacts (fun vs H Q E ⟨_, _, _, _, _, _, h, _⟩ => by rw [h]; rfl) (fun A outer s H vs Q E hr h => ?_)
  obtain ⟨m, t, s, rest, fl, bs, rfl, hm, ht, hn, hs, hl, h3, q⟩ := h
  refine ⟨_, pss_one (ps_ret (pe_dzip rfl rfl B.dict rfl B.zip (pa_cons (pe_ix ix_tup (pv 0) pe_int (fun _ _ => rfl)) (pa_cons (pv 1) pa_nil)))), ?_⟩
  refine ⟨_, rfl, m, _, _, _, rfl, rfl, Or.inl hm, atI_nat (j := 0) rfl, _, rfl, t, s, fl.map fun f => (Sum.inr f : Key), bs.map V.bl, rfl, ?_, Or.inl hs, by rw [List.length_map, List.length_map, hl], fun a ha => ?_⟩
  · rw [List.map_map]
    exact Or.inl ht
  · have nd : ((factsK fl bs).map (·.1)).Nodup := by
      rw [facts_fst hl.symm]
      exact List.pairwise_map.mpr (hn.imp fun h z => h (Sum.inr.inj z))
    have e : mergeK [] (factsK fl bs) = factsK fl bs := mergeK_app (acc := []) nd
    have e' : mergeK [] ((fl.map fun f => (Sum.inr f : Key)).zip (bs.map V.bl)) = factsK fl bs := e
    rw [e']
    exact q _ a (Ge.new ha) ha upd_same
def spHolds (T : List Addr) : Sp := fun vs H Q _ => ∃ (c a : Addr) (ck F : List (Key × V)), vs = [.ref c, .ref a] ∧ H c = some (.dK ck) ∧ (ck.map (·.1)).Nodup ∧ H a = some (.dK F) ∧ c ≠ a ∧ (∀ q ∈ ck, ∃ b b' : Bool, valV F q.1 = some (.bl b) ∧ q.2 = .bl b') ∧ Tb T H ∧ ∀ H', Ge H H' → Q (.bl (holdsK F ck)) H'
abbrev nHolds : List Str := ["condition", "facts", "flag"]
theorem scHolds : FnScope nHolds ["condition", "facts"] (defScope s_holds) := ⟨rfl, rfl, rfl, by decide +kernel, rfl, by decide +kernel, by decide +kernel⟩
theorem ok_holds {f c Pt : Addr} {fd : FuncData} (F : FunC K "holds" s_holds f fd c) (B : Bn mg) (TB : TabB base mg c Pt) (hPt : Pt ∈ T) : FnOk P w K mg base CX0 2 f fd ["condition", "facts"] (spHolds T) := by
  refine F.ok scHolds (fun vs H Q E ⟨_, _, _, _, h, _⟩ => by rw [h]; rfl) (fun A outer s H vs Q E hr h => ?_)
  obtain ⟨c, a, ck, F, rfl, hc, hn, ha, hca, hv, hT, q⟩ := h
  refine ⟨_, pss_one (ps_ret (pe_lock (pe_allX (k := 0) (own := [("flag", 2)]) hr rfl B.all TB rfl scHolds.nd (gxs (N := nHolds) (sc := defScope s_holds) (by decide +kernel) rfl (by decide +kernel) rfl) (pi_keys (pv 0))
        (fun _ _ _ _ _ _ _ _ _ => pg_name (i := 2) scHolds.nd rfl (Or.inl rfl)) (fun _ _ _ _ _ _ _ _ _ => pts_nil)
        (fun _ _ _ _ _ _ _ _ r => pe_cmpR op_eq (pe_dget (hu_of r) (pv 1) (pv 2) (fun _ _ => rfl)) (pe_dget (hu_of r) (pv 0) (pv 2) (fun _ _ => rfl)) (by rfl))))), ?_⟩
  refine rd_allD (fun k v => decide (valV F k = some v)) rfl hc (hT Pt hPt) (fun _ => rfl) (fun od k v H2 hm g2 R hR => ?_) fun H2 g2 => q H2 g2
  obtain ⟨b, b', e1, e2⟩ := hv (k, v) hm
  change valV F k = some (.bl b) at e1
  change v = .bl b' at e2
  have hl : H2 c = some (.frz od (.dK ck)) := g2.1 c _ upd_same fun ps z => by cases z
  have hf : H2 a = some (.dK F) := g2.1 a _ (by rw [upd_ne (Ne.symm hca)]; exact ha) fun ps z => by cases z
  have z := hR H2 (Ge.refl _)
  rw [e1, e2] at z
  have e3 : decide (some (V.bl b) = some (V.bl b')) = decide (V.bl b = V.bl b') := decide_eq_decide.mpr ⟨fun z => Option.some.inj z, fun z => by rw [z]⟩
  rw [e3] at z
  refine ⟨_, rfl, _, rfl, a, .bl b, rfl, Or.inl ⟨F, k, Or.inl hf, rfl, e1.symm⟩, _, rfl, _, rfl, c, v, rfl, Or.inl ⟨ck, k, Or.inr ⟨od, hl⟩, rfl, (valV_nodup hn hm).symm⟩, ?_⟩
  subst e2
  exact ⟨rfl, z⟩
end
end Pr
set_option maxRecDepth 100000
set_option maxHeartbeats 2000000
namespace Pr
open PySem PySem.Spec PyProof.Rows L2 GxR Gx Rp Dl Pd Tx RZ
section
variable {P : Program} {w : World} {K : PySem.W.Frag} {mg : Str → Option Value} {base : Heap} {T : List Addr}
def flagsOf : PyData → PyData
  | .tuple (f :: _) => f
  | _ => .none
/-- a keymap, a thing -/
def spSt (K : PySem.W.Frag) (T : List Addr) : Sp := fun vs H Q _ => ∃ u v m d, vs = [u, v] ∧ Da K H u m ∧ small m = true ∧ isMap m = true ∧ Da K H v d ∧ small d = true ∧ Tb T H ∧ ∀ H', Ge H H' → Q (.bl (fitsState (lenT (flagsOf m)) d)) H'
theorem spSt_len : ∀ vs H Q E, spSt K T vs H Q E → vs.length = 2 := fun vs H Q E ⟨_, _, _, _, h, _⟩ => by rw [h]; rfl
abbrev nFits : List Str := ["keymap", "thing", "value"]
theorem scFits : FnScope nFits ["keymap", "thing"] (defScope s_fits_state) := ⟨rfl, rfl, rfl, by decide +kernel, rfl, by decide +kernel, by decide +kernel⟩
theorem isMap_shape {m : PyData} (h : isMap m = true) : ∃ fs o cs l i, m = .tuple [.tuple fs, o, .dict cs, l, .int i] ∧ (∀ f ∈ fs, ∃ s, f = PyData.str s) ∧ fs.length ≤ 3 := by
  match m, h with
  | .tuple [f, o, c, l, wt], h =>
    have h' : (areFlags f && areOutside (itemsT f) o && areCommands (itemsT f) c && areLayers (itemsT f) (itemsD c) l && isWithin 1 1000 wt) = true := h
    simp only [Bool.and_eq_true] at h'
    obtain ⟨⟨⟨⟨h1, h2⟩, h3⟩, h4⟩, h5⟩ := h'
    obtain ⟨fs, rfl⟩ : ∃ fs, f = .tuple fs := by
      cases f <;> first | exact ⟨_, rfl⟩ | cases h1
    obtain ⟨cs, rfl⟩ : ∃ cs, c = .dict cs := by
      cases c <;> first | exact ⟨_, rfl⟩ | cases h3
    obtain ⟨i, rfl⟩ : ∃ i, wt = .int i := by
      cases wt <;> first | exact ⟨_, rfl⟩ | cases h5
    refine ⟨fs, o, cs, l, i, rfl, flags_strs h1, ?_⟩
    have z : (areNames (.tuple fs) && decide (fs.length ≤ 3)) = true := h1
    rw [Bool.and_eq_true] at z
    exact of_decide_eq_true z.2
theorem ok_fits_state {f c Pt : Addr} {fd : FuncData} (F : FunC K "fits_state" s_fits_state f fd c) (B : Bn mg) (TB : TabB base mg c Pt) (hPt : Pt ∈ T) (D : DfP P w K mg base 1 "is_boolean" ["thing"] (spD K T isBoolD)) : FnOk P w K mg base CX0 3 f fd ["keymap", "thing"] (spSt K T) := by
  refine F.ok scFits spSt_len (fun A outer s H vs Q E hr h => ?_)
  obtain ⟨u, v, m, d, rfl, hu, hsm, hm, hd, hs, hT, q⟩ := h
  refine ⟨_, pss_cons (ps_if (PW.pt (pw_or (pt_not (pt_val (pe_isi (pv 1) rfl B.isinstance rfl B.tuple bt_tuple))) (pw_or1 (pt_cmpR op_ne (pe_callB call_len_seq rfl B.len PySem.boot_len (pa_cons (pv 1) pa_nil)) (pe_callB call_len_seq rfl B.len PySem.boot_len (pa_cons (pe_ix ix_tup (pv 0) pe_int (fun _ _ => rfl)) pa_nil)) (nomark _))))) (pss_one (ps_ret pe_bl)) pss_nil)
    (pss_one (ps_ret (pe_allX (k := 1) (own := [("value", 2)]) hr rfl B.all TB rfl scFits.nd (gxs (N := nFits) (sc := defScope s_fits_state) (by decide +kernel) rfl (by decide +kernel) rfl) (pi_tup (pv 1))
        (fun _ _ _ _ _ _ _ _ _ => pg_name (i := 2) scFits.nd rfl (Or.inl rfl)) (fun _ _ _ _ _ _ _ _ _ => pts_nil) (fun _ _ _ _ _ _ _ _ r => pcall D r pass0 rfl (pa_cons (pv 2) pa_nil))))), ?_⟩
  obtain ⟨fs, o, cs, l, i, rfl, hfs, hf3⟩ := isMap_shape hm
  have q0 : ∀ H', Ge H H' → Q (.bl (fitsState fs.length d)) H' := q
  refine rd_tIsi rfl hd ⟨_, rfl, ?_⟩
  cases e : isTy "tuple" d with
  | false =>
    refine iteT (iteT ?_)
    have z := q0 H (Ge.refl H)
    have e1 : fitsState fs.length d = false := by
      cases d <;> first | rfl | simp [isTy, tyName] at e
    rw [e1] at z
    exact z
  | true =>
    refine iteF ?_
    obtain ⟨ds, rfl⟩ := isTy_tup e
    have q' : ∀ H', Ge H H' → Q (.bl (decide (ds.length = fs.length) && ds.all isBoolD)) H' := q0
    cases hd with
    | @tup a xs _ hx hda =>
      have hl := daAll_len hda
      cases hu with
      | @tup b ys _ hy hya =>
        cases hya with
        | cons k1 _ =>
          cases k1 with
          | @tup b2 zs _ hz hza =>
            have hl2 := daAll_len hza
            refine ⟨_, rfl, a, xs, rfl, Or.inr (Or.inl hx), _, rfl, b, _, _, _, rfl, rfl, Or.inl hy, atI_nat (j := 0) rfl, b2, zs, rfl, Or.inr (Or.inl hz), rfl, _, rfl, ?_⟩
            have ed : (!decide (V.int (xs.length : Int) = V.int (zs.length : Int))) = !decide (ds.length = fs.length) := by
              congr 1
              refine decide_eq_decide.mpr ⟨fun z => ?_, fun z => ?_⟩
              · have z' : (xs.length : Int) = zs.length := V.int.inj z
                omega
              · rw [show (xs.length : Int) = zs.length by omega]
            rw [ed]
            cases e1 : decide (ds.length = fs.length) with
            | false =>
              refine iteT ?_
              have z := q' H (Ge.refl H)
              rw [e1] at z
              exact z
            | true =>
              refine iteF ?_
              rw [e1] at q'
              exact rd_allT isBoolD rfl hx hda (hT Pt hPt) (fun _ => rfl) (fun x d' H' hm' g hd' R hR => ⟨_, rfl, x, d', rfl, hd', small_mem (small_tup hs).2 hm', g.tb hT, hR⟩) q'
end
end Pr
set_option maxRecDepth 100000
set_option maxHeartbeats 2000000
namespace Pr
open PySem PySem.Spec PyProof.Rows L2 GxR Gx Rp Dl Pd Tx Zq
/-- a binding: keys, condition, command -/
structure BI where
  x : Str
  ck : List (Key × V)
  cm : V
def BAt (H : Hp) (fl : List Str) (v : V) (bi : BI) : Prop := ∃ b c, v = .ref b ∧ H b = some (.tup [.str bi.x, .ref c, bi.cm]) ∧ H c = some (.dK bi.ck) ∧ (bi.ck.map (·.1)).Nodup ∧ ∀ q ∈ bi.ck, ∃ f b', q = (Sum.inr f, V.bl b') ∧ f ∈ fl
def LAt (H : Hp) (fl : List Str) (e : V) (bis : List BI) : Prop := ∃ a vs, e = .ref a ∧ H a = some (.tup vs) ∧ Paired (BAt H fl) vs bis
/-- the layers, at ly -/
def KAt (H : Hp) (fl : List Str) (ly : Addr) (bss : List (List BI)) : Prop := ∃ es, H ly = some (.tup es) ∧ Paired (LAt H fl) es bss
theorem Paired.imp {α β : Type} {F G : α → β → Prop} (h : ∀ a b, F a b → G a b) : ∀ {xs : List α} {ys : List β}, Paired F xs ys → Paired G xs ys
  | _, _, .nil => .nil
  | _, _, .cons a b => .cons (h _ _ a) (Paired.imp h b)
theorem paired_at {α β : Type} {F : α → β → Prop} {xs : List α} {ys : List β} (h : Paired F xs ys) : ∀ {i : Nat} {x : α}, xs[i]? = some x → ∃ y, ys[i]? = some y ∧ F x y := by
  induction h with
  | nil => intro i x e; simp at e
  | cons a _ ih =>
    intro i x e
    cases i with
    | zero => simp at e; subst e; exact ⟨_, rfl, a⟩
    | succ i =>
      obtain ⟨y, h1, h2⟩ := ih (i := i) (x := x) (by simpa using e)
      exact ⟨y, by simpa using h1, h2⟩
theorem BAt.ge {H H' : Hp} {fl : List Str} {v : V} {bi : BI} (h : BAt H fl v bi) (g : Ge H H') : BAt H' fl v bi := let ⟨b, c, h1, h2, h3, h4⟩ := h; ⟨b, c, h1, g.1 b _ h2 (fun ps z => by cases z), g.dk h3, h4⟩
theorem LAt.ge {H H' : Hp} {fl : List Str} {v : V} {bis : List BI} (h : LAt H fl v bis) (g : Ge H H') : LAt H' fl v bis := let ⟨b, vs, h1, h2, h3⟩ := h; ⟨b, vs, h1, g.1 b _ h2 (fun ps z => by cases z), Paired.imp (fun _ _ z => z.ge g) h3⟩
theorem KAt.ge {H H' : Hp} {fl : List Str} {ly : Addr} {bss : List (List BI)} (h : KAt H fl ly bss) (g : Ge H H') : KAt H' fl ly bss := let ⟨es, h1, h2⟩ := h; ⟨es, g.1 ly _ h1 (fun ps z => by cases z), Paired.imp (fun _ _ z => z.ge g) h2⟩
theorem BAt.gp {p : Addr} {xs : List V} {H H' : Hp} {fl : List Str} {v : V} {bi : BI} (h : BAt H fl v bi) (g : GeP p H H') (hp : H p = some (.lst xs)) : BAt H' fl v bi := let ⟨b, c, h1, h2, h3, h4⟩ := h; ⟨b, c, h1, g.1 b _ (fun z => by rw [z, hp] at h2; cases h2) h2 (fun ps z => by cases z), g.dk hp h3, h4⟩
theorem LAt.gp {p : Addr} {xs : List V} {H H' : Hp} {fl : List Str} {v : V} {bis : List BI} (h : LAt H fl v bis) (g : GeP p H H') (hp : H p = some (.lst xs)) : LAt H' fl v bis := let ⟨b, vs, h1, h2, h3⟩ := h; ⟨b, vs, h1, g.1 b _ (fun z => by rw [z, hp] at h2; cases h2) h2 (fun ps z => by cases z), Paired.imp (fun _ _ z => z.gp g hp) h3⟩
theorem KAt.gp {p : Addr} {xs : List V} {H H' : Hp} {fl : List Str} {ly : Addr} {bss : List (List BI)} (h : KAt H fl ly bss) (g : GeP p H H') (hp : H p = some (.lst xs)) : KAt H' fl ly bss := let ⟨es, h1, h2⟩ := h; ⟨es, g.1 ly _ (fun z => by rw [z, hp] at h1; cases h1) h1 (fun ps z => by cases z), Paired.imp (fun _ _ z => z.gp g hp) h2⟩
def hit (F : List (Key × V)) (keys : Str) (bi : BI) : Bool := decide (V.str bi.x = V.str keys) && holdsK F bi.ck
/-- the first binding of a layer that wins -/
def firstIn (F : List (Key × V)) (keys : Str) : List BI → Nat → Option Nat
  | [], _ => none
  | b :: r, j => if hit F keys b then some j else firstIn F keys r (j + 1)
def winnerB (F : List (Key × V)) (keys : Str) : List (List BI) → Nat → Option (Nat × Nat)
  | [], _ => none
  | l :: r, i => match firstIn F keys l 0 with | some j => some (i, j) | none => winnerB F keys r (i + 1)
def WinR (H : Hp) (r : V) : Option (Nat × Nat) → Prop
  | none => r = .non
  | some (i, j) => ∃ p, r = .ref p ∧ H p = some (.tup [.int (i : Nat), .int (j : Nat)])
section
variable {P : Program} {w : World} {K : PySem.W.Frag} {mg : Str → Option Value} {base : Heap} {T : List Addr}
/-- a keymap and a state of it that are right; its bindings apart -/
structure KS0 (K : PySem.W.Frag) (T : List Addr) (H : Hp) (u v : V) (m t o cd ly s : Addr) (fl : List Str) (bs : List Bool) (wt : Int) : Prop where
  eu : u = .ref m
  ev : v = .ref s
  hm : H m = some (.tup [.ref t, .ref o, .ref cd, .ref ly, .int wt])
  ht : Rd H t (.tup (fl.map V.str))
  hs : Rd H s (.tup (bs.map V.bl))
  nd : fl.Nodup
  l3 : fl.length ≤ 3
  lb : bs.length = fl.length
  da : ∃ d, Da K H u d ∧ small d = true ∧ isMap d = true ∧ lenT (flagsOf d) = fl.length
  tb : Tb T H
structure KS (K : PySem.W.Frag) (T : List Addr) (H : Hp) (u v : V) (m t o cd ly s : Addr) (fl : List Str) (bss : List (List BI)) (bs : List Bool) (wt : Int) : Prop extends KS0 K T H u v m t o cd ly s fl bs wt where
  hk : KAt H fl ly bss
theorem rdT' {H H' : Hp} {c : Addr} {xs : List V} (g : Ge H H') (h : Rd H c (.tup xs)) : Rd H' c (.tup xs) := g.rd (fun ps z => by cases z) h
theorem KS0.ge {H H' : Hp} {u v : V} {m t o cd ly s : Addr} {fl : List Str} {bs : List Bool} {wt : Int} (k : KS0 K T H u v m t o cd ly s fl bs wt) (g : Ge H H') : KS0 K T H' u v m t o cd ly s fl bs wt :=
  ⟨k.eu, k.ev, g.1 m _ k.hm (fun ps z => by cases z), rdT' g k.ht, rdT' g k.hs, k.nd, k.l3, k.lb, let ⟨d, h1, h2⟩ := k.da; ⟨d, g.da h1, h2⟩, g.tb k.tb⟩
theorem KS.ge {H H' : Hp} {u v : V} {m t o cd ly s : Addr} {fl : List Str} {bss : List (List BI)} {bs : List Bool} {wt : Int} (k : KS K T H u v m t o cd ly s fl bss bs wt) (g : Ge H H') : KS K T H' u v m t o cd ly s fl bss bs wt :=
  ⟨k.toKS0.ge g, k.hk.ge g⟩
theorem KS0.lock {H : Hp} {u v : V} {m t o cd ly s : Addr} {fl : List Str} {bs : List Bool} {wt : Int} {a : Addr} {od : Obj} {kvs : List (Key × V)} (k : KS0 K T H u v m t o cd ly s fl bs wt) (hH : H a = some (.dK kvs)) : KS0 K T (upd H a (.frz od (.dK kvs))) u v m t o cd ly s fl bs wt :=
  ⟨k.eu, k.ev, by rw [upd_ne (fun z => by have e := k.hm; rw [z, hH] at e; cases e)]; exact k.hm, rd_lock (Or.inl hH) (fun o w z => by cases z) k.ht, rd_lock (Or.inl hH) (fun o w z => by cases z) k.hs, k.nd, k.l3, k.lb, let ⟨d, h1, h2⟩ := k.da; ⟨d, da_lockA (Or.inl hH) h1, h2⟩, tb_lock (Or.inl hH) k.tb⟩
def spCheckS (K : PySem.W.Frag) (T : List Addr) : Sp := fun vs H Q _ => ∃ u v m t o cd ly s fl bs wt, vs = [u, v] ∧ KS0 K T H u v m t o cd ly s fl bs wt ∧ ∀ H', Ge H H' → Q .non H'
theorem scCheckS : FnScope ["keymap", "state"] ["keymap", "state"] (defScope s_check_state) := ⟨rfl, rfl, rfl, by decide +kernel, rfl, by decide +kernel, by decide +kernel⟩
theorem ok_check_state {f c : Addr} {fd : FuncData} (F : FunC K "check_state" s_check_state f fd c) (D1 : DfP P w K mg base 8 "check_map" ["keymap"] (spCheck K T)) (D2 : DfP P w K mg base 3 "fits_state" ["keymap", "thing"] (spSt K T)) : FnOk P w K mg base CX0 9 f fd ["keymap", "state"] (spCheckS K T) := by
  refine F.ok scCheckS (fun vs H Q E ⟨_, _, _, _, _, _, _, _, _, _, _, h, _⟩ => by rw [h]; rfl) (fun A outer s0 H vs Q E hr h => ?_)
  obtain ⟨u, v, m, t, o, cd, ly, s, fl, bs, wt, rfl, k, q⟩ := h
  obtain ⟨d, hd, h1, h2, h3⟩ := k.da
  refine ⟨_, pss_cons (ps_expr (pcall D1 hr pass0 rfl (pa_cons (pv 0) pa_nil))) (pss_one (ps_if (pt_not (pt_val (pcall D2 (hr.mono (by decide)) pass0 rfl (pa_cons (pv 0) (pa_cons (pv 1) pa_nil))))) (pss_one ps_never) pss_nil)), ?_⟩
  refine ⟨u, rfl, u, d, rfl, hd, h1, h2, k.tb, fun H1 g1 => ?_⟩
  have k1 := k.ge g1
  obtain ⟨b1, b2, b3, b4, b5, b6⟩ := bools_all bs
  have hv : Da K H1 v (.tuple (bs.map .bool)) := by rw [k1.ev]; exact .tup k1.hs (da_bools bs)
  have sm : small (.tuple (bs.map .bool)) = true := by
    have := (shown_le (.tuple (bs.map .bool)) (by simp only [okD, b1, Bool.and_true, List.length_map]; exact decide_eq_true (by have := k.lb; have := k.l3; omega))).2.2
    exact this
  refine ⟨_, rfl, _, rfl, u, v, d, .tuple (bs.map .bool), rfl, g1.da hd, h1, h2, hv, sm, k1.tb, fun H2 g2 => ⟨_, rfl, ?_⟩⟩
  have e : fitsState (lenT (flagsOf d)) (.tuple (bs.map .bool)) = true := by
    show (decide ((bs.map PyData.bool).length = lenT (flagsOf d)) && (bs.map PyData.bool).all isBoolD) = true
    rw [b6, h3, List.length_map, k.lb]
    simp
  rw [e]
  exact iteF (q H2 (g1.trans g2))
end
end Pr
set_option maxRecDepth 100000
set_option maxHeartbeats 2000000
namespace Pr
open PySem PySem.Spec PyProof.Rows L2 GxR Gx Rp Dl Pd Tx Zq
theorem first_drop (F : List (Key × V)) (keys : Str) {bis : List BI} {j : Nat} {b : BI} (h : bis[j]? = some b) (k : Nat) : firstIn F keys (bis.drop j) k = if hit F keys b then some k else firstIn F keys (bis.drop (j + 1)) (k + 1) := by
  obtain ⟨hj, e⟩ := List.getElem?_eq_some_iff.mp h
  rw [List.drop_eq_getElem_cons hj, e]
  rfl
theorem winner_drop (F : List (Key × V)) (keys : Str) {bss : List (List BI)} {j : Nat} {l : List BI} (h : bss[j]? = some l) (k : Nat) : winnerB F keys (bss.drop j) k = match firstIn F keys l 0 with | some i => some (k, i) | none => winnerB F keys (bss.drop (j + 1)) (k + 1) := by
  obtain ⟨hj, e⟩ := List.getElem?_eq_some_iff.mp h
  rw [List.drop_eq_getElem_cons hj, e]
  rfl
end Pr
set_option maxRecDepth 100000
set_option maxHeartbeats 2000000
namespace Pr
open PySem PySem.Spec PyProof.Rows L2 GxR Gx Rp Dl Pd Tx Zq
/-- a dict comprehension over any walk -/
theorem dc_it {J : It} {n : Nat} {G : Hp → Prop} {Y : Nat → Hp → V → Hp → Prop} (w : Walk J n G Y) {g : TG} {tt : TT} {tk tv : TE} {vs : List Nat} {σ : L2.St} {H1 : Hp} {D : Addr} {Qd : Hp → Prop} (Pv : Nat → Hp → Prop) (h0 : Pv 0 (upd H1 D (.dK []))) (hG : ∀ i H, i ≤ n → Pv i H → G H)
    (hs : ∀ i x H H', i < n → Pv i H → Y i H x H' → g x (wipe σ vs) H' fun σ2 H2 => wipe σ2 vs = wipe σ vs ∧ tt σ2 H2 fun b H3 =>
      if b = true then tk σ2 H3 fun y H4 => tv σ2 H4 fun z H5 => ∃ kvs k, y = kV k ∧ H5 D = some (.dK kvs) ∧ kvs.length < sizeLine ∧ Pv (i + 1) (upd H5 D (.dK (putK kvs k z))) else Pv (i + 1) H3) (hd : ∀ H, Pv n H → Qd H) :
    ∃ W : Nat → Nat → Hp → Prop, (∃ m, W 0 m (upd H1 D (.dK []))) ∧ ∀ i m H, W i m H →
      (J.stop i H ∧ Qd H) ∨ (J.go i H ∧ ∃ Nx : Hp → Prop, (∀ H', Nx H' → ∃ m', m' < m ∧ W (i + 1) m' H') ∧ ∀ x H', J.yld i H x H' → g x (wipe σ vs) H' fun σ2 H2 => wipe σ2 vs = wipe σ vs ∧ tt σ2 H2 fun b H3 =>
        if b = true then tk σ2 H3 fun y H4 => tv σ2 H4 fun z H5 => ∃ kvs k, y = kV k ∧ H5 D = some (.dK kvs) ∧ kvs.length < sizeLine ∧ Nx (upd H5 D (.dK (putK kvs k z))) else Nx H3) := by
  refine ⟨fun i m H => m = n - i ∧ i ≤ n ∧ Pv i H, ⟨n, by simp, Nat.zero_le _, h0⟩, ?_⟩
  rintro i m H ⟨rfl, hi, p⟩
  have q := hG i H hi p
  by_cases lt : i < n
  · exact Or.inr ⟨w.goes i H lt q, Pv (i + 1), fun H' p' => ⟨n - (i + 1), by omega, rfl, lt, p'⟩, fun x H' y => hs i x H H' lt p (w.yields i H x H' lt q y)⟩
  · obtain rfl : i = n := by omega
    exact Or.inl ⟨w.stops H q, hd H p⟩
def stepW (F acc : List (Key × V)) (bi : BI) : List (Key × V) := if (valV acc (Sum.inr bi.x : Key)).isNone && holdsK F bi.ck then acc ++ [(Sum.inr bi.x, bi.cm)] else acc
def winAll (F : List (Key × V)) (bs : List BI) : List (Key × V) := bs.foldl (stepW F) []
def boundK (F : List (Key × V)) (bss : List (List BI)) : List (Key × V) := (winAll F bss.flatten).filter fun q => !decide (q.2 = V.non)
theorem valV_isNone {kvs : List (Key × V)} {k : Key} (h : valV kvs k = none) : k ∉ kvs.map (·.1) := fun z => by
  induction kvs with
  | nil => cases z
  | cons p r ih =>
    by_cases e : p.1 = k
    · rw [valV_pos e] at h
      cases h
    · rw [valV_neg e] at h
      rcases List.mem_cons.mp z with z | z
      · exact e z.symm
      · exact ih h z
theorem stepW_nd {F acc : List (Key × V)} {bi : BI} (h : (acc.map (·.1)).Nodup) : ((stepW F acc bi).map (·.1)).Nodup := by
  unfold stepW
  split
  · rename_i hc
    rw [Bool.and_eq_true, Option.isNone_iff_eq_none] at hc
    have f := valV_isNone hc.1
    rw [List.map_append, List.nodup_append]
    refine ⟨h, by simp, fun x hx y hy e => ?_⟩
    simp at hy
    subst hy
    subst e
    exact f hx
  · exact h
theorem stepW_len {F acc : List (Key × V)} {bi : BI} : (stepW F acc bi).length ≤ acc.length + 1 := by
  unfold stepW
  split
  · simp
  · omega
theorem fold_nd {F : List (Key × V)} : ∀ (bs : List BI) (acc : List (Key × V)), (acc.map (·.1)).Nodup → ((bs.foldl (stepW F) acc).map (·.1)).Nodup
  | [], _, h => h
  | b :: r, acc, h => fold_nd r _ (stepW_nd h)
theorem fold_len {F : List (Key × V)} : ∀ (bs : List BI) (acc : List (Key × V)), (bs.foldl (stepW F) acc).length ≤ acc.length + bs.length
  | [], _ => Nat.le_refl _
  | b :: r, acc => by
    have h1 := fold_len (F := F) r (stepW F acc b)
    have h2 := stepW_len (F := F) (acc := acc) (bi := b)
    show (r.foldl (stepW F) (stepW F acc b)).length ≤ acc.length + (r.length + 1)
    omega
theorem Ge.nw {H H' : Hp} {d : Addr} (g : Ge H H') (h : H' d = none) : Nw H d := by
  refine ⟨fun o e => ?_, fun t => ?_⟩
  · cases o with
    | tbl ps => exact ⟨ps, rfl⟩
    | _ =>
      have z := g.1 d _ e (fun ps z => by cases z)
      rw [h] at z
      cases z
  · obtain ⟨ps, e, _⟩ := g.2 d t
    rw [h] at e
    cases e
theorem winAll_snoc (F : List (Key × V)) (xs : List BI) (b : BI) : winAll F (xs ++ [b]) = stepW F (winAll F xs) b := by
  unfold winAll
  rw [List.foldl_append]
  rfl
theorem flat_take {bss : List (List BI)} {i : Nat} {bis : List BI} (h : bss[i]? = some bis) : (bss.take (i + 1)).flatten = (bss.take i).flatten ++ bis := by
  rw [List.take_succ, h, List.flatten_append]
  simp
section
variable {P : Program} {w : World} {K : PySem.W.Frag} {mg : Str → Option Value} {base : Heap} {T : List Addr}
def spBoundIn (K : PySem.W.Frag) (T : List Addr) : Sp := fun vs H Q _ => ∃ u v m t o cd ly s fl bss bs wt, vs = [u, v] ∧ KS K T H u v m t o cd ly s fl bss bs wt ∧ bss.flatten.length ≤ 100 ∧ ∀ H' a, Ge H H' → Nw H a → H' a = some (.dK (boundK (factsK fl bs) bss)) → Q (.ref a) H'
abbrev nBoundIn : List Str := ["keymap", "state", "facts", "winning", "bindings", "keys", "condition", "command"]
theorem scBoundIn : FnScope nBoundIn ["keymap", "state"] (defScope s_bound_in) := ⟨rfl, rfl, rfl, by decide +kernel, rfl, by decide +kernel, by decide +kernel⟩
theorem ok_bound_in {f c : Addr} {fd : FuncData} (F : FunC K "bound_in" s_bound_in f fd c) (Df : DfP P w K mg base 1 "facts_of" ["keymap", "state"] spFacts) (Dh : DfP P w K mg base 2 "holds" ["condition", "facts"] (spHolds T)) : FnOk P w K mg base CX0 3 f fd ["keymap", "state"] (spBoundIn K T) := by
  refine F.ok scBoundIn (fun vs H Q E ⟨_, _, _, _, _, _, _, _, _, _, _, _, h, _⟩ => by rw [h]; rfl) (fun A outer s0 H vs Q E hr h => ?_)
  obtain ⟨u, v, m, t, o, cd, ly, s, fl, bss, bs, wt, rfl, k, h100, q⟩ := h
  have hu := hu_of hr
  refine ⟨_, pss_cons (ps_asg (pcall Df (hr.mono (by decide)) pass0 rfl (pa_cons (pv 0) (pa_cons (pv 1) pa_nil))) (pg_name (i := 2) scBoundIn.nd rfl (Or.inl rfl)))
    (pss_cons (ps_asg pe_dnewK (pg_name (i := 3) scBoundIn.nd rfl (Or.inr rfl)))
    (pss_cons (ps_for PassesOwn.never rfl (pi_tup (pe_ix ix_tup (pv 0) pe_int (fun _ _ => rfl))) (pg_name (i := 4) scBoundIn.nd rfl (Or.inl rfl))
      (pss_one (ps_for PassesOwn.never rfl (pi_tup (pv 4)) (pg_tup rfl (pgs_cons (pg_name (i := 5) scBoundIn.nd rfl (Or.inl rfl)) (pgs_cons (pg_name (i := 6) scBoundIn.nd rfl (Or.inl rfl)) (pgs_cons (pg_name (i := 7) scBoundIn.nd rfl (Or.inl rfl)) pgs_nil))))
        (pss_one (ps_if (PW.pt (pw_and (pt_cmp (pc_dnotin hu (pv 5) (pv 3))) (pw_and1 (pt_val (pcall Dh hr pass0 rfl (pa_cons (pv 6) (pa_cons (pv 2) pa_nil))))))) (pss_one (ps_dput hu (pv 3) (pv 5) (pv 7) rfl)) pss_nil)))))
    (pss_one (ps_ret (pe_lock (pe_dc (own := [("keys", 5)]) (g := gName 5) rfl scBoundIn.nd (pi_keys (pv 3)) (blkOk_by (N := nBoundIn) (sc := defScope s_bound_in) (by decide +kernel)) (fun _ _ _ _ _ => pg_name (i := 5) scBoundIn.nd rfl (Or.inl rfl))
        (fun _ _ _ _ _ => pts_one (pt_cmpR op_notN (pe_dget hu (pv 3) (pv 5) (fun _ _ => rfl)) pe_non (nomark _))) (fun _ _ _ _ _ => pv 5) (fun _ _ _ _ _ => pe_dget hu (pv 3) (pv 5) (fun _ _ => rfl)))))))), ?_⟩
  refine ⟨u, rfl, v, rfl, m, t, s, _, fl, bs, by rw [k.eu, k.ev], Or.inl k.hm, k.ht, k.nd, k.hs, k.lb, k.l3, fun H3 a g3 ha0 ha => fun wd hwd => ?_⟩
  have k3 := k.ge g3
  obtain ⟨es, e1', e2⟩ := k.hk
  have e1 := g3.1 ly _ e1' (fun ps z => by cases z)
  have pl := Paired.length e2
  have hu' : u = .ref m := k3.eu
  subst hu'
  have gw := Ge.new (o := .dK []) hwd
  refine ⟨_, rfl, m, _, _, _, rfl, rfl, Or.inl (Or.inl (gw.1 m _ k3.hm (fun ps z => by cases z))), atI_nat (j := 3) rfl, ly, rfl, ⟨es, Or.inl (Or.inl (gw.1 ly _ e1 (fun ps z => by cases z)))⟩, ?_⟩
  refine for_tup (K := K) (a := ly) (xs := es) (fun i σ H' => i ≤ es.length ∧ Ge H3 H' ∧ H' wd = some (.dK (winAll (factsK fl bs) (bss.take i).flatten)) ∧ ∃ x4 x5 x6 x7, σ = [some (.ref m), some v, some (.ref a), some (.ref wd), x4, x5, x6, x7])
    ⟨Nat.zero_le _, gw, upd_same, _, _, _, _, rfl⟩ (fun i σ H' _ z => Or.inl (Or.inl (z.2.1.1 ly _ e1 (fun ps z => by cases z)))) ?_ ?_
  · rintro i x σ H4 hx ⟨_, g4, hw4, x4, x5, x6, x7, rfl⟩
    obtain ⟨bis, hb1, hb2⟩ := paired_at e2 hx
    have hi : i < es.length := (List.getElem?_eq_some_iff.mp hx).1
    obtain ⟨la, vs, rfl, l1', l2⟩ := hb2
    have pl2 := Paired.length l2
    have l1 := g3.1 la _ l1' (fun ps z => by cases z)
    refine ⟨_, rfl, la, rfl, ⟨vs, Or.inl (Or.inl (g4.1 la _ l1 (fun ps z => by cases z)))⟩, ?_⟩
    refine for_tup (K := K) (a := la) (xs := vs) (fun j σ H' => j ≤ vs.length ∧ Ge H3 H' ∧ H' wd = some (.dK (winAll (factsK fl bs) ((bss.take i).flatten ++ bis.take j))) ∧ ∃ x5 x6 x7, σ = [some (.ref m), some v, some (.ref a), some (.ref wd), some (.ref la), x5, x6, x7])
      ⟨Nat.zero_le _, g4, by rw [List.take_zero, List.append_nil]; exact hw4, _, _, _, rfl⟩ (fun j σ H' _ z => Or.inl (Or.inl (z.2.1.1 la _ l1 (fun ps z => by cases z)))) ?_ ?_
    · rintro j x σ H5 hx5 ⟨_, g5, hw5, y5, y6, y7, rfl⟩
      obtain ⟨bi, hc1, hc2⟩ := paired_at l2 hx5
      have hj : j < vs.length := (List.getElem?_eq_some_iff.mp hx5).1
      obtain ⟨b, cc, rfl, b1', b2', b3, b4⟩ := hc2
      have b1 := (g3.trans g5).1 b _ b1' (fun ps z => by cases z)
      have b2 := (g3.trans g5).dk b2'
      have et : bis.take (j + 1) = bis.take j ++ [bi] := by rw [List.take_succ, hc1]; rfl
      have es' : winAll (factsK fl bs) ((bss.take i).flatten ++ bis.take (j + 1)) = stepW (factsK fl bs) (winAll (factsK fl bs) ((bss.take i).flatten ++ bis.take j)) bi := by
        rw [et, ← List.append_assoc, winAll_snoc]
      have alen : (winAll (factsK fl bs) ((bss.take i).flatten ++ bis.take j)).length ≤ 100 := by
        have h1 := fold_len (F := factsK fl bs) ((bss.take i).flatten ++ bis.take j) []
        have h2 : ((bss.take i).flatten ++ bis.take j).length ≤ bss.flatten.length := by
          have e4 := flat_take hb1
          have s1 : ((bss.take i).flatten ++ bis.take j).Sublist (bss.take (i + 1)).flatten := by
            rw [e4]
            exact (List.Sublist.refl _).append (List.take_sublist _ _)
          have s2 : ((bss.take (i + 1)).flatten).Sublist bss.flatten := by
            have z : bss.flatten = (bss.take (i + 1)).flatten ++ (bss.drop (i + 1)).flatten := by rw [← List.flatten_append, List.take_append_drop]
            rw [z]
            exact List.sublist_append_left _ _
          exact (s1.trans s2).length_le
        show ((((bss.take i).flatten ++ bis.take j).foldl (stepW (factsK fl bs)) [])).length ≤ 100
        have h3 : ([] : List (Key × V)).length = 0 := rfl
        omega
      generalize hacc : winAll (factsK fl bs) ((bss.take i).flatten ++ bis.take j) = acc at *
      refine ⟨b, _, rfl, SqT.of b1, rfl, _, _, rfl, _, _, rfl, _, _, rfl, rfl, ?_⟩
      refine ⟨_, rfl, _, rfl, wd, _, rfl, DGet.k (k := Sum.inr bi.x) hw5, _, rfl, ?_⟩
      cases e5 : valV acc (Sum.inr bi.x : Key) with
      | some z =>
        refine iteF (iteF ⟨hj, g5, ?_, _, _, _, rfl⟩)
        rw [es', hw5]
        unfold stepW
        rw [e5]
        rfl
      | none =>
        refine iteT ⟨_, rfl, _, rfl, cc, a, bi.ck, factsK fl bs, rfl, b2, b3, g5.dk ha, ne_of_none b2' ha0, fun q' hq' => ?_, g5.tb k3.tb, fun H8 g8 => ⟨_, rfl, ?_⟩⟩
        · obtain ⟨fx, b', rfl, hfx⟩ := b4 q' hq'
          obtain ⟨b0, hb0⟩ := facts_at (bs := bs) k3.lb.symm hfx
          exact ⟨b0, b', hb0, rfl⟩
        · have hw8 := g8.dk hw5
          cases e6 : holdsK (factsK fl bs) bi.ck with
          | false =>
            refine iteF ⟨hj, g5.trans g8, ?_, _, _, _, rfl⟩
            rw [es', hw8]
            unfold stepW
            rw [e5, e6]
            rfl
          | true =>
            refine iteT ⟨_, rfl, _, rfl, _, rfl, wd, _, rfl, DPut.k (k := Sum.inr bi.x) hw8 (Nat.lt_of_le_of_lt alen (by decide)), hj, Ge.upd (g5.trans g8) hwd, ?_, _, _, _, rfl⟩
            rw [es', upd_same, putK_app (valV_isNone e5)]
            unfold stepW
            rw [e5, e6]
            rfl
    · rintro σ H5 ⟨_, g5, hw5, y5, y6, y7, rfl⟩
      rw [pl2, List.take_length, ← flat_take hb1] at hw5
      exact ⟨hi, g5, hw5, _, _, _, _, rfl⟩
  · rintro σ H4 ⟨_, g4, hw4, x4, x5, x6, x7, rfl⟩
    rw [pl, List.take_length] at hw4
    have nd : ((winAll (factsK fl bs) bss.flatten).map (·.1)).Nodup := fold_nd _ _ List.nodup_nil
    have alen : (winAll (factsK fl bs) bss.flatten).length ≤ 100 := by
      have h1 := fold_len (F := factsK fl bs) bss.flatten []
      have h3 : ([] : List (Key × V)).length = 0 := rfl
      show ((bss.flatten.foldl (stepW (factsK fl bs)) [])).length ≤ 100
      omega
    have qq : ∀ H' a, Ge H H' → Nw H a → H' a = some (.dK ((winAll (factsK fl bs) bss.flatten).filter fun q => !decide (q.2 = V.non))) → Q (.ref a) H' := q
    generalize winAll (factsK fl bs) bss.flatten = acc at *
    refine ⟨wd, .dK acc, hw4, True.intro, fun od => ⟨.ref wd, rfl, wd, od, rfl, Or.inl ⟨acc, upd_same, fun D hD => ?_⟩⟩⟩
    have dw : D ≠ wd := fun z => by rw [z, upd_same] at hD; cases hD
    have hD4 : H4 D = none := by rw [upd_ne dw] at hD; exact hD
    refine dc_it (n := acc.length) (walk_keys (d := wd) (o := od) (kvs := acc)) (fun k H' => k ≤ acc.length ∧ Ge (upd H4 wd (.frz od (.dK acc))) H' ∧ H' D = some (.dK ((acc.take k).filter fun q => !decide (q.2 = V.non))))
      ⟨Nat.zero_le _, Ge.new hD, upd_same⟩ (fun k H' _ z => z.2.1.1 wd _ upd_same (fun ps z => by cases z)) ?_ ?_
    · rintro k x H5 H6 hk ⟨_, g5, hd5⟩ ⟨rfl, key, val, ek, rfl⟩
      have hl : H6 wd = some (.frz od (.dK acc)) := g5.1 wd _ upd_same (fun ps z => by cases z)
      have hm := List.mem_of_getElem? ek
      have et : acc.take (k + 1) = acc.take k ++ [(key, val)] := by rw [List.take_succ, ek]; rfl
      have hget : DGet H6 wd (kV key) (some val) := Or.inl ⟨acc, key, Or.inr ⟨od, hl⟩, rfl, (valV_nodup nd hm).symm⟩
      refine ⟨rfl, _, rfl, _, rfl, wd, val, rfl, hget, rfl, _, rfl, ?_⟩
      have ef : (acc.take (k + 1)).filter (fun q => !decide (q.2 = V.non)) = (acc.take k).filter (fun q => !decide (q.2 = V.non)) ++ (if (!decide (val = V.non)) = true then [(key, val)] else []) := by
        rw [et, List.filter_append]
        cases e : (!decide (val = V.non)) <;> simp [e]
      cases e : (!decide (val = V.non)) with
      | false =>
        refine iteF ⟨hk, g5, ?_⟩
        rw [ef, e, if_neg Bool.false_ne_true, List.append_nil]
        exact hd5
      | true =>
        refine iteT ⟨_, rfl, _, rfl, _, rfl, wd, val, rfl, hget, _, key, rfl, hd5, ?_, hk, Ge.upd g5 hD, ?_⟩
        · have h1 : ((acc.take k).filter fun q => !decide (q.2 = V.non)).length ≤ 100 := by
            refine Nat.le_trans (List.length_filter_le _ _) ?_
            rw [List.length_take]
            omega
          exact Nat.lt_of_le_of_lt h1 (by decide)
        · rw [upd_same, ef, e, if_pos rfl, putK_app]
          intro z
          obtain ⟨q', hq', e'⟩ := List.mem_map.mp z
          have hq2 := (List.mem_filter.mp hq').1
          have fr := take_fresh (fl := acc.map (·.1)) (i := k) (x := key) nd (by rw [List.getElem?_map, ek]; rfl)
          rw [← List.map_take] at fr
          exact fr (List.mem_map.mpr ⟨q', hq2, e'⟩)
    · rintro H5 ⟨_, g5, hd5⟩
      rw [List.take_length] at hd5
      obtain ⟨q1, q2⟩ := ge_unlock hw4 g5
      refine ⟨q1, qq _ D ((g3.trans g4).trans q2) (Ge.nw (g3.trans g4) hD4) ?_⟩
      rw [upd_ne dw]
      exact hd5
end
end Pr
set_option maxRecDepth 100000
set_option maxHeartbeats 2000000
namespace Pr
open PySem PySem.Spec PyProof.Rows L2 GxR Gx Rp Dl Pd Tx Zq
/-- an effect at c: some flags with booleans -/
def EAt (H : Hp) (fl : List Str) (c : Addr) (ek : List (Key × V)) : Prop := H c = some (.dK ek) ∧ (ek.map (·.1)).Nodup ∧ ∀ q ∈ ek, ∃ f b, q = (Sum.inr f, V.bl b) ∧ f ∈ fl
theorem EAt.ge {H H' : Hp} {fl : List Str} {c : Addr} {ek : List (Key × V)} (h : EAt H fl c ek) (g : Ge H H') : EAt H' fl c ek := ⟨g.dk h.1, h.2⟩
theorem EAt.gp {p : Addr} {xs : List V} {H H' : Hp} {fl : List Str} {c : Addr} {ek : List (Key × V)} (h : EAt H fl c ek) (g : GeP p H H') (hp : H p = some (.lst xs)) : EAt H' fl c ek := ⟨g.dk hp h.1, h.2⟩
/-- the commands at cd -/
def CAt (H : Hp) (fl : List Str) (cd : Addr) (cks : List (Key × V)) (eks : Str → List (Key × V)) : Prop := Rd H cd (.dK cks) ∧ (cks.map (·.1)).Nodup ∧ ∀ q ∈ cks, ∃ n c, q = (Sum.inr n, V.ref c) ∧ EAt H fl c (eks n) ∧ isName (.str n) = true ∧ small (.str n) = true
theorem CAt.ge {H H' : Hp} {fl : List Str} {cd : Addr} {cks : List (Key × V)} {eks : Str → List (Key × V)} (h : CAt H fl cd cks eks) (g : Ge H H') : CAt H' fl cd cks eks := ⟨g.rd (fun ps z => by cases z) h.1, h.2.1, fun q hq => let ⟨n, c, h1, h2, h3⟩ := h.2.2 q hq; ⟨n, c, h1, h2.ge g, h3⟩⟩
theorem CAt.gp {p : Addr} {xs : List V} {H H' : Hp} {fl : List Str} {cd : Addr} {cks : List (Key × V)} {eks : Str → List (Key × V)} (h : CAt H fl cd cks eks) (g : GeP p H H') (hp : H p = some (.lst xs)) : CAt H' fl cd cks eks := ⟨g.rd hp (fun ps z => by cases z) (fun ys z => by cases z) h.1, h.2.1, fun q hq => let ⟨n, c, h1, h2, h3⟩ := h.2.2 q hq; ⟨n, c, h1, h2.gp g hp, h3⟩⟩
theorem CAt.lock {H : Hp} {fl : List Str} {cd : Addr} {cks : List (Key × V)} {eks : Str → List (Key × V)} {od : Obj} (h : CAt H fl cd cks eks) (hH : H cd = some (.dK cks)) : CAt (upd H cd (.frz od (.dK cks))) fl cd cks eks :=
  ⟨Or.inr ⟨od, upd_same⟩, h.2.1, fun q hq => by
    obtain ⟨n, c, h1, h2, h3⟩ := h.2.2 q hq
    have ne : c ≠ cd := fun z => by
      have e := h2.1
      rw [z, hH] at e
      cases e
      obtain ⟨f, b, e2, _⟩ := h2.2.2 q hq
      rw [h1] at e2
      cases e2
    exact ⟨n, c, h1, ⟨by rw [upd_ne ne]; exact h2.1, h2.2⟩, h3⟩⟩
def vB : V → Bool
  | .bl b => b
  | _ => false
def resV (F ek : List (Key × V)) (f : Str) : V := (valV ek (Sum.inr f : Key)).getD ((valV F (Sum.inr f : Key)).getD .non)
/-- the state behind an effect -/
def bsAfter (fl : List Str) (bs : List Bool) (ek : List (Key × V)) : List Bool := fl.map fun f => vB (resV (factsK fl bs) ek f)
theorem eff_val {ek : List (Key × V)} {fl : List Str} (h : ∀ q ∈ ek, ∃ f b, q = (Sum.inr f, V.bl b) ∧ f ∈ fl) (k : Key) : valV ek k = none ∨ ∃ b, valV ek k = some (.bl b) := by
  cases e : valV ek k with
  | none => exact Or.inl rfl
  | some v =>
    right
    induction ek with
    | nil => cases e
    | cons p r ih =>
      by_cases z : p.1 = k
      · rw [valV_pos z] at e
        obtain ⟨f, b, hp, _⟩ := h p List.mem_cons_self
        rw [hp] at e
        exact ⟨b, e.symm⟩
      · rw [valV_neg z] at e
        exact ih (fun q hq => h q (List.mem_cons_of_mem _ hq)) e
theorem resV_bl {fl : List Str} {bs : List Bool} {ek : List (Key × V)} {f : Str} (h : ∀ q ∈ ek, ∃ f b, q = (Sum.inr f, V.bl b) ∧ f ∈ fl) (hl : fl.length = bs.length) (hf : f ∈ fl) : resV (factsK fl bs) ek f = .bl (vB (resV (factsK fl bs) ek f)) := by
  obtain ⟨b0, h0⟩ := facts_at (bs := bs) hl hf
  unfold resV
  rw [h0]
  rcases eff_val h (Sum.inr f) with e | ⟨b, e⟩ <;> rw [e] <;> rfl
section
variable {P : Program} {w : World} {K : PySem.W.Frag} {mg : Str → Option Value} {base : Heap} {T : List Addr}
def spWith (K : PySem.W.Frag) (T : List Addr) : Sp := fun vs H Q _ => ∃ u v m t o cd ly s fl bs wt c ek, vs = [u, v, .ref c] ∧ KS0 K T H u v m t o cd ly s fl bs wt ∧ EAt H fl c ek ∧ ∀ (H' : Hp) (p : Addr), Ge H H' → H' p = some (.tup ((bsAfter fl bs ek).map V.bl)) → Q (.ref p) H'
abbrev nWith : List Str := ["keymap", "state", "settings", "facts", "flag"]
def spAfter (K : PySem.W.Frag) (T : List Addr) : Sp := fun vs H Q _ => ∃ u v m t o cd ly s fl bs wt cks eks n, vs = [u, v, .str n] ∧ KS0 K T H u v m t o cd ly s fl bs wt ∧ CAt H fl cd cks eks ∧ (∃ x, (Sum.inr n, x) ∈ cks) ∧ ∀ (H' : Hp) (p : Addr), Ge H H' → H' p = some (.tup ((bsAfter fl bs (eks n)).map V.bl)) → Q (.ref p) H'
theorem spAfter_len : ∀ vs H Q E, spAfter K T vs H Q E → vs.length = 3 := fun vs H Q E ⟨_, _, _, _, _, _, _, _, _, _, _, _, _, _, h, _⟩ => by rw [h]; rfl
end
end Pr
set_option maxRecDepth 100000
set_option maxHeartbeats 2000000
/-! law k02: its own conditions and winners -/
namespace Pr
open PySem PySem.Spec PyProof.Rows L2 GxR Gx Rp Dl Pd Tx Zq
theorem notIn_bools : ∀ bs : List Bool, (!inV (.bl false) (bs.map V.bl)) = bs.all id ∧ (bs.map V.bl).all flatV = true
  | [] => ⟨rfl, rfl⟩
  | b :: r => by
    obtain ⟨h1, h2⟩ := notIn_bools r
    refine ⟨?_, by rw [List.map_cons, List.all_cons, h2]; rfl⟩
    unfold inV at h1 ⊢
    rw [List.map_cons, List.any_cons, List.all_cons, Bool.not_or, h1]
    cases b <;> rfl
end Pr
set_option maxRecDepth 100000
set_option maxHeartbeats 2000000
namespace Pr
open PySem PySem.Spec PyProof.Rows L2 GxR Gx Rp Dl Pd Tx Zq
def firstC (F : List (Key × V)) (x : Str) : List BI → Nat → Option (Nat × V)
  | [], _ => none
  | b :: r, j => if hit F x b then some (j, b.cm) else firstC F x r (j + 1)
def winC (F : List (Key × V)) (x : Str) : List (List BI) → Nat → Option (Nat × Nat × V)
  | [], _ => none
  | l :: r, i => match firstC F x l 0 with | some (j, c) => some (i, j, c) | none => winC F x r (i + 1)
theorem firstC_fst (F : List (Key × V)) (x : Str) : ∀ (bs : List BI) (j : Nat), firstIn F x bs j = (firstC F x bs j).map (·.1)
  | [], _ => rfl
  | b :: r, j => by
    show (if hit F x b then some j else firstIn F x r (j + 1)) = (if hit F x b then some (j, b.cm) else firstC F x r (j + 1)).map (·.1)
    cases hit F x b with
    | true => rfl
    | false => exact firstC_fst F x r (j + 1)
theorem winC_fst (F : List (Key × V)) (x : Str) : ∀ (bs : List (List BI)) (i : Nat), winnerB F x bs i = (winC F x bs i).map fun q : Nat × Nat × V => (q.1, q.2.1)
  | [], _ => rfl
  | l :: r, i => by
    show (match firstIn F x l 0 with | some j => some (i, j) | none => winnerB F x r (i + 1)) = (match firstC F x l 0 with | some (j, c) => some (i, j, c) | none => winC F x r (i + 1)).map fun q : Nat × Nat × V => (q.1, q.2.1)
    rw [firstC_fst]
    cases firstC F x l 0 with
    | some q => rfl
    | none => exact winC_fst F x r (i + 1)
theorem firstC_drop (F : List (Key × V)) (x : Str) {bis : List BI} {j : Nat} {b : BI} (h : bis[j]? = some b) (k : Nat) : firstC F x (bis.drop j) k = if hit F x b then some (k, b.cm) else firstC F x (bis.drop (j + 1)) (k + 1) := by
  obtain ⟨hj, e⟩ := List.getElem?_eq_some_iff.mp h
  rw [List.drop_eq_getElem_cons hj, e]
  rfl
theorem winC_drop (F : List (Key × V)) (x : Str) {bss : List (List BI)} {j : Nat} {l : List BI} (h : bss[j]? = some l) (k : Nat) : winC F x (bss.drop j) k = match firstC F x l 0 with | some (i, c) => some (k, i, c) | none => winC F x (bss.drop (j + 1)) (k + 1) := by
  obtain ⟨hj, e⟩ := List.getElem?_eq_some_iff.mp h
  rw [List.drop_eq_getElem_cons hj, e]
  rfl
/-- the table of winners -/
def WT (H : Hp) (found : List (Key × V)) (W : Str → Option (Nat × Nat × V)) : Prop := (found.map (·.1)).Nodup ∧ (∀ q ∈ found, ∃ x, q.1 = Sum.inr x) ∧
  ∀ x, (W x = none ∧ valV found (Sum.inr x : Key) = none) ∨ ∃ i j c p, W x = some (i, j, c) ∧ valV found (Sum.inr x : Key) = some (.ref p) ∧ H p = some (.tup [.int (i : Nat), .int (j : Nat), c])
theorem WT.ge {H H' : Hp} {found : List (Key × V)} {W : Str → Option (Nat × Nat × V)} (h : WT H found W) (g : Ge H H') : WT H' found W := ⟨h.1, h.2.1, fun x => (h.2.2 x).imp id fun ⟨i, j, c, p, h1, h2, h3⟩ => ⟨i, j, c, p, h1, h2, g.1 p _ h3 (fun ps z => by cases z)⟩⟩
theorem WT.eq {H : Hp} {found : List (Key × V)} {W W' : Str → Option (Nat × Nat × V)} (h : WT H found W) (e : ∀ x, W' x = W x) : WT H found W' := by
  have : W' = W := funext e
  rw [this]
  exact h
theorem putK_keys {kvs : List (Key × V)} {k : Key} {v : V} : (putK kvs k v).map (·.1) = kvs.map (·.1) ∨ (k ∉ kvs.map (·.1) ∧ (putK kvs k v).map (·.1) = kvs.map (·.1) ++ [k]) := by
  unfold putK
  split
  · left
    rw [List.map_map]
    refine List.map_congr_left fun q _ => ?_
    show (if q.1 = k then (q.1, v) else q).1 = q.1
    split <;> rfl
  · rename_i h
    right
    refine ⟨fun z => h ?_, by rw [List.map_append]; rfl⟩
    obtain ⟨q, hq, e⟩ := List.mem_map.mp z
    exact List.any_eq_true.mpr ⟨q, hq, decide_eq_true e⟩
theorem WT.put {H : Hp} {found : List (Key × V)} {W : Str → Option (Nat × Nat × V)} {x : Str} {i j : Nat} {c : V} {p : Addr} (h : WT H found W) (hp : H p = some (.tup [.int (i : Nat), .int (j : Nat), c])) : WT H (putK found (Sum.inr x) (.ref p)) (fun y => if y = x then some (i, j, c) else W y) := by
  refine ⟨?_, fun q hq => ?_, fun y => ?_⟩
  · rcases putK_keys (kvs := found) (k := Sum.inr x) (v := .ref p) with e | ⟨n, e⟩ <;> rw [e]
    · exact h.1
    · rw [List.nodup_append]
      refine ⟨h.1, by simp, fun a ha b hb z => ?_⟩
      simp at hb
      subst hb
      subst z
      exact n ha
  · have hm : q.1 ∈ (putK found (Sum.inr x) (.ref p)).map (·.1) := List.mem_map.mpr ⟨q, hq, rfl⟩
    rcases putK_keys (kvs := found) (k := Sum.inr x) (v := .ref p) with e | ⟨n, e⟩ <;> rw [e] at hm
    · obtain ⟨q', h1, h2⟩ := List.mem_map.mp hm
      obtain ⟨z, hz⟩ := h.2.1 q' h1
      exact ⟨z, by rw [← h2, hz]⟩
    · rcases List.mem_append.mp hm with hm | hm
      · obtain ⟨q', h1, h2⟩ := List.mem_map.mp hm
        obtain ⟨z, hz⟩ := h.2.1 q' h1
        exact ⟨z, by rw [← h2, hz]⟩
      · exact ⟨x, List.mem_singleton.mp hm⟩
  · rw [valV_put]
    by_cases e : y = x
    · subst e
      exact Or.inr ⟨i, j, c, p, if_pos rfl, if_pos rfl, hp⟩
    · rw [if_neg (fun z => e (Sum.inr.inj z))]
      have z : (fun y => if y = x then some (i, j, c) else W y) y = W y := if_neg e
      rw [z]
      exact h.2.2 y
theorem WT.updD {H : Hp} {found old new : List (Key × V)} {W : Str → Option (Nat × Nat × V)} {d : Addr} (h : WT H found W) (hd : H d = some (.dK old)) : WT (upd H d (.dK new)) found W := ⟨h.1, h.2.1, fun x => (h.2.2 x).imp id fun ⟨i, j, c, p, h1, h2, h3⟩ => ⟨i, j, c, p, h1, h2, by rw [upd_ne (fun z => by rw [z, hd] at h3; cases h3)]; exact h3⟩⟩
theorem hit_dec {F : List (Key × V)} {x : Str} {bi : BI} (h : holdsK F bi.ck = true) : hit F x bi = decide (x = bi.x) := by
  unfold hit
  rw [h, Bool.and_true]
  exact decide_eq_decide.mpr ⟨fun z => (V.str.inj z).symm, fun z => by rw [z]⟩
theorem putK_le {kvs : List (Key × V)} {k : Key} {v : V} : (putK kvs k v).length ≤ kvs.length + 1 := by
  unfold putK
  split
  · rw [List.length_map]
    omega
  · rw [List.length_append]
    exact Nat.le_refl _
end Pr
set_option maxRecDepth 100000
set_option maxHeartbeats 2000000
namespace Pr
open PySem PySem.Spec PyProof.Rows L2 GxR Gx Rp Dl Pd Tx Zq
/-- d.update(e), two dicts -/
def rUpd : V → List V → Hp → VK → Prop := fun x vs H Q => ∃ d e kvs more, x = .ref d ∧ vs = [.ref e] ∧ H d = some (.dK kvs) ∧ H e = some (.dK more) ∧ d ≠ e ∧ kvs.length + more.length ≤ sizeLine ∧ Q .non (upd H d (.dK (mergeK kvs more)))
theorem mt_update {X : Cx} : MtM X "dict.update" rUpd := by
  intro pins s σ H x xs v us Q I rx rv h
  obtain ⟨d, e, kvs, more, rfl, rfl, hd, he, hne, hz, q⟩ := h
  cases rx
  obtain ⟨u, rfl, ru⟩ := rv.one
  cases ru
  obtain ⟨z1, lo1, vs1, rel1, dd1⟩ := dk_of I.hok hd
  obtain ⟨z2, lo2, vs2, rel2, dd2⟩ := dk_of I.hok he
  have len : (mergeK kvs more).length ≤ sizeLine := Nat.le_trans (length_mergeK more kvs) hz
  refine call_meetsIn PySem.F.slot_dict_update dd1.typeIs PySem.F.entry_dict_update (PySem.F.args_dict_update_2 _ _) (meets_dict_update (mixKind X.prog X.w) d e hne lo2) ⟨vs1, vs2, dd1, dd2, (by rw [← rel1.length, ← rel2.length]; exact hz), fun h' hmm _ hs => ?_⟩
  have hex : ∃ q, h'.get? d = some q := let ⟨q, _, _, hq, _⟩ := hmm; ⟨q, hq⟩
  exact ⟨.non, _, d_write I (by rw [hd]; exact True.intro) hs hex (dk_new len lo1 (KV.merge rel2 rel1) hmm), rfl, q⟩
theorem valV_merge : ∀ {more F : List (Key × V)} (k : Key), (more.map (·.1)).Nodup → valV (mergeK F more) k = match valV more k with | some v => some v | none => valV F k
  | [], F, k, _ => rfl
  | (k0, v0) :: r, F, k, h => by
    obtain ⟨h1, h2⟩ : k0 ∉ r.map (·.1) ∧ (r.map (·.1)).Nodup := List.nodup_cons.mp h
    have ih := valV_merge (F := putK F k0 v0) k h2
    show valV (mergeK (putK F k0 v0) r) k = _
    rw [ih]
    by_cases e : k0 = k
    · subst e
      have e1 : valV r k0 = none := by
        cases z : valV r k0 with
        | none => rfl
        | some v => exact absurd (valV_in z) h1
      rw [e1, valV_pos (p := (k0, v0)) rfl]
      show valV (putK F k0 v0) k0 = some v0
      rw [valV_put, if_pos rfl]
    · rw [valV_neg (p := (k0, v0)) e, valV_put, if_neg (Ne.symm e)]
end Pr
set_option maxRecDepth 100000
set_option maxHeartbeats 2000000
/-! bound against the law's own: the same commands at the same keys -/
namespace Pr
open PySem PySem.Spec PyProof.Rows L2 GxR Gx Rp Dl Pd Tx Zq
theorem valV_app (acc : List (Key × V)) (k : Key) (v : V) (j : Key) : valV (acc ++ [(k, v)]) j = match valV acc j with | some u => some u | none => if k = j then some v else none := by
  induction acc with
  | nil =>
    show valV [(k, v)] j = if k = j then some v else none
    by_cases e : k = j
    · rw [valV_pos (p := (k, v)) e, if_pos e]
    · rw [valV_neg (p := (k, v)) e, if_neg e]; rfl
  | cons p r ih =>
    by_cases e : p.1 = j
    · rw [List.cons_append, valV_pos e, valV_pos e]
    · rw [List.cons_append, valV_neg e, valV_neg e, ih]
theorem firstC_snd (F : List (Key × V)) (x : Str) : ∀ (bs : List BI) (j k : Nat), (firstC F x bs j).map (·.2) = (firstC F x bs k).map (·.2)
  | [], _, _ => rfl
  | b :: r, j, k => by
    show (if hit F x b then some (j, b.cm) else firstC F x r (j + 1)).map (·.2) = (if hit F x b then some (k, b.cm) else firstC F x r (k + 1)).map (·.2)
    cases hit F x b with
    | true => rfl
    | false => exact firstC_snd F x r _ _
theorem firstC_app (F : List (Key × V)) (x : Str) (cs : List BI) : ∀ (bs : List BI) (j k : Nat), (firstC F x (bs ++ cs) j).map (·.2) = match firstC F x bs k with | some q => some q.2 | none => (firstC F x cs 0).map (·.2)
  | [], j, k => firstC_snd F x cs _ _
  | b :: r, j, k => by
    show (if hit F x b then some (j, b.cm) else firstC F x (r ++ cs) (j + 1)).map (·.2) = match (if hit F x b then some (k, b.cm) else firstC F x r (k + 1)) with | some q => some q.2 | none => (firstC F x cs 0).map (·.2)
    cases hit F x b with
    | true => rfl
    | false => exact firstC_app F x cs r _ _
theorem winC_flat (F : List (Key × V)) (x : Str) : ∀ (bss : List (List BI)) (i j : Nat), (firstC F x bss.flatten j).map (·.2) = (winC F x bss i).map fun q : Nat × Nat × V => q.2.2
  | [], _, _ => rfl
  | l :: r, i, j => by
    rw [List.flatten_cons, firstC_app F x r.flatten l j 0]
    show _ = (match firstC F x l 0 with | some (j, c) => some (i, j, c) | none => winC F x r (i + 1)).map fun q : Nat × Nat × V => q.2.2
    cases firstC F x l 0 with
    | some q => rfl
    | none => exact winC_flat F x r (i + 1) 0
theorem fold_val (F : List (Key × V)) (x : Str) : ∀ (bs : List BI) (acc : List (Key × V)), valV (bs.foldl (stepW F) acc) (Sum.inr x : Key) = match valV acc (Sum.inr x : Key) with | some v => some v | none => (firstC F x bs 0).map (·.2)
  | [], acc => by
    show valV acc _ = match valV acc (Sum.inr x : Key) with | some v => some v | none => none
    cases valV acc (Sum.inr x : Key) <;> rfl
  | b :: r, acc => by
    show valV (r.foldl (stepW F) (stepW F acc b)) (Sum.inr x : Key) = match valV acc (Sum.inr x : Key) with | some v => some v | none => (if hit F x b then some (0, b.cm) else firstC F x r 1).map (·.2)
    rw [fold_val F x r (stepW F acc b)]
    have hs : (firstC F x r 1).map (·.2) = (firstC F x r 0).map (·.2) := firstC_snd F x r 1 0
    unfold stepW hit
    by_cases e : b.x = x
    · subst e
      rw [show decide (V.str b.x = V.str b.x) = true from decide_eq_true rfl, Bool.true_and]
      cases e1 : valV acc (Sum.inr b.x : Key) with
      | some v =>
        rw [if_neg (by simp), e1]
      | none =>
        cases e2 : holdsK F b.ck with
        | true =>
          rw [if_pos (by simp), valV_app, e1, if_pos rfl]
          rfl
        | false =>
          rw [if_neg (by simp), e1]
          exact hs.symm
    · have e3 : decide (V.str b.x = V.str x) = false := decide_eq_false fun z => e (V.str.inj z)
      rw [e3, Bool.false_and]
      have e4 : valV (if (valV acc (Sum.inr b.x : Key)).isNone && holdsK F b.ck then acc ++ [((Sum.inr b.x : Key), b.cm)] else acc) (Sum.inr x : Key) = valV acc (Sum.inr x : Key) := by
        split
        · rw [valV_app, if_neg (fun z => e (Sum.inr.inj z))]
          cases valV acc (Sum.inr x : Key) <;> rfl
        · rfl
      rw [e4]
      cases valV acc (Sum.inr x : Key) with
      | some v => rfl
      | none => exact hs.symm
theorem winAll_val (F : List (Key × V)) (x : Str) (bss : List (List BI)) : valV (winAll F bss.flatten) (Sum.inr x : Key) = (winC F x bss 0).map fun q : Nat × Nat × V => q.2.2 := by
  unfold winAll
  rw [fold_val]
  exact winC_flat F x bss 0 0
theorem valV_mem {kvs : List (Key × V)} {k : Key} {v : V} (h : valV kvs k = some v) : (k, v) ∈ kvs := by
  induction kvs with
  | nil => cases h
  | cons p r ih =>
    by_cases e : p.1 = k
    · rw [valV_pos e] at h
      obtain ⟨a, b⟩ := p
      cases h
      cases e
      exact List.mem_cons_self
    · rw [valV_neg e] at h
      exact List.mem_cons_of_mem _ (ih h)
/-- the command of a key's winner -/
def cmK (F : List (Key × V)) (bss : List (List BI)) : Key → V
  | .inr x => (Option.map (fun q : Nat × Nat × V => q.2.2) (winC F x bss 0)).getD .non
  | .inl _ => .non
def dueK (F : List (Key × V)) (bss : List (List BI)) (found : List (Key × V)) : List (Key × V) := (found.map fun q => (q.1, cmK F bss q.1)).filter fun q => !decide (q.2 = V.non)
theorem nd_sub {α : Type} [DecidableEq α] : ∀ {xs ys : List α}, xs.Nodup → (∀ x ∈ xs, x ∈ ys) → xs.length ≤ ys.length
  | [], _, _, _ => Nat.zero_le _
  | x :: r, ys, h, s => by
    obtain ⟨h1, h2⟩ := List.nodup_cons.mp h
    have hm := s x List.mem_cons_self
    have ih := nd_sub (ys := ys.erase x) h2 fun y hy => (List.mem_erase_of_ne (fun z => h1 (by rw [← z]; exact hy))).mpr (s y (List.mem_cons_of_mem _ hy))
    rw [List.length_erase_of_mem hm] at ih
    have : 0 < ys.length := List.length_pos_of_mem hm
    show r.length + 1 ≤ ys.length
    omega
theorem filter_nd {kvs : List (Key × V)} {p : Key × V → Bool} (h : (kvs.map (·.1)).Nodup) : ((kvs.filter p).map (·.1)).Nodup := h.sublist (List.filter_sublist.map _)
theorem winAll_inr (F : List (Key × V)) : ∀ (bs : List BI) (acc : List (Key × V)), (∀ q ∈ acc, ∃ x, q.1 = Sum.inr x) → ∀ q ∈ bs.foldl (stepW F) acc, ∃ x, q.1 = Sum.inr x
  | [], acc, h => h
  | b :: r, acc, h => winAll_inr F r _ fun q hq => by
    unfold stepW at hq
    split at hq
    · rcases List.mem_append.mp hq with z | z
      · exact h q z
      · exact ⟨b.x, by rw [List.mem_singleton.mp z]⟩
    · exact h q hq
theorem due_nd {H : Hp} {F found : List (Key × V)} {bss : List (List BI)} (w : WT H found (fun x => winC F x bss 0)) : ((dueK F bss found).map (·.1)).Nodup := by
  refine filter_nd ?_
  rw [List.map_map]
  exact w.1
/-- what bound gives is what the winners say -/
theorem bound_due {H : Hp} {F found : List (Key × V)} {bss : List (List BI)} (w : WT H found (fun x => winC F x bss 0)) : (boundK F bss).length = (dueK F bss found).length ∧ ∀ p ∈ boundK F bss, valV (dueK F bss found) p.1 = some p.2 := by
  have nd1 : ((winAll F bss.flatten).map (·.1)).Nodup := fold_nd _ _ List.nodup_nil
  have nb : ((boundK F bss).map (·.1)).Nodup := filter_nd nd1
  have nu := due_nd w
  have A : ∀ p ∈ boundK F bss, p ∈ dueK F bss found := fun p hp => by
    obtain ⟨h1, h2⟩ := List.mem_filter.mp hp
    obtain ⟨x, hx⟩ := winAll_inr F bss.flatten [] (fun q hq => by cases hq) p h1
    obtain ⟨k, v⟩ := p
    cases hx
    have z := winAll_val F x bss
    rw [valV_nodup nd1 h1] at z
    refine List.mem_filter.mpr ⟨?_, h2⟩
    rcases w.2.2 x with ⟨n1, _⟩ | ⟨i, j, c, pp, w1, w2, _⟩
    · have n1 : winC F x bss 0 = none := n1
      rw [n1] at z
      cases z
    · have w1 : winC F x bss 0 = some (i, j, c) := w1
      rw [w1] at z
      have z : some v = some c := z
      refine List.mem_map.mpr ⟨_, valV_mem w2, ?_⟩
      show ((Sum.inr x : Key), (Option.map (fun q : Nat × Nat × V => q.2.2) (winC F x bss 0)).getD .non) = (Sum.inr x, v)
      rw [w1, Option.some.inj z]
      rfl
  have B : ∀ p ∈ dueK F bss found, p ∈ boundK F bss := fun p hp => by
    obtain ⟨h1, h2⟩ := List.mem_filter.mp hp
    obtain ⟨q, hq, e⟩ := List.mem_map.mp h1
    obtain ⟨x, hx⟩ := w.2.1 q hq
    obtain ⟨k, v⟩ := q
    cases hx
    cases e
    refine List.mem_filter.mpr ⟨?_, h2⟩
    rcases w.2.2 x with ⟨_, n2⟩ | ⟨i, j, c, pp, w1, w2, _⟩
    · rw [valV_nodup w.1 hq] at n2
      cases n2
    · have w1 : winC F x bss 0 = some (i, j, c) := w1
      refine valV_mem ?_
      rw [winAll_val]
      show Option.map _ _ = some ((Option.map (fun q : Nat × Nat × V => q.2.2) (winC F x bss 0)).getD .non)
      rw [w1]
      rfl
  refine ⟨Nat.le_antisymm ?_ ?_, fun p hp => valV_nodup nu (A p hp)⟩
  · have z := nd_sub nb (ys := (dueK F bss found).map (·.1)) fun x hx => by
      obtain ⟨q, h1, h2⟩ := List.mem_map.mp hx
      exact List.mem_map.mpr ⟨q, A q h1, h2⟩
    simpa using z
  · have z := nd_sub nu (ys := (boundK F bss).map (·.1)) fun x hx => by
      obtain ⟨q, h1, h2⟩ := List.mem_map.mp hx
      exact List.mem_map.mpr ⟨q, B q h1, h2⟩
    simpa using z
end Pr
set_option maxRecDepth 100000
set_option maxHeartbeats 2000000
namespace Pr
open PySem PySem.Spec PyProof.Rows L2 GxR Gx Rp Dl Pd Tx Zq
theorem bools_shown {cs : List Bool} (hl : cs.length ≤ 50) : (PyData.tuple (cs.map .bool)).showable = true ∧ noL (.tuple (cs.map .bool)) = true ∧ (PyData.tuple (cs.map .bool)).depth ≤ 60 ∧ (PyData.tuple (cs.map .bool)).shown.length ≤ sizeLine := by
  obtain ⟨h1, h2, h3, h4, h5, h6⟩ := bools_all cs
  have ok : okD (.tuple (cs.map .bool)) = true := by
    simp only [okD, h1, Bool.and_true, List.length_map]
    exact decide_eq_true (by omega)
  have wg : wgt (.tuple (cs.map .bool)) ≤ 100000 := by
    simp only [wgt, h2]
    omega
  obtain ⟨f1, f2, f3⟩ := shown_le _ ok
  refine ⟨f2, by simp only [noL, h4], ?_, Nat.le_trans f1 (Nat.le_trans wg (by decide))⟩
  simp only [PyData.depth, h3]
  omega
theorem ix_tupK {X : Cx} {K : PySem.W.Frag} (h : X.K = K) : IxR X (rIxT K) := h ▸ ix_tup
end Pr
set_option maxRecDepth 100000
set_option maxHeartbeats 2000000
/-! a drawn keymap as bindings and commands in the heap -/
namespace Pr
open PySem PySem.Spec PyProof.Rows L2 GxR Gx Rp Dl Pd Tx Zq
def BIok (fl ns : List Str) (bi : BI) : Prop := bi.ck.length ≤ fl.length ∧ (bi.cm = .non ∨ ∃ n ∈ ns, bi.cm = .str n) ∧ 1 ≤ bi.x.length ∧ bi.x.length ≤ 4 ∧ letters bi.x = true
theorem bnd_at {H : Hp} {v : V} {fl ns : List Str} (h : Bnd H v fl ns) : ∃ bi : BI, BAt H fl v bi ∧ BIok fl ns bi := by
  obtain ⟨b, x, c, m, rfl, h1, x1, x4, xl, ⟨d, kvs, rfl, e1, e2, e3, e4⟩, hm⟩ := h
  refine ⟨⟨x, kvs, m⟩, ⟨b, d, rfl, h1, e1, e2, e3⟩, e4, ?_, x1, x4, xl⟩
  rcases hm with rfl | ⟨n, hn, rfl⟩
  · exact Or.inl rfl
  · exact Or.inr ⟨n, hn, rfl⟩
theorem lay_at {H : Hp} {fl ns : List Str} : ∀ vs : List V, (∀ b ∈ vs, Bnd H b fl ns) → ∃ bis, Paired (BAt H fl) vs bis ∧ ∀ bi ∈ bis, BIok fl ns bi
  | [], _ => ⟨[], .nil, fun _ z => by cases z⟩
  | v :: r, h => by
    obtain ⟨bi, h1, h2⟩ := bnd_at (h v List.mem_cons_self)
    obtain ⟨bis, h3, h4⟩ := lay_at r fun b hb => h b (List.mem_cons_of_mem _ hb)
    refine ⟨bi :: bis, .cons h1 h3, fun b hb => ?_⟩
    rcases List.mem_cons.mp hb with rfl | hb
    · exact h2
    · exact h4 b hb
theorem lays_at {H : Hp} {fl ns : List Str} : ∀ ks : List (Addr × List V), (∀ e ∈ ks, H e.1 = some (.tup e.2) ∧ ∀ b ∈ e.2, Bnd H b fl ns) → ∃ bss, Paired (LAt H fl) (ks.map fun e => V.ref e.1) bss ∧ (∀ l ∈ bss, ∀ bi ∈ l, BIok fl ns bi) ∧ bss.map (·.length) = ks.map (·.2.length)
  | [], _ => ⟨[], .nil, (fun _ z => by cases z), rfl⟩
  | e :: r, h => by
    obtain ⟨q1, q2⟩ := h e List.mem_cons_self
    obtain ⟨bis, h1, h2⟩ := lay_at e.2 q2
    obtain ⟨bss, h3, h4, h5⟩ := lays_at r fun b hb => h b (List.mem_cons_of_mem _ hb)
    refine ⟨bis :: bss, .cons ⟨e.1, e.2, rfl, q1, h1⟩ h3, fun b hb => ?_, ?_⟩
    · rcases List.mem_cons.mp hb with rfl | hb
      · exact h2
      · exact h4 b hb
    · rw [List.map_cons, List.map_cons, h5, Paired.length h1]
/-- the effect of the command n -/
def eksOf (H : Hp) (kvs : List (Key × V)) (n : Str) : List (Key × V) := match valV kvs (Sum.inr n : Key) with
  | some (.ref c) => match H c with
    | some (.dK ek) => ek
    | _ => []
  | _ => []
theorem cmd_at {H : Hp} {cd : Addr} {kvs : List (Key × V)} {ns fl : List Str} (h1 : H cd = some (.dK kvs)) (h2 : (kvs.map (·.1)).Nodup) (h3 : ∀ kv ∈ kvs, ∃ n v, kv = (Sum.inr n, v) ∧ n ∈ ns ∧ Eff H v fl) (s : SubN ns) :
    CAt H fl cd kvs (eksOf H kvs) ∧ ∀ n c, (Sum.inr n, V.ref c) ∈ kvs → (eksOf H kvs n).length ≤ fl.length := by
  have A : ∀ q ∈ kvs, ∃ n c, q = (Sum.inr n, V.ref c) ∧ n ∈ ns ∧ EAt H fl c (eksOf H kvs n) ∧ (eksOf H kvs n).length ≤ fl.length := fun q hq => by
    obtain ⟨n, v, rfl, hn, d, ek, rfl, e1, e2, e3, e4⟩ := h3 q hq
    have e : eksOf H kvs n = ek := by
      unfold eksOf
      rw [valV_nodup h2 hq]
      show (match H d with | some (.dK ek) => ek | _ => []) = ek
      rw [e1]
    exact ⟨n, d, rfl, hn, by rw [e]; exact ⟨e1, e2, e3⟩, by rw [e]; exact e4⟩
  refine ⟨⟨Or.inl h1, h2, fun q hq => ?_⟩, fun n c hm => ?_⟩
  · obtain ⟨n, c, e, hn, ea, _⟩ := A q hq
    obtain ⟨o1, o2, _⟩ := ok_names n (s.subset hn)
    exact ⟨n, c, e, ea, o1, (shown_le _ o2).2.2⟩
  · obtain ⟨n', c', e, _, _, l⟩ := A _ hm
    cases e
    exact l
end Pr
set_option maxRecDepth 100000
set_option maxHeartbeats 2000000
/-! a drawn keymap: all that k02 asks of it -/
namespace Pr
open PySem PySem.Spec PyProof.Rows L2 GxR Gx Rp Dl Pd Tx Zq
structure MapK (K : PySem.W.Frag) (H : Hp) (m t o cd ly : Addr) (fl ns : List Str) (bss : List (List BI)) (wt : Int) (cks : List (Key × V)) (eks : Str → List (Key × V)) (d : PyData) : Prop where
  hm : H m = some (.tup [.ref t, .ref o, .ref cd, .ref ly, .int wt])
  ht : Rd H t (.tup (fl.map V.str))
  nd : fl.Nodup
  l3 : fl.length ≤ 3
  hk : KAt H fl ly bss
  da : Da K H (.ref m) d
  dm : MapD d
  dl : lenT (flagsOf d) = fl.length
  hcd : H cd = some (.dK cks)
  ca : CAt H fl cd cks eks
  e3 : ∀ n c, (Sum.inr n, V.ref c) ∈ cks → (eks n).length ≤ 3
  bo : ∀ l ∈ bss, ∀ bi ∈ l, BIok fl ns bi
  n4 : bss.length ≤ 4
  n16 : bss.flatten.length ≤ 16
  sn : SubN ns
theorem flag_len {K : PySem.W.Frag} {H : Hp} {m t : Addr} {rest : List V} {fl : List Str} {d : PyData} (hd : Da K H (.ref m) d) (hm : H m = some (.tup (.ref t :: rest))) (ht : Rd H t (.tup (fl.map V.str))) : lenT (flagsOf d) = fl.length := by
  cases hd with
  | lst h1 _ => have e := rd_one (fun o w z => by cases z) (fun o w z => by cases z) h1 (Or.inl hm); cases e
  | dct h1 _ _ => have e := rd_one (fun o w z => by cases z) (fun o w z => by cases z) h1 (Or.inl hm); cases e
  | tup h1 h2 =>
    have e := rd_one (fun o w z => by cases z) (fun o w z => by cases z) h1 (Or.inl hm)
    cases e
    cases h2 with
    | cons k1 _ =>
      cases k1 with
      | lst q1 _ => have e := rd_one (fun o w z => by cases z) (fun o w z => by cases z) q1 ht; cases e
      | dct q1 _ _ => have e := rd_one (fun o w z => by cases z) (fun o w z => by cases z) q1 ht; cases e
      | tup q1 q2 =>
        have e := rd_one (fun o w z => by cases z) (fun o w z => by cases z) q1 ht
        cases e
        have z := daAll_len q2
        rw [List.length_map] at z
        exact z
theorem map_k {K : PySem.W.Frag} {H : Hp} {v : V} (mh : MapH H v) : ∃ m t o cd ly fl ns bss wt cks eks d, v = .ref m ∧ MapK K H m t o cd ly fl ns bss wt cks eks d := by
  obtain ⟨d, hd, hm⟩ := map_da (K := K) mh
  obtain ⟨m, t, o, cd, ly, fl, ol, ns, ks, i, rfl, em, et, _, s1, _, s3, ⟨cks, c1, c2, c3, _, _⟩, _, _, hly, _, k4, kc, hk⟩ := mh
  obtain ⟨bss, h1, h2, h3⟩ := lays_at ks hk
  obtain ⟨a1, a2⟩ := cmd_at c1 c2 c3 s3
  have l3 : fl.length ≤ 3 := s1.length_le
  refine ⟨m, t, o, cd, ly, fl, ns, bss, i, cks, eksOf H cks, d, rfl, em, et, s1.nodup, l3, ⟨_, hly, h1⟩, hd, hm, flag_len hd em et, c1, a1, fun n c z => Nat.le_trans (a2 n c z) l3, h2, ?_, ?_, s3⟩
  · have z := Paired.length h1
    rw [List.length_map] at z
    omega
  · rw [List.length_flatten, h3]
    exact kc
theorem MapK.ge {K : PySem.W.Frag} {H H' : Hp} {m t o cd ly : Addr} {fl ns : List Str} {bss : List (List BI)} {wt : Int} {cks : List (Key × V)} {eks : Str → List (Key × V)} {d : PyData} (k : MapK K H m t o cd ly fl ns bss wt cks eks d) (g : Ge H H') : MapK K H' m t o cd ly fl ns bss wt cks eks d :=
  ⟨g.1 m _ k.hm (fun ps z => by cases z), rdT' g k.ht, k.nd, k.l3, k.hk.ge g, g.da k.da, k.dm, k.dl, g.dk k.hcd, k.ca.ge g, k.e3, k.bo, k.n4, k.n16, k.sn⟩
theorem MapK.gp {K : PySem.W.Frag} {H H' : Hp} {m t o cd ly p : Addr} {xs : List V} {fl ns : List Str} {bss : List (List BI)} {wt : Int} {cks : List (Key × V)} {eks : Str → List (Key × V)} {d : PyData} (k : MapK K H m t o cd ly fl ns bss wt cks eks d) (g : GeP p H H') (hp : H p = some (.lst xs)) : MapK K H' m t o cd ly fl ns bss wt cks eks d :=
  ⟨g.1 m _ (fun z => by have e := k.hm; rw [z, hp] at e; cases e) k.hm (fun ps z => by cases z), g.rd hp (fun ps z => by cases z) (fun ys z => by cases z) k.ht, k.nd, k.l3, k.hk.gp g hp, g.da hp k.dm.2.2.1 k.da, k.dm, k.dl, g.dk hp k.hcd, k.ca.gp g hp, k.e3, k.bo, k.n4, k.n16, k.sn⟩
theorem MapK.ks {K : PySem.W.Frag} {T : List Addr} {H : Hp} {m t o cd ly s : Addr} {fl ns : List Str} {bss : List (List BI)} {wt : Int} {cks : List (Key × V)} {eks : Str → List (Key × V)} {d : PyData} {bs : List Bool} (k : MapK K H m t o cd ly fl ns bss wt cks eks d) (hs : H s = some (.tup (bs.map V.bl))) (lb : bs.length = fl.length) (tb : Tb T H) : KS K T H (.ref m) (.ref s) m t o cd ly s fl bss bs wt :=
  ⟨⟨rfl, rfl, k.hm, k.ht, Or.inl hs, k.nd, k.l3, lb, ⟨d, k.da, (shown_le d k.dm.2.1).2.2, k.dm.1, k.dl⟩, tb⟩, k.hk⟩
end Pr
set_option maxRecDepth 100000
set_option maxHeartbeats 2000000
/-! rows that are right: is_letter, is_time, is_entry, fits_row -/
namespace Pr
open PySem PySem.Spec PyProof.Rows L2 GxR Gx Rp Dl Pd Tx Zq
inductive RE where
  | key (c : Nat) (t : Int)
  | set (f : Str) (b : Bool) (t : Int)
def RE.t : RE → Int
  | .key _ t => t
  | .set _ _ t => t
def RE.vs : RE → List V
  | .key c t => [.str "key", .str ⟨#[c]⟩, .int t]
  | .set f b t => [.str "set", .str f, .bl b, .int t]
def EntAt (H : Hp) (v : V) (e : RE) : Prop := ∃ a, v = .ref a ∧ H a = some (.tup e.vs)
theorem EntAt.ge {H H' : Hp} {v : V} {e : RE} (h : EntAt H v e) (g : Ge H H') : EntAt H' v e := let ⟨a, h1, h2⟩ := h; ⟨a, h1, g.1 a _ h2 (fun ps z => by cases z)⟩
theorem EntAt.gp {p : Addr} {xs : List V} {H H' : Hp} {v : V} {e : RE} (h : EntAt H v e) (g : GeP p H H') (hp : H p = some (.lst xs)) : EntAt H' v e := let ⟨a, h1, h2⟩ := h; ⟨a, h1, g.1 a _ (fun z => by rw [z, hp] at h2; cases h2) h2 (fun ps z => by cases z)⟩
def okE (ol : List Str) : RE → Prop
  | .key c t => 97 ≤ c ∧ c ≤ 122 ∧ 0 ≤ t ∧ t ≤ 1000000000
  | .set f _ t => f ∈ ol ∧ 0 ≤ t ∧ t ≤ 1000000000
theorem okE.time {ol : List Str} {e : RE} (h : okE ol e) : 0 ≤ e.t ∧ e.t ≤ 1000000000 := by
  cases e with
  | key c t => exact ⟨h.2.2.1, h.2.2.2⟩
  | set f b t => exact ⟨h.2.1, h.2.2⟩
def RowOk (ol : List Str) (es : List RE) : Prop := (∀ e ∈ es, okE ol e) ∧ es.Pairwise (fun a b => a.t ≤ b.t) ∧ es.length ≤ 300
def RE.d : RE → PyData
  | .key c t => .tuple [.str "key", .str ⟨#[c]⟩, .int t]
  | .set f b t => .tuple [.str "set", .str f, .bool b, .int t]
theorem ent_da {K : PySem.W.Frag} {H : Hp} {v : V} {e : RE} (h : EntAt H v e) : Da K H v e.d := by
  obtain ⟨a, rfl, h⟩ := h
  cases e with
  | key c t => exact .tup (Or.inl h) (.cons (.str _) (.cons (.str _) (.cons (.int _) .nil)))
  | set f b t => exact .tup (Or.inl h) (.cons (.str _) (.cons (.str _) (.cons (.bl _) (.cons (.int _) .nil))))
theorem in_flags {ol : List Str} {f : Str} (h : f ∈ ol) : inV (.str f) (ol.map V.str) = true ∧ (ol.map V.str).all flatV = true := by
  refine ⟨?_, ?_⟩
  · unfold inV
    refine List.any_eq_true.mpr ⟨.str f, List.mem_map.mpr ⟨f, h, rfl⟩, ?_⟩
    show (f == f) = true
    exact beq_self_eq_true f
  · refine List.all_eq_true.mpr fun x hx => ?_
    obtain ⟨y, _, rfl⟩ := List.mem_map.mp hx
    rfl
def isLetter : PyData → Bool := isWord 1
theorem letter_ok {c : Nat} (h1 : 97 ≤ c) (h2 : c ≤ 122) : isLetter (.str ⟨#[c]⟩) = true ∧ small (.str ⟨#[c]⟩) = true := by
  refine ⟨?_, decide_eq_true (show Str.length ⟨#[c]⟩ ≤ sizeLine from (by decide : 1 ≤ sizeLine))⟩
  show (decide (1 ≤ (((1 : Nat) : Int))) && decide ((((1 : Nat) : Int)) ≤ 1) && (decide (97 ≤ c) && decide (c ≤ 122) && true)) = true
  rw [decide_eq_true h1, decide_eq_true h2]
  rfl
def isTime : PyData → Bool := isWithin 0 1000000000
theorem time_ok {t : Int} (h1 : 0 ≤ t) (h2 : t ≤ 1000000000) : isTime (.int t) = true ∧ small (.int t) = true := by
  refine ⟨?_, rfl⟩
  show (decide (0 ≤ t) && decide (t ≤ 1000000000)) = true
  rw [decide_eq_true h1, decide_eq_true h2]
  rfl
section
variable {P : Program} {w : World} {K : PySem.W.Frag} {mg : Str → Option Value} {base : Heap} {T : List Addr}
def spEnt (K : PySem.W.Frag) (T : List Addr) : Sp := fun vs H Q _ => ∃ (o : Addr) (v : V) (ol : List Str) (e : RE), vs = [.ref o, v] ∧ Rd H o (.tup (ol.map V.str)) ∧ EntAt H v e ∧ okE ol e ∧ Tb T H ∧ ∀ H', Ge H H' → Q (.bl true) H'
abbrev nEntry : List Str := ["outside", "thing", "word", "letter", "time", "flag", "value"]
end
end Pr
set_option maxRecDepth 100000
set_option maxHeartbeats 2000000
/-! fits_row, bursts -/
namespace Pr
open PySem PySem.Spec PyProof.Rows L2 GxR Gx Rp Dl Pd Tx Zq
theorem row_da {K : PySem.W.Frag} {H : Hp} : ∀ {vs : List V} {es : List RE}, Paired (EntAt H) vs es → DaAll K H vs (es.map RE.d)
  | _, _, .nil => .nil
  | _, _, .cons a b => .cons (ent_da a) (row_da b)
def RowAt (H : Hp) (L : Addr) (es : List RE) : Prop := ∃ vs, H L = some (.lst vs) ∧ Paired (EntAt H) vs es
theorem RowAt.ge {H H' : Hp} {L : Addr} {es : List RE} (h : RowAt H L es) (g : Ge H H') : RowAt H' L es := let ⟨vs, h1, h2⟩ := h; ⟨vs, g.1 L _ h1 (fun ps z => by cases z), Paired.imp (fun _ _ z => z.ge g) h2⟩
theorem RowAt.gp {p : Addr} {xs : List V} {H H' : Hp} {L : Addr} {es : List RE} (h : RowAt H L es) (g : GeP p H H') (hp : H p = some (.lst xs)) (n : L ≠ p) : RowAt H' L es := let ⟨vs, h1, h2⟩ := h; ⟨vs, g.1 L _ n h1 (fun ps z => by cases z), Paired.imp (fun _ _ z => z.gp g hp) h2⟩
theorem last_ent (e : RE) : atI e.vs (-1) = some (.int e.t) := by cases e <;> rfl
section
variable {P : Program} {w : World} {K : PySem.W.Frag} {mg : Str → Option Value} {base : Heap} {T : List Addr}
def spFitsR (K : PySem.W.Frag) (T : List Addr) : Sp := fun vs H Q _ => ∃ (m t o L : Addr) (rest : List V) (ol : List Str) (es : List RE), vs = [.ref m, .ref L] ∧ H m = some (.tup (.ref t :: .ref o :: rest)) ∧ Rd H o (.tup (ol.map V.str)) ∧ RowAt H L es ∧ RowOk ol es ∧ Tb T H ∧ ∀ H', Ge H H' → Q (.bl true) H'
abbrev nFitsR : List Str := ["keymap", "thing", "earliest", "entry"]
end
end Pr
set_option maxRecDepth 100000
set_option maxHeartbeats 2000000
/-! bursts -/
namespace Pr
open PySem PySem.Spec PyProof.Rows L2 GxR Gx Rp Dl Pd Tx Zq
def mkS (ks : List Nat) : Str := ⟨ks.toArray⟩
theorem mkS_len (ks : List Nat) : (mkS ks).length = ks.length := List.size_toArray
theorem mkS_add (ks : List Nat) (c : Nat) : mkS ks ++ (⟨#[c]⟩ : Str) = mkS (ks ++ [c]) := by
  show (⟨ks.toArray ++ #[c]⟩ : Str) = ⟨(ks ++ [c]).toArray⟩
  simp
abbrev BU := List Nat × Option (Str × Bool)
def setK : Option (Str × Bool) → List (Key × V)
  | none => []
  | some (f, b) => [(Sum.inr f, .bl b)]
def burstsM (w : Int) : List RE → List Nat → Int → List BU
  | [], ks, _ => [(ks, none)]
  | .set f b _ :: r, ks, last => (ks, some (f, b)) :: burstsM w r [] last
  | .key c t :: r, ks, last => if ks ≠ [] ∧ w < t - last then (ks, none) :: burstsM w r [c] t else burstsM w r (ks ++ [c]) t
def BurAt (H : Hp) (v : V) (u : BU) : Prop := ∃ a d, v = .ref a ∧ H a = some (.tup [.str (mkS u.1), .ref d]) ∧ H d = some (.dK (setK u.2))
theorem BurAt.ge {H H' : Hp} {v : V} {u : BU} (h : BurAt H v u) (g : Ge H H') : BurAt H' v u := let ⟨a, d, h1, h2, h3⟩ := h; ⟨a, d, h1, g.1 a _ h2 (fun ps z => by cases z), g.dk h3⟩
theorem BurAt.gp {p : Addr} {xs : List V} {H H' : Hp} {v : V} {u : BU} (h : BurAt H v u) (g : GeP p H H') (hp : H p = some (.lst xs)) : BurAt H' v u := let ⟨a, d, h1, h2, h3⟩ := h; ⟨a, d, h1, g.1 a _ (fun z => by rw [z, hp] at h2; cases h2) h2 (fun ps z => by cases z), g.dk hp h3⟩
theorem paired_snoc {α β : Type} {F : α → β → Prop} {a : α} {b : β} (h : F a b) : ∀ {xs : List α} {ys : List β}, Paired F xs ys → Paired F (xs ++ [a]) (ys ++ [b])
  | _, _, .nil => .cons h .nil
  | _, _, .cons x r => .cons x (paired_snoc h r)
section
variable {P : Program} {w : World} {K : PySem.W.Frag} {mg : Str → Option Value} {base : Heap} {T : List Addr}
def spBursts : Sp := fun vs H Q _ => ∃ (L : Addr) (es : List RE) (wt : Int), vs = [.ref L, .int wt] ∧ RowAt H L es ∧ es.length ≤ 300 ∧ ∀ (H' : Hp) (l : Addr) (us : List V), Ge H H' → H' l = some (.lst us) → Paired (BurAt H') us (burstsM wt es [] 0) → Q (.ref l) H'
abbrev nBursts : List Str := ["row", "wait", "found", "keys", "last", "entry"]
end
end Pr
set_option maxRecDepth 100000
set_option maxHeartbeats 2000000
/-! events; the first event of a burst -/
namespace Pr
open PySem PySem.Spec PyProof.Rows L2 GxR Gx Rp Dl Pd Tx Zq
inductive Ev where
  | text (c : Nat)
  | act (n : Str) (ks : List Nat)
def Ev.vs : Ev → List V
  | .text c => [.str "text", .str ⟨#[c]⟩]
  | .act n ks => [.str "do", .str n, .str (mkS ks)]
def Ev.len : Ev → Nat
  | .text _ => 1
  | .act _ ks => ks.length
def EvAt (H : Hp) (v : V) (e : Ev) : Prop := ∃ a, v = .ref a ∧ H a = some (.tup e.vs)
theorem EvAt.ge {H H' : Hp} {v : V} {e : Ev} (h : EvAt H v e) (g : Ge H H') : EvAt H' v e := let ⟨a, h1, h2⟩ := h; ⟨a, h1, g.1 a _ h2 (fun ps z => by cases z)⟩
theorem EvAt.gp {p : Addr} {xs : List V} {H H' : Hp} {v : V} {e : Ev} (h : EvAt H v e) (g : GeP p H H') (hp : H p = some (.lst xs)) : EvAt H' v e := let ⟨a, h1, h2⟩ := h; ⟨a, h1, g.1 a _ (fun z => by rw [z, hp] at h2; cases h2) h2 (fun ps z => by cases z)⟩
/-- the command that is bound to the keys -/
def cmdOf (F : List (Key × V)) (bss : List (List BI)) (x : Str) : Option Str := match winC F x bss 0 with
  | some (_, _, .str n) => some n
  | _ => none
def tryAt (C : Str → Option Str) (ks : List Nat) (m : Nat) (k : Ev) : Ev := match C (mkS (ks.take m)) with
  | some n => .act n (ks.take m)
  | none => k
def firstEv (C : Str → Option Str) (ks : List Nat) : Ev := tryAt C ks 4 (tryAt C ks 3 (tryAt C ks 2 (tryAt C ks 1 (.text (ks.headD 0)))))
theorem try_none {C : Str → Option Str} {ks : List Nat} {m : Nat} {k : Ev} (h : C (mkS (ks.take m)) = none) : tryAt C ks m k = k := by
  unfold tryAt
  rw [h]
theorem try_some {C : Str → Option Str} {ks : List Nat} {m : Nat} {k : Ev} {n : Str} (h : C (mkS (ks.take m)) = some n) : tryAt C ks m k = .act n (ks.take m) := by
  unfold tryAt
  rw [h]
theorem first_at {C : Str → Option Str} {ks : List Nat} {i : Nat} {n : Str} (hi : i < 4) (h : ∀ j, 4 - i < j → j ≤ 4 → C (mkS (ks.take j)) = none) (e : C (mkS (ks.take (4 - i))) = some n) : firstEv C ks = .act n (ks.take (4 - i)) := by
  unfold firstEv
  match i, hi with
  | 0, _ => exact try_some e
  | 1, _ => rw [try_none (h 4 (by omega) (by omega))]; exact try_some e
  | 2, _ => rw [try_none (h 4 (by omega) (by omega)), try_none (h 3 (by omega) (by omega))]; exact try_some e
  | 3, _ => rw [try_none (h 4 (by omega) (by omega)), try_none (h 3 (by omega) (by omega)), try_none (h 2 (by omega) (by omega))]; exact try_some e
theorem first_none {C : Str → Option Str} {ks : List Nat} (h : ∀ j, 0 < j → j ≤ 4 → C (mkS (ks.take j)) = none) : firstEv C ks = .text (ks.headD 0) := by
  unfold firstEv
  rw [try_none (h 4 (by omega) (by omega)), try_none (h 3 (by omega) (by omega)), try_none (h 2 (by omega) (by omega)), try_none (h 1 (by omega) (by omega))]
/-- either kind -/
theorem first_kind (C : Str → Option Str) (ks : List Nat) : (∃ c, firstEv C ks = .text c ∧ c = ks.headD 0) ∨ ∃ n m, firstEv C ks = .act n (ks.take m) ∧ 1 ≤ m ∧ m ≤ 4 ∧ C (mkS (ks.take m)) = some n := by
  unfold firstEv
  cases e4 : C (mkS (ks.take 4)) with
  | some n => exact Or.inr ⟨n, 4, try_some e4, by omega, by omega, e4⟩
  | none =>
    rw [try_none e4]
    cases e3 : C (mkS (ks.take 3)) with
    | some n => exact Or.inr ⟨n, 3, try_some e3, by omega, by omega, e3⟩
    | none =>
      rw [try_none e3]
      cases e2 : C (mkS (ks.take 2)) with
      | some n => exact Or.inr ⟨n, 2, try_some e2, by omega, by omega, e2⟩
      | none =>
        rw [try_none e2]
        cases e1 : C (mkS (ks.take 1)) with
        | some n => exact Or.inr ⟨n, 1, try_some e1, by omega, by omega, e1⟩
        | none =>
          rw [try_none e1]
          exact Or.inl ⟨_, rfl, rfl⟩
theorem first_len {C : Str → Option Str} {ks : List Nat} (h : ks ≠ []) : 1 ≤ (firstEv C ks).len ∧ (firstEv C ks).len ≤ 4 := by
  have h0 : 0 < ks.length := List.length_pos_iff.mpr h
  rcases first_kind C ks with ⟨c, e, _⟩ | ⟨n, m, e, h1, h2, _⟩ <;> rw [e]
  · exact ⟨Nat.le_refl _, show 1 ≤ 4 by decide⟩
  · show 1 ≤ (ks.take m).length ∧ (ks.take m).length ≤ 4
    rw [List.length_take]
    omega
theorem cut_take (ks : List Nat) (m : Nat) : cutS (mkS ks) none (some ((m : Nat) : Int)) = mkS (ks.take m) := by
  unfold cutS
  rw [HT.sIx_none, HT.sIx_nat, mkS_len]
  show (⟨((ks.toArray.toList.drop 0).take (min m ks.length - 0)).toArray⟩ : Str) = ⟨(ks.take m).toArray⟩
  congr 2
  rw [List.drop_zero, Nat.sub_zero]
  by_cases h : m ≤ ks.length
  · rw [Nat.min_eq_left h]
  · rw [Nat.min_eq_right (by omega), List.take_of_length_le (Nat.le_refl _), List.take_of_length_le (by omega)]
theorem cut_drop (ks : List Nat) (m : Nat) : cutS (mkS ks) (some ((m : Nat) : Int)) none = mkS (ks.drop m) := by
  unfold cutS
  rw [HT.sIx_none, HT.sIx_nat, mkS_len]
  show (⟨((ks.toArray.toList.drop (min m ks.length)).take (ks.length - min m ks.length)).toArray⟩ : Str) = ⟨(ks.drop m).toArray⟩
  congr 1
  by_cases h : m ≤ ks.length
  · rw [Nat.min_eq_left h, List.take_of_length_le (by rw [List.length_drop]; exact Nat.le_refl _)]
  · rw [Nat.min_eq_right (by omega), List.drop_of_length_le (Nat.le_refl _), List.drop_of_length_le (show ks.length ≤ m by omega), List.take_nil]
theorem pt_no {X : Cx} {e : Expr} : PT X e (fun _ _ _ => False) := ⟨fun _ _ _ _ _ _ h => h.elim⟩
section
variable {P : Program} {w : World} {K : PySem.W.Frag} {mg : Str → Option Value} {base : Heap} {T : List Addr}
def spFirst : Sp := fun vs H Q _ => ∃ (d : Addr) (tbl : List (Key × V)) (C : Str → Option Str) (ks : List Nat), vs = [.ref d, .str (mkS ks)] ∧ H d = some (.dK tbl) ∧ (∀ x, valV tbl (Sum.inr x : Key) = (C x).map V.str) ∧ ks ≠ [] ∧ ks.length ≤ 400 ∧ ∀ H' p, Ge H H' → H' p = some (.tup (firstEv C ks).vs) → Q (.ref p) H'
abbrev nFirst : List Str := ["table", "rest", "many", "keys"]
theorem scFirst : FnScope nFirst ["table", "rest"] (defScope s_first_event) := ⟨rfl, rfl, rfl, by decide +kernel, rfl, by decide +kernel, by decide +kernel⟩
theorem ok_first_event {f c : Addr} {fd : FuncData} (F : FunC K "first_event" s_first_event f fd c) (B : Bn mg) {tk : Tok} (hc : mg "MOST_KEYS" = some (.int 4 tk)) : FnOk P w K mg base CX0 1 f fd ["table", "rest"] spFirst := by
  refine F.ok scFirst (fun vs H Q E ⟨_, _, _, _, h, _⟩ => by rw [h]; rfl) (fun A outer s H vs Q E hr h => ?_)
  obtain ⟨d, tbl, C, ks, rfl, hd, hC, hk, h400, q⟩ := h
  have hu := hu_of hr
  refine ⟨_, pss_cons (ps_for PassesOwn.never rfl (pi_range3 rfl B.range (pa_cons (pe_glob (v := .int 4) rfl hc ⟨_, rfl⟩) (pa_cons pe_int (pa_cons (pe_un un_neg pe_int) pa_nil)))) (pg_name (i := 2) scFirst.nd rfl (Or.inl rfl))
      (pss_cons (ps_asg (pe_slice sl_str (pv 1) po_none (po_some (pv 2))) (pg_name (i := 3) scFirst.nd rfl (Or.inl rfl)))
      (pss_one (ps_if (pt_cmp (pc_din hu (pv 3) (pv 0))) (pss_one (ps_ret (pe_tup (pa_cons pe_str (pa_cons (pe_dget hu (pv 0) (pv 3) (fun _ _ => rfl)) (pa_cons (pv 3) pa_nil)))))) pss_nil))))
    (pss_one (ps_ret (pe_tup (pa_cons pe_str (pa_cons (pe_ix ix_str (pv 1) pe_int (fun _ _ => rfl)) pa_nil))))), ?_⟩
  have hsz : (mkS ks).length ≤ sizeLine := by rw [mkS_len]; exact Nat.le_trans h400 (by decide)
  refine ⟨1, rfl, _, _, _, _, rfl, RgC.neg (by decide) (by decide) (by decide) (by decide), for_rangeC (lo := 4) (c := -1) (n := 4) (fun i σ H' => i ≤ 4 ∧ H' = H ∧ (∀ j, 4 - i < j → j ≤ 4 → C (mkS (ks.take j)) = none) ∧ ∃ x2 x3, σ = [some (.ref d), some (.str (mkS ks)), x2, x3])
    ⟨Nat.zero_le _, rfl, fun j h1 h2 => by omega, _, _, rfl⟩ ?_ ?_⟩
  · rintro i σ H1 hi ⟨_, e1, hj, x2, x3, rfl⟩
    subst e1
    have ei : (4 : Int) + (i : Nat) * -1 = ((4 - i : Nat) : Int) := by omega
    rw [ei]
    refine ⟨_, rfl, _, rfl, _, rfl, _, rfl, hsz, ?_⟩
    rw [cut_take]
    refine ⟨_, rfl, _, rfl, d, _, rfl, DGet.k (k := Sum.inr (mkS (ks.take (4 - i)))) hd, _, rfl, ?_⟩
    cases e : C (mkS (ks.take (4 - i))) with
    | none =>
      rw [hC, e]
      refine iteF ⟨hi, rfl, fun j h1 h2 => ?_, _, _, rfl⟩
      by_cases hji : j = 4 - i
      · rw [hji]; exact e
      · exact hj j (by omega) h2
    | some n =>
      have hg : DGet H1 d (kV (Sum.inr (mkS (ks.take (4 - i))))) (some (.str n)) := by
        have z := DGet.k (k := Sum.inr (mkS (ks.take (4 - i)))) hd
        rw [hC, e] at z
        exact z
      rw [hC, e]
      refine iteT ⟨_, rfl, _, rfl, d, .str n, rfl, hg, _, rfl, (by decide : 3 ≤ sizeLine), fun p hp => q _ p (Ge.new hp) ?_⟩
      rw [first_at hi hj e]
      exact upd_same
  · rintro σ H1 ⟨_, e1, hj, x2, x3, rfl⟩
    subst e1
    have hc0 : ∃ c r, ks = c :: r := by
      cases ks with
      | nil => exact absurd rfl hk
      | cons c r => exact ⟨c, r, rfl⟩
    obtain ⟨c, r, rfl⟩ := hc0
    refine ⟨_, rfl, mkS (c :: r), 0, c, rfl, rfl, hsz, atI_nat (j := 0) rfl, (by decide : 2 ≤ sizeLine), fun p hp => q _ p (Ge.new hp) ?_⟩
    rw [first_none fun j h1 h2 => hj j (by omega) h2]
    exact upd_same
end
end Pr
set_option maxRecDepth 100000
set_option maxHeartbeats 2000000
/-! settle -/
namespace Pr
open PySem PySem.Spec PyProof.Rows L2 GxR Gx Rp Dl Pd Tx Zq
def nextB (fl : List Str) (eks : Str → List (Key × V)) : Ev → List Bool → List Bool
  | .text _, bs => bs
  | .act n _, bs => bsAfter fl bs (eks n)
def burstR (fl : List Str) (bss : List (List BI)) (eks : Str → List (Key × V)) : Nat → List Nat → List Bool → List Ev × List Bool
  | 0, _, bs => ([], bs)
  | n + 1, ks, bs => if ks = [] then ([], bs) else
      ((firstEv (cmdOf (factsK fl bs) bss) ks) :: (burstR fl bss eks n (ks.drop (firstEv (cmdOf (factsK fl bs) bss) ks).len) (nextB fl eks (firstEv (cmdOf (factsK fl bs) bss) ks) bs)).1,
        (burstR fl bss eks n (ks.drop (firstEv (cmdOf (factsK fl bs) bss) ks).len) (nextB fl eks (firstEv (cmdOf (factsK fl bs) bss) ks) bs)).2)
theorem burst_nil {fl : List Str} {bss : List (List BI)} {eks : Str → List (Key × V)} {n : Nat} {bs : List Bool} : burstR fl bss eks n [] bs = ([], bs) := by
  cases n <;> rfl
theorem burst_step {fl : List Str} {bss : List (List BI)} {eks : Str → List (Key × V)} {n : Nat} {ks : List Nat} {bs : List Bool} (h : ks ≠ []) : burstR fl bss eks (n + 1) ks bs =
    ((firstEv (cmdOf (factsK fl bs) bss) ks) :: (burstR fl bss eks n (ks.drop (firstEv (cmdOf (factsK fl bs) bss) ks).len) (nextB fl eks (firstEv (cmdOf (factsK fl bs) bss) ks) bs)).1,
        (burstR fl bss eks n (ks.drop (firstEv (cmdOf (factsK fl bs) bss) ks).len) (nextB fl eks (firstEv (cmdOf (factsK fl bs) bss) ks) bs)).2) := if_neg h
theorem nextB_len {fl : List Str} {eks : Str → List (Key × V)} {e : Ev} {bs : List Bool} (h : bs.length = fl.length) : (nextB fl eks e bs).length = fl.length := by
  cases e with
  | text c => exact h
  | act n ks =>
    show (bsAfter fl bs (eks n)).length = fl.length
    unfold bsAfter
    rw [List.length_map]
theorem burstR_len {fl : List Str} {bss : List (List BI)} {eks : Str → List (Key × V)} : ∀ {n : Nat} {ks : List Nat} {bs : List Bool}, bs.length = fl.length → (burstR fl bss eks n ks bs).2.length = fl.length ∧ (burstR fl bss eks n ks bs).1.length ≤ ks.length
  | 0, ks, bs, h => ⟨h, Nat.zero_le _⟩
  | n + 1, ks, bs, h => by
    by_cases hk : ks = []
    · subst hk
      rw [burst_nil]
      exact ⟨h, Nat.le_refl _⟩
    · rw [burst_step hk]
      obtain ⟨l1, l2⟩ := first_len (C := cmdOf (factsK fl bs) bss) hk
      have h0 : 0 < ks.length := List.length_pos_iff.mpr hk
      obtain ⟨q1, q2⟩ := burstR_len (bss := bss) (eks := eks) (n := n) (ks := ks.drop (firstEv (cmdOf (factsK fl bs) bss) ks).len) (bs := nextB fl eks (firstEv (cmdOf (factsK fl bs) bss) ks) bs) (nextB_len h)
      refine ⟨q1, ?_⟩
      rw [List.length_drop] at q2
      show _ + 1 ≤ ks.length
      omega
/-- what the commands of bindings are -/
def CmOk (bss : List (List BI)) (cks : List (Key × V)) : Prop := ∀ l ∈ bss, ∀ bi ∈ l, bi.cm = .non ∨ ∃ n v, bi.cm = .str n ∧ (Sum.inr n, v) ∈ cks
theorem firstC_mem {F : List (Key × V)} {x : Str} : ∀ {bs : List BI} {k j : Nat} {c : V}, firstC F x bs k = some (j, c) → ∃ bi ∈ bs, c = bi.cm
  | [], _, _, _, h => by cases h
  | b :: r, k, j, c, h => by
    have h : (if hit F x b then some (k, b.cm) else firstC F x r (k + 1)) = some (j, c) := h
    cases e : hit F x b with
    | true =>
      rw [e, if_pos rfl] at h
      cases h
      exact ⟨b, List.mem_cons_self, rfl⟩
    | false =>
      rw [e, if_neg Bool.false_ne_true] at h
      obtain ⟨bi, h1, h2⟩ := firstC_mem h
      exact ⟨bi, List.mem_cons_of_mem _ h1, h2⟩
theorem winC_mem {F : List (Key × V)} {x : Str} : ∀ {bss : List (List BI)} {k i j : Nat} {c : V}, winC F x bss k = some (i, j, c) → ∃ l ∈ bss, ∃ bi ∈ l, c = bi.cm
  | [], _, _, _, _, h => by cases h
  | l :: r, k, i, j, c, h => by
    have h : (match firstC F x l 0 with | some (j, c) => some (k, j, c) | none => winC F x r (k + 1)) = some (i, j, c) := h
    cases e : firstC F x l 0 with
    | some q =>
      rw [e] at h
      obtain ⟨j', c'⟩ := q
      cases h
      obtain ⟨bi, h1, h2⟩ := firstC_mem e
      exact ⟨l, List.mem_cons_self, bi, h1, h2⟩
    | none =>
      rw [e] at h
      obtain ⟨l', h1, h2⟩ := winC_mem h
      exact ⟨l', List.mem_cons_of_mem _ h1, h2⟩
theorem cmd_in {F : List (Key × V)} {bss : List (List BI)} {cks : List (Key × V)} (ok : CmOk bss cks) {x n : Str} (h : cmdOf F bss x = some n) : ∃ v, (Sum.inr n, v) ∈ cks := by
  unfold cmdOf at h
  cases e : winC F x bss 0 with
  | none => rw [e] at h; cases h
  | some q =>
    obtain ⟨i, j, c⟩ := q
    rw [e] at h
    obtain ⟨l, hl, bi, hb, rfl⟩ := winC_mem e
    rcases ok l hl bi hb with z | ⟨n', v, z, hv⟩
    · rw [z] at h; cases h
    · rw [z] at h
      cases h
      exact ⟨v, hv⟩
theorem valV_filter {kvs : List (Key × V)} {p : Key × V → Bool} {k : Key} (nd : (kvs.map (·.1)).Nodup) : valV (kvs.filter p) k = match valV kvs k with | some v => if p (k, v) = true then some v else none | none => none := by
  induction kvs with
  | nil => rfl
  | cons q r ih =>
    obtain ⟨h1, h2⟩ : q.1 ∉ r.map (·.1) ∧ (r.map (·.1)).Nodup := List.nodup_cons.mp nd
    have ih := ih h2
    rw [List.filter_cons]
    by_cases e : q.1 = k
    · have hv : valV r k = none := by
        cases z : valV r k with
        | none => rfl
        | some v => exact absurd (valV_in z) (by rw [← e]; exact h1)
      obtain ⟨a, b⟩ := q
      cases e
      rw [valV_pos (p := (a, b)) rfl]
      cases z : p (a, b) with
      | true =>
        rw [if_pos rfl, valV_pos (p := (a, b)) rfl]
        show some b = if p (a, b) = true then some b else none
        rw [z, if_pos rfl]
      | false =>
        rw [if_neg Bool.false_ne_true, ih, hv]
        show none = if p (a, b) = true then some b else none
        rw [z, if_neg Bool.false_ne_true]
    · rw [valV_neg e]
      cases z : p q with
      | true => rw [if_pos rfl, valV_neg e, ih]
      | false => rw [if_neg Bool.false_ne_true, ih]
theorem bound_cmd {F : List (Key × V)} {bss : List (List BI)} {cks : List (Key × V)} (ok : CmOk bss cks) (x : Str) : valV (boundK F bss) (Sum.inr x : Key) = (cmdOf F bss x).map V.str := by
  have nd : ((winAll F bss.flatten).map (·.1)).Nodup := fold_nd _ _ List.nodup_nil
  unfold boundK cmdOf
  rw [valV_filter nd, winAll_val]
  cases e : winC F x bss 0 with
  | none => rfl
  | some q =>
    obtain ⟨i, j, c⟩ := q
    obtain ⟨l, hl, bi, hb, rfl⟩ := winC_mem e
    rcases ok l hl bi hb with z | ⟨n', v, z, hv⟩
    · show (if (!decide (bi.cm = V.non)) = true then some bi.cm else none) = _
      rw [z]
      rfl
    · show (if (!decide (bi.cm = V.non)) = true then some bi.cm else none) = _
      rw [z]
      rfl
section
variable {P : Program} {w : World} {K : PySem.W.Frag} {mg : Str → Option Value} {base : Heap} {T : List Addr}
theorem KS.st {H H' : Hp} {m t o cd ly s s' : Addr} {fl : List Str} {bss : List (List BI)} {bs bs' : List Bool} {wt : Int} (k : KS K T H (.ref m) (.ref s) m t o cd ly s fl bss bs wt) (g : Ge H H') (hs : Rd H' s' (.tup (bs'.map V.bl))) (hl : bs'.length = fl.length) : KS K T H' (.ref m) (.ref s') m t o cd ly s' fl bss bs' wt :=
  let k' := k.ge g
  ⟨⟨rfl, rfl, k'.hm, k'.ht, hs, k'.nd, k'.l3, hl, k'.da, k'.tb⟩, k'.hk⟩
def spSettle (K : PySem.W.Frag) (T : List Addr) : Sp := fun vs H Q _ => ∃ m t o cd ly s fl bss bs wt cks eks ks, vs = [.ref m, .ref s, .str (mkS ks), .bl true] ∧ KS K T H (.ref m) (.ref s) m t o cd ly s fl bss bs wt ∧ bss.flatten.length ≤ 100 ∧ CAt H fl cd cks eks ∧ CmOk bss cks ∧ ks.length ≤ 400 ∧
  ∀ (H' : Hp) (p l s' : Addr) (us : List V), Ge H H' → Nw H l → H' p = some (.tup [.ref l, .ref s', .str (mkS [])]) → H' l = some (.lst us) → Paired (EvAt H') us (burstR fl bss eks ks.length ks bs).1 → Rd H' s' (.tup ((burstR fl bss eks ks.length ks bs).2.map V.bl)) → Q (.ref p) H'
abbrev nSettle : List Str := ["keymap", "state", "keys", "silence", "events", "table", "event"]
end
end Pr
set_option maxRecDepth 100000
set_option maxHeartbeats 2000000
/-! winners as data; keys that may be asked for -/
namespace Pr
open PySem PySem.Spec PyProof.Rows L2 GxR Gx Rp Dl Pd Tx Zq
def KeyOk (x : Str) : Prop := isKeys (.str x) = true ∧ small (.str x) = true
theorem key_ok {x : Str} (h1 : 1 ≤ x.length) (h4 : x.length ≤ 4) (hl : letters x = true) : KeyOk x := by
  refine ⟨?_, decide_eq_true (by omega)⟩
  show (decide (1 ≤ (x.length : Int)) && decide ((x.length : Int) ≤ 4) && letters x) = true
  rw [hl, decide_eq_true (by omega), decide_eq_true (by omega)]
  rfl
theorem key_four : ∀ x ∈ (["a", "zz", "ab", "qqqq"] : List Str), KeyOk x := fun x h => by
  have z : ∀ x ∈ (["a", "zz", "ab", "qqqq"] : List Str), 1 ≤ x.length ∧ x.length ≤ 4 ∧ letters x = true := by decide +kernel
  obtain ⟨a, b, c⟩ := z x h
  exact key_ok a b c
theorem firstIn_lt {F : List (Key × V)} {x : Str} : ∀ {bs : List BI} {k j : Nat}, firstIn F x bs k = some j → j < k + bs.length
  | [], _, _, h => by cases h
  | b :: r, k, j, h => by
    have h : (if hit F x b then some k else firstIn F x r (k + 1)) = some j := h
    cases e : hit F x b with
    | true =>
      rw [e, if_pos rfl] at h
      cases h
      show k < k + (r.length + 1)
      omega
    | false =>
      rw [e, if_neg Bool.false_ne_true] at h
      have := firstIn_lt h
      show j < k + (r.length + 1)
      omega
theorem winnerB_lt {F : List (Key × V)} {x : Str} {n : Nat} : ∀ {bss : List (List BI)} {k i j : Nat}, (∀ l ∈ bss, l.length ≤ n) → winnerB F x bss k = some (i, j) → i < k + bss.length ∧ j < n
  | [], _, _, _, _, h => by cases h
  | l :: r, k, i, j, hn, h => by
    have h : (match firstIn F x l 0 with | some j => some (k, j) | none => winnerB F x r (k + 1)) = some (i, j) := h
    cases e : firstIn F x l 0 with
    | some j' =>
      rw [e] at h
      cases h
      have z := firstIn_lt e
      have := hn l List.mem_cons_self
      exact ⟨by show k < k + (r.length + 1); omega, by omega⟩
    | none =>
      rw [e] at h
      obtain ⟨a, b⟩ := winnerB_lt (fun l hl => hn l (List.mem_cons_of_mem _ hl)) h
      exact ⟨by show i < k + (r.length + 1); omega, b⟩
theorem flat_le {bss : List (List BI)} {n : Nat} (h : bss.flatten.length ≤ n) : ∀ l ∈ bss, l.length ≤ n := fun l hl => by
  induction bss with
  | nil => cases hl
  | cons a r ih =>
    rw [List.flatten_cons, List.length_append] at h
    rcases List.mem_cons.mp hl with rfl | hl
    · omega
    · exact ih (by omega) hl
def winD : Option (Nat × Nat) → PyData
  | none => .none
  | some (i, j) => .tuple [.int (i : Nat), .int (j : Nat)]
theorem winD_da {K : PySem.W.Frag} {H : Hp} {r : V} {w : Option (Nat × Nat)} (h : WinR H r w) : Da K H r (winD w) := by
  cases w with
  | none =>
    have h : r = .non := h
    rw [h]
    exact .non
  | some q =>
    obtain ⟨p, rfl, hp⟩ := h
    exact .tup (Or.inl hp) (.cons (.int _) (.cons (.int _) .nil))
theorem winD_ok {w : Option (Nat × Nat)} (h : ∀ i j, w = some (i, j) → i ≤ 1000 ∧ j ≤ 1000) : (winD w).showable = true ∧ noL (winD w) = true ∧ (winD w).depth ≤ 60 ∧ (winD w).shown.length ≤ sizeLine := by
  cases w with
  | none => exact ⟨rfl, rfl, by decide, by decide⟩
  | some q =>
    obtain ⟨i, j⟩ := q
    obtain ⟨a, b⟩ := h i j rfl
    have ok : okD (winD (some (i, j))) = true := by
      show (decide (2 ≤ 100) && (okD (.int (i : Nat)) && (okD (.int (j : Nat)) && true))) = true
      have z : ∀ n : Nat, n ≤ 1000 → okD (.int (n : Nat)) = true := fun n hn => by
        show (decide (0 ≤ (n : Int)) && decide ((n : Int) ≤ 1000)) = true
        rw [decide_eq_true (by omega), decide_eq_true (by omega)]
        rfl
      rw [z i a, z j b]
      rfl
    obtain ⟨f1, f2, _⟩ := shown_le _ ok
    refine ⟨f2, rfl, by simp [winD, PyData.depth, PyData.depthAll], Nat.le_trans f1 ?_⟩
    simp only [winD, wgt, wgtAll]
    decide
end Pr
set_option maxRecDepth 100000
set_option maxHeartbeats 2000000
/-! small facts for law k02 -/
namespace Pr
open PySem PySem.Spec PyProof.Rows L2 GxR Gx Rp Dl Pd Tx Zq
theorem Nw.back {H H1 : Hp} {a : Addr} (g : Ge H H1) (n : Nw H1 a) : Nw H a := by
  refine ⟨fun ob e => ?_, fun tb => n.2 (g.2 a tb)⟩
  cases ob with
  | tbl ps => exact ⟨ps, rfl⟩
  | _ =>
    obtain ⟨ps, z⟩ := n.1 _ (g.1 a _ e (fun ps z => by cases z))
    cases z
theorem ge_updN {d : Addr} {H H' : Hp} {o : HO} (g : Ge H H') (hd : Nw H d) : Ge H (upd H' d o) :=
  ⟨fun b u hb n => by
      have : b ≠ d := fun z => by
        subst z
        obtain ⟨ps, q⟩ := hd.1 u hb
        exact n ps q
      rw [upd_ne this]; exact g.1 b u hb n, fun b tb => by
    obtain ⟨ps, e, w⟩ := g.2 b tb
    have : b ≠ d := fun z => by
      subst z
      exact hd.2 tb
    exact ⟨ps, by rw [upd_ne this]; exact e, w⟩⟩
theorem winAll_mem (F : List (Key × V)) : ∀ (bs : List BI) (acc : List (Key × V)) (q : Key × V), q ∈ bs.foldl (stepW F) acc → q ∈ acc ∨ ∃ b ∈ bs, q.2 = b.cm
  | [], acc, q, h => Or.inl h
  | b :: r, acc, q, h => by
    rcases winAll_mem F r _ q h with h | ⟨b', hb, e⟩
    · unfold stepW at h
      split at h
      · rcases List.mem_append.mp h with z | z
        · exact Or.inl z
        · exact Or.inr ⟨b, List.mem_cons_self, by rw [List.mem_singleton.mp z]⟩
      · exact Or.inl h
    · exact Or.inr ⟨b', List.mem_cons_of_mem _ hb, e⟩
theorem bound_str {F : List (Key × V)} {bss : List (List BI)} {fl ns : List Str} (ok : ∀ l ∈ bss, ∀ bi ∈ l, BIok fl ns bi) : ∀ q ∈ boundK F bss, ∃ n ∈ ns, q.2 = .str n := fun q hq => by
  obtain ⟨h1, h2⟩ := List.mem_filter.mp hq
  rcases winAll_mem F _ _ q h1 with z | ⟨b, hb, e⟩
  · cases z
  · obtain ⟨l, hl, hb⟩ := List.mem_flatten.mp hb
    rcases (ok l hl b hb).2.1 with z | ⟨n, hn, z⟩
    · rw [e, z] at h2
      cases h2
    · exact ⟨n, hn, by rw [e, z]⟩
theorem daKv_strs {K : PySem.W.Frag} {H : Hp} : ∀ {kvs : List (Key × V)}, (∀ q ∈ kvs, ∃ n, q.2 = V.str n) → ∃ ds, DaKv K H kvs ds
  | [], _ => ⟨[], .nil⟩
  | (k, v) :: r, h => by
    obtain ⟨n, e⟩ := h _ List.mem_cons_self
    obtain ⟨ds, h2⟩ := daKv_strs (kvs := r) fun q hq => h q (List.mem_cons_of_mem _ hq)
    cases e
    exact ⟨_, .cons (.str n) h2⟩
theorem bound_len {F : List (Key × V)} {bss : List (List BI)} : (boundK F bss).length ≤ bss.flatten.length := by
  refine Nat.le_trans (List.length_filter_le _ _) ?_
  have := fold_len (F := F) bss.flatten []
  have h3 : ([] : List (Key × V)).length = 0 := rfl
  show ((bss.flatten.foldl (stepW F) [])).length ≤ _
  omega
theorem bound_nd {F : List (Key × V)} {bss : List (List BI)} : ((boundK F bss).map (·.1)).Nodup := filter_nd (fold_nd _ _ List.nodup_nil)
/-- a key's entry in the table of winners -/
theorem WT.at {H : Hp} {F found : List (Key × V)} {bss : List (List BI)} (w : WT H found (fun x => winC F x bss 0)) {key : Key} {val : V} (hm : (key, val) ∈ found) : ∃ x i j c p, key = Sum.inr x ∧ val = .ref p ∧ winC F x bss 0 = some (i, j, c) ∧ H p = some (.tup [.int (i : Nat), .int (j : Nat), c]) ∧ cmK F bss key = c := by
  obtain ⟨x, hx⟩ := w.2.1 _ hm
  cases hx
  have hv := valV_nodup w.1 hm
  rcases w.2.2 x with ⟨_, n⟩ | ⟨i, j, c, p, h1, h2, h3⟩
  · rw [n] at hv
    cases hv
  · have h1 : winC F x bss 0 = some (i, j, c) := h1
    rw [h2] at hv
    refine ⟨x, i, j, c, p, rfl, (Option.some.inj hv).symm, h1, h3, ?_⟩
    show (Option.map (fun q : Nat × Nat × V => q.2.2) (winC F x bss 0)).getD .non = c
    rw [h1]
    rfl
theorem due_snoc {F found : List (Key × V)} {bss : List (List BI)} {q : Key × V} : dueK F bss (found ++ [q]) = dueK F bss found ++ (if (!decide (cmK F bss q.1 = V.non)) = true then [(q.1, cmK F bss q.1)] else []) := by
  unfold dueK
  rw [List.map_append, List.filter_append]
  congr 1
  show List.filter _ [(q.1, cmK F bss q.1)] = _
  rw [List.filter_cons]
  cases e : (!decide (cmK F bss q.1 = V.non)) <;> rfl
theorem due_len {F found : List (Key × V)} {bss : List (List BI)} : (dueK F bss found).length ≤ found.length := by
  refine Nat.le_trans (List.length_filter_le _ _) ?_
  rw [List.length_map]
  exact Nat.le_refl _
theorem cut2 {a b c : V} : cutV [a, b, c] none (some 2) = [a, b] := rfl
end Pr
set_option maxRecDepth 100000
set_option maxHeartbeats 2000000
/-! read -/
namespace Pr
open PySem PySem.Spec PyProof.Rows L2 GxR Gx Rp Dl Pd Tx Zq
def readR (fl : List Str) (bss : List (List BI)) (eks : Str → List (Key × V)) : List BU → List Bool → List Ev × List Bool
  | [], bs => ([], bs)
  | u :: r, bs => ((burstR fl bss eks u.1.length u.1 bs).1 ++ (readR fl bss eks r (bsAfter fl (burstR fl bss eks u.1.length u.1 bs).2 (setK u.2))).1, (readR fl bss eks r (bsAfter fl (burstR fl bss eks u.1.length u.1 bs).2 (setK u.2))).2)
theorem bursts_mem {w : Int} {ol : List Str} : ∀ {es : List RE} {ks : List Nat} {last : Int}, (∀ e ∈ es, okE ol e) → ∀ u ∈ burstsM w es ks last, u.1.length ≤ ks.length + es.length ∧ ∀ f b, u.2 = some (f, b) → f ∈ ol
  | [], ks, last, _, u, hu => by
    rw [List.mem_singleton.mp hu]
    exact ⟨Nat.le_refl _, fun f b z => by cases z⟩
  | .set f b t :: r, ks, last, ok, u, hu => by
    rcases List.mem_cons.mp hu with rfl | hu
    · refine ⟨Nat.le_add_right _ _, fun f' b' z => ?_⟩
      cases z
      exact (ok _ List.mem_cons_self).1
    · obtain ⟨h1, h2⟩ := bursts_mem (fun e he => ok e (List.mem_cons_of_mem _ he)) u hu
      refine ⟨?_, h2⟩
      simp only [List.length_nil, List.length_cons] at h1 ⊢
      omega
  | .key c t :: r, ks, last, ok, u, hu => by
    have hu : u ∈ (if ks ≠ [] ∧ w < t - last then (ks, none) :: burstsM w r [c] t else burstsM w r (ks ++ [c]) t) := hu
    have ok' : ∀ e ∈ r, okE ol e := fun e he => ok e (List.mem_cons_of_mem _ he)
    by_cases hc : ks ≠ [] ∧ w < t - last
    · rw [if_pos hc] at hu
      rcases List.mem_cons.mp hu with rfl | hu
      · exact ⟨Nat.le_add_right _ _, fun f' b' z => by cases z⟩
      · obtain ⟨h1, h2⟩ := bursts_mem ok' u hu
        refine ⟨?_, h2⟩
        have := List.length_pos_iff.mpr hc.1
        simp only [List.length_cons, List.length_nil] at h1 ⊢
        omega
    · rw [if_neg hc] at hu
      obtain ⟨h1, h2⟩ := bursts_mem ok' u hu
      refine ⟨?_, h2⟩
      simp only [List.length_append, List.length_cons, List.length_nil] at h1 ⊢
      omega
theorem bursts_ne {w : Int} : ∀ {es : List RE} {ks : List Nat} {last : Int}, burstsM w es ks last ≠ []
  | [], _, _ => fun z => by cases z
  | .set f b t :: r, ks, last => fun z => by cases z
  | .key c t :: r, ks, last => by
    show (if ks ≠ [] ∧ w < t - last then (ks, none) :: burstsM w r [c] t else burstsM w r (ks ++ [c]) t) ≠ []
    split
    · intro z
      cases z
    · exact bursts_ne
theorem paired_app {α β : Type} {F : α → β → Prop} {xs' : List α} {ys' : List β} (h : Paired F xs' ys') : ∀ {xs : List α} {ys : List β}, Paired F xs ys → Paired F (xs ++ xs') (ys ++ ys')
  | _, _, .nil => h
  | _, _, .cons x r => .cons x (paired_app h r)
theorem bursts_len {w : Int} : ∀ {es : List RE} {ks : List Nat} {last : Int}, (burstsM w es ks last).length ≤ es.length + 1
  | [], _, _ => Nat.le_refl _
  | .set f b t :: r, ks, last => by
    have := bursts_len (w := w) (es := r) (ks := []) (last := last)
    show (burstsM w r [] last).length + 1 ≤ (r.length + 1) + 1
    omega
  | .key c t :: r, ks, last => by
    show (if ks ≠ [] ∧ w < t - last then (ks, none) :: burstsM w r [c] t else burstsM w r (ks ++ [c]) t).length ≤ (r.length + 1) + 1
    have h1 := bursts_len (w := w) (es := r) (ks := [c]) (last := t)
    have h2 := bursts_len (w := w) (es := r) (ks := ks ++ [c]) (last := t)
    split
    · rw [List.length_cons]; omega
    · omega
theorem bsAfter_len {fl : List Str} {bs : List Bool} {ek : List (Key × V)} : (bsAfter fl bs ek).length = fl.length := by unfold bsAfter; rw [List.length_map]
theorem set_at {H : Hp} {fl : List Str} {d : Addr} {st : Option (Str × Bool)} (h : H d = some (.dK (setK st))) (hf : ∀ f b, st = some (f, b) → f ∈ fl) : EAt H fl d (setK st) := by
  cases st with
  | none => exact ⟨h, List.nodup_nil, fun q hq => by cases hq⟩
  | some x =>
    obtain ⟨f, b⟩ := x
    refine ⟨h, by simp [setK], fun q hq => ?_⟩
    rw [List.mem_singleton.mp hq]
    exact ⟨f, b, rfl, hf f b rfl⟩
section
variable {P : Program} {w : World} {K : PySem.W.Frag} {mg : Str → Option Value} {base : Heap} {T : List Addr}
def spRead (K : PySem.W.Frag) (T : List Addr) : Sp := fun vs H Q _ => ∃ m t o cd ly s fl bss bs wt cks eks L ol es, vs = [.ref m, .ref s, .ref L] ∧ KS K T H (.ref m) (.ref s) m t o cd ly s fl bss bs wt ∧ bss.flatten.length ≤ 100 ∧ CAt H fl cd cks eks ∧ CmOk bss cks ∧ Rd H o (.tup (ol.map V.str)) ∧ (∀ f ∈ ol, f ∈ fl) ∧ RowAt H L es ∧ RowOk ol es ∧
  ∀ (H' : Hp) (p l s' : Addr) (us : List V), Ge H H' → Nw H l → H' p = some (.tup [.ref l, .ref s']) → H' l = some (.lst us) → Paired (EvAt H') us (readR fl bss eks (burstsM wt es [] 0) bs).1 → Rd H' s' (.tup ((readR fl bss eks (burstsM wt es [] 0) bs).2.map V.bl)) → Q (.ref p) H'
abbrev nRead : List Str := ["keymap", "state", "row", "events", "keys", "settings", "told", "_"]
end
end Pr
set_option maxRecDepth 100000
set_option maxHeartbeats 2000000
/-! repr of data with lists and dicts together -/
namespace Rp
open PySem PySem.Spec PyProof.Rows L2
section
variable {X : Cx} {pins : List (Addr × Obj)} {σ : L2.St} {H : Hp} {s : Shared}
abbrev ShK (X : Cx) (s : Shared) (n : Nat) (u : Value) (t : Str) : Prop := ∃ bs, ReadAtMost s.heap n bs ∧ ReprK X.prog X.w bs s.heap n u t
abbrev ShA (X : Cx) (s : Shared) (n : Nat) (us : List Value) (ts : List Str) : Prop := ∃ bs, ReadAtMost s.heap n bs ∧ ReprAllK X.prog X.w bs s.heap n us ts
theorem none_at {h : Heap} {n : Nat} : ReadAtMost h n [] := fun _ z => nomatch z
theorem shA_nil {n : Nat} : ShA X s n [] [] := ⟨[], none_at, .nil⟩
theorem shA_cons {n m : Nat} {u : Value} {us : List Value} {t : Str} {ts : List Str} (a : ShK X s n u t) (b : ShA X s m us ts) : ShA X s (max n m) (u :: us) (t :: ts) := by
  obtain ⟨bs, b1, b2⟩ := a
  obtain ⟨cs, c1, c2⟩ := b
  refine ⟨bs ++ cs, (b1.mono (Nat.le_max_left n m)).append (c1.mono (Nat.le_max_right n m)), .cons ?_ ?_⟩
  · exact (b2.more fun x hx => List.mem_append_left cs hx).level_le (Nat.le_max_left n m)
  · exact c2.more_le (fun x hx => List.mem_append_right bs hx) (Nat.le_max_right n m)
theorem keys_sh : ∀ {vs : List Value} {ds : List PyData}, ReadsAll s.heap vs ds [] → PyData.showableAll ds = true → (∀ t ∈ PyData.shownAll ds, t.length ≤ sizeLine) → ShA X s (PyData.depthAll ds) vs (PyData.shownAll ds) := fun r h1 h2 =>
  ReprAllK.of_readsAll r h1 (fun _ z => nomatch z) h2
mutual
theorem Da.shows (I : Inv X pins σ H s) : ∀ (d : PyData) (v : V) (u : Value), Da X.K H v d → RelV v u → d.showable = true → d.shown.length ≤ sizeLine → ShK X s d.depth u d.shown
  | .none, _, _, h, r, _, _ => by
    cases h
    cases r
    simp only [PyData.shown]
    exact ⟨[], none_at, .of_is ReprIs.none _ _ _⟩
  | .bool b, _, _, h, r, _, _ => by
    cases h
    cases r
    simp only [PyData.shown]
    exact ⟨[], none_at, .of_is (ReprIs.bool b) _ _ _⟩
  | .int i, _, _, h, r, hs, _ => by
    cases h
    obtain ⟨t, rfl⟩ := r
    simp only [PyData.shown]
    exact ⟨[], none_at, .of_is (ReprIs.int t (by simpa only [PyData.showable, decide_eq_true_eq] using hs)) _ _ _⟩
  | .str x, _, _, h, r, _, hz => by
    cases h
    obtain ⟨t, rfl⟩ := r
    simp only [PyData.shown] at hz ⊢
    exact ⟨[], none_at, .of_is (ReprIs.str x t hz) _ _ _⟩
  | .list ds, _, _, h, r, hs, hz => by
    obtain ⟨as, q, _⟩ := Da.reads I _ _ _ h r
    cases h with
    | @lst a xs _ h1 ha =>
      cases r
      obtain ⟨its, rv, ⟨o, n, ho, hc, _, hd⟩, _⟩ := I.list (Or.inl h1)
      have hs' : PyData.showableAll ds = true := by simpa only [PyData.showable] using hs
      simp only [PyData.shown] at hz
      obtain ⟨bs, hb, hk⟩ := DaAll.shows I ds _ its ha rv hs' (fun t ht => Nat.le_trans (listText_mem_le ht) hz)
      have lt : PyData.depthAll ds < (PyData.list ds).depth := by simp only [PyData.depth]; omega
      have na : a ∉ bs := not_mem_of_deeper q lt hb
      refine ⟨a :: bs, ReadAtMost.cons q (Nat.le_of_lt lt) hb, ?_⟩
      simp only [PyData.depth, PyData.shown]
      cases its with
      | nil =>
        cases hk' : PyData.shownAll ds with
        | nil =>
          rw [listText_nil]
          exact ReprK.listEmpty ho hc hd
        | cons t ts =>
          rw [hk'] at hk
          cases hk
      | cons x l => exact ReprK.list ho hc hd na (by simpa using hk.length_eq) (fun i y e => hk.item i y (by simpa using e))
  | .tuple ds, _, _, h, r, hs, hz => by
    obtain ⟨as, q, _⟩ := Da.reads I _ _ _ h r
    cases h with
    | @tup a xs _ h1 ha =>
      cases r
      obtain ⟨its, rv, ⟨o, ho, hc, n, hd⟩, _⟩ := I.tuple (Or.inl h1)
      have hs' : PyData.showableAll ds = true := by simpa only [PyData.showable] using hs
      simp only [PyData.shown] at hz
      obtain ⟨bs, hb, hk⟩ := DaAll.shows I ds _ its ha rv hs' (fun t ht => Nat.le_trans (tupleText_mem_le ht) hz)
      have lt : PyData.depthAll ds < (PyData.tuple ds).depth := by simp only [PyData.depth]; omega
      have na : a ∉ bs := not_mem_of_deeper q lt hb
      refine ⟨a :: bs, ReadAtMost.cons q (Nat.le_of_lt lt) hb, ?_⟩
      simp only [PyData.depth, PyData.shown]
      exact ReprK.tuple ho hc hd na hk
  | .dict ds, _, _, h, r, hs, hz => by
    obtain ⟨as, q, _⟩ := Da.reads I _ _ _ h r
    cases h with
    | @dct a kvs _ h1 hn ha =>
      cases r
      obtain ⟨_, hsys, us, rv, o, es, ep, ho, hx, hd, _, hp, _⟩ := (show ObjOk X.prog X.w H s.heap a (.dK kvs) from rd_of I.hok h1)
      have kr := keys_read (h := s.heap) rv hp
      rw [← daKv_fst ha] at kr
      have hs' : PyData.showableKv ds = true := by simpa only [PyData.showable] using hs
      obtain ⟨s1, s2⟩ := PyData.showableKv_split ds hs'
      simp only [PyData.shown] at hz
      obtain ⟨b1, hb1, k1⟩ := keys_sh (X := X) kr s1 (fun t ht => by
        obtain ⟨p, hp, l⟩ := PyData.shownKv_key_le ds t ht
        exact Nat.le_trans l (Nat.le_trans (dictText_mem_le hp) hz))
      obtain ⟨b2, hb2, k2⟩ := DaKv.shows I ds kvs _ ha (vals_read rv hp) s2 (fun t ht => by
        obtain ⟨p, hp, l⟩ := PyData.shownKv_val_le ds t ht
        exact Nat.le_trans l (Nat.le_trans (dictText_mem_le hp) hz))
      have hb : ReadAtMost s.heap (PyData.depthKv ds) (b1 ++ b2) := (hb1.mono (PyData.depthAll_keys_le ds)).append (hb2.mono (PyData.depthAll_vals_le ds))
      have lt : PyData.depthKv ds < (PyData.dict ds).depth := by simp only [PyData.depth]; omega
      have na : a ∉ b1 ++ b2 := not_mem_of_deeper q lt hb
      refine ⟨a :: (b1 ++ b2), ReadAtMost.cons q (Nat.le_of_lt lt) hb, ?_⟩
      simp only [PyData.depth, PyData.shown]
      rw [PyData.shownKv_eq]
      refine ReprK.dict ho hx.1 hd hsys na (ReprEntriesK.of_two es.toList _ _ ?_ ?_)
      · exact k1.more_le (fun x hx => List.mem_append_left b2 hx) (PyData.depthAll_keys_le ds)
      · exact k2.more_le (fun x hx => List.mem_append_right b1 hx) (PyData.depthAll_vals_le ds)
theorem DaAll.shows (I : Inv X pins σ H s) : ∀ (ds : List PyData) (vs : List V) (us : List Value), DaAll X.K H vs ds → Vals vs us → PyData.showableAll ds = true → (∀ t ∈ PyData.shownAll ds, t.length ≤ sizeLine) → ShA X s (PyData.depthAll ds) us (PyData.shownAll ds)
  | [], _, _, h, r, _, _ => by
    cases h
    cases r
    simp only [PyData.shownAll]
    exact shA_nil
  | d :: ds, _, _, h, r, hs, hz => by
    cases h with
    | cons h1 h2 =>
      cases r with
      | cons r1 r2 =>
        have z : d.showable = true ∧ PyData.showableAll ds = true := by simpa only [PyData.showableAll, Bool.and_eq_true] using hs
        simp only [PyData.shownAll, List.mem_cons] at hz
        simp only [PyData.shownAll, PyData.depthAll]
        exact shA_cons (Da.shows I d _ _ h1 r1 z.1 (hz _ (Or.inl rfl))) (DaAll.shows I ds _ _ h2 r2 z.2 fun t ht => hz t (Or.inr ht))
theorem DaKv.shows (I : Inv X pins σ H s) : ∀ (ds : List (PyData × PyData)) (kvs : List (Key × V)) (us : List Value), DaKv X.K H kvs ds → Vals (kvs.map (·.2)) us → PyData.showableAll (ds.map (·.2)) = true → (∀ t ∈ PyData.shownAll (ds.map (·.2)), t.length ≤ sizeLine) → ShA X s (PyData.depthAll (ds.map (·.2))) us (PyData.shownAll (ds.map (·.2)))
  | [], _, _, h, r, _, _ => by
    cases h
    cases r
    simp only [PyData.shownAll, List.map_nil]
    exact shA_nil
  | d :: ds, _, _, h, r, hs, hz => by
    cases h with
    | @cons k0 v0 r0 d0 _ h1 h2 =>
      cases r with
      | cons r1 r2 =>
        have z : d0.showable = true ∧ PyData.showableAll (ds.map (·.2)) = true := by simpa only [PyData.showableAll, List.map_cons, Bool.and_eq_true] using hs
        simp only [PyData.shownAll, List.map_cons, List.mem_cons] at hz
        simp only [PyData.shownAll, List.map_cons, PyData.depthAll]
        exact shA_cons (Da.shows I d0 _ _ h1 r1 z.1 (hz _ (Or.inl rfl))) (DaKv.shows I ds _ _ h2 r2 z.2 fun t ht => hz t (Or.inr ht))
end
end
section
variable {X : Cx}
/-- repr(x), data of any kind -/
def rReprD (K : PySem.W.Frag) : List V → Hp → VK → Prop := fun xs H Q => ∃ x d, xs = [x] ∧ Da K H x d ∧ d.showable = true ∧ d.depth ≤ 60 ∧ d.shown.length ≤ sizeLine ∧ Q (.str d.shown) H
theorem call_reprD (hg : X.A.guards = some []) (hu : X.A.units + 64 < cLine) : CallR X (.builtin "repr") (rReprD X.K) := by
  intro pins s σ H xs us Q I r h
  obtain ⟨x, d, rfl, hd, hs, hdp, hz, q⟩ := h
  have fin : ∀ {h' : Heap} {u tk : Tok}, (∀ b o, s.heap.get? b = some o → h'.get? b = some o) → ∃ z H', Inv X pins σ H' { s with heap := h', toks := tk } ∧ RelV z (.str d.shown u) ∧ Q z H' := fun hk => ⟨.str _, H, I.kept hk, ⟨_, rfl⟩, q⟩
  cases r with
  | cons r rr =>
    cases rr
    cases d with
    | none =>
      cases hd
      cases r
      simp only [PyData.shown] at q
      exact PySem.P.repr_of_none ⟨.str _, H, I.tok _, ⟨_, rfl⟩, q⟩
    | bool b =>
      cases hd
      cases r
      simp only [PyData.shown] at q
      exact PySem.P.repr_of_bool ⟨.str _, H, I.tok _, ⟨_, rfl⟩, q⟩
    | int i =>
      cases hd
      obtain ⟨t, rfl⟩ := r
      simp only [PyData.shown] at q
      exact PySem.P.repr_of_int (by simpa [PyData.showable] using hs) ⟨.str _, H, I.tok _, ⟨_, rfl⟩, q⟩
    | str y =>
      cases hd
      obtain ⟨t, rfl⟩ := r
      simp only [PyData.shown] at q hz
      exact PySem.P.repr_of_str ⟨.str _, H, I.tok _, ⟨_, rfl⟩, q⟩ hz
    | list ds =>
      obtain ⟨as, rd, _⟩ := Da.reads I _ _ _ hd r
      cases hd with
      | @lst a xs _ h1 ha =>
        cases r
        obtain ⟨its, rv, ⟨o, n, ho, hc, _, hdt⟩, _⟩ := I.list (Or.inl h1)
        have hs' : PyData.showableAll ds = true := by simpa only [PyData.showable] using hs
        simp only [PyData.shown] at hz
        obtain ⟨bs, hb, hk⟩ := DaAll.shows I ds _ its ha rv hs' (fun t ht => Nat.le_trans (listText_mem_le ht) hz)
        have lt : PyData.depthAll ds < (PyData.list ds).depth := by simp only [PyData.depth]; omega
        have na : a ∉ bs := not_mem_of_deeper rd lt hb
        simp only [PyData.depth] at hdp
        refine call_repr_slot (by omega) ⟨o, ho, hc⟩ F.slot_list_repr.toG ?_
        cases its with
        | nil =>
          have e : PyData.shownAll ds = [] := by
            cases hk' : PyData.shownAll ds with
            | nil => rfl
            | cons t ts =>
              rw [hk'] at hk
              cases hk
          simp only [PyData.shown, e, listText_nil] at fin
          exact call_list_repr_empty ⟨o, ho, hc⟩ ho hdt ⟨_, _, rfl, fin (fun _ _ z => z)⟩
        | cons x l =>
          simp only [PyData.shown] at fin
          exact call_list_reprK ho hc hdt na (by simpa using hk.length_eq) (fun i y e => hk.item i y (by simpa using e)) hg (fun b _ => Clear.nil b) (by show X.A.units + 1 + _ < cLine; omega) (fun _ _ z => z) (fun h' u tk hk => ⟨_, _, rfl, fin hk⟩) hz
    | tuple ds =>
      obtain ⟨as, rd, _⟩ := Da.reads I _ _ _ hd r
      cases hd with
      | @tup a xs _ h1 ha =>
        cases r
        obtain ⟨its, rv, ⟨o, ho, hc, n, hdt⟩, _⟩ := I.tuple (Or.inl h1)
        have hs' : PyData.showableAll ds = true := by simpa only [PyData.showable] using hs
        simp only [PyData.shown] at hz
        obtain ⟨bs, hb, hk⟩ := DaAll.shows I ds _ its ha rv hs' (fun t ht => Nat.le_trans (tupleText_mem_le ht) hz)
        have lt : PyData.depthAll ds < (PyData.tuple ds).depth := by simp only [PyData.depth]; omega
        have na : a ∉ bs := not_mem_of_deeper rd lt hb
        simp only [PyData.depth] at hdp
        simp only [PyData.shown] at fin
        refine call_repr_slot (by omega) ⟨o, ho, hc⟩ F.slot_tuple_repr ?_
        exact call_tuple_reprK ho hc hdt na hk hg (fun b _ => Clear.nil b) (by show X.A.units + 1 + _ < cLine; omega) (fun _ _ z => z) (fun h' u tk hk => ⟨_, _, rfl, fin hk⟩) hz
    | dict ds =>
      cases hd with
      | dct h1 hn0 h2 =>
        have hd' : Da X.K H _ (.dict ds) := .dct h1 hn0 h2
        obtain ⟨as, rd, _⟩ := Da.reads I _ _ _ hd' r
        cases r
        obtain ⟨bs, hb, hk⟩ := Da.shows I _ _ _ hd' rfl hs hz
        obtain ⟨_, hsys, us, rv, o, es, ep, ho, hx, hdt, _, hp, _⟩ := (show ObjOk X.prog X.w H s.heap _ (.dK _) from rd_of I.hok h1)
        have kr := keys_read (h := s.heap) rv hp
        rw [← daKv_fst h2] at kr
        have hs' : PyData.showableKv ds = true := by simpa only [PyData.showable] using hs
        obtain ⟨s1, s2⟩ := PyData.showableKv_split ds hs'
        simp only [PyData.shown] at hz
        obtain ⟨b1, hb1, k1⟩ := keys_sh (X := X) kr s1 (fun t ht => by
          obtain ⟨p, hp, l⟩ := PyData.shownKv_key_le ds t ht
          exact Nat.le_trans l (Nat.le_trans (dictText_mem_le hp) hz))
        obtain ⟨b2, hb2, k2⟩ := DaKv.shows I ds _ _ h2 (vals_read rv hp) s2 (fun t ht => by
          obtain ⟨p, hp, l⟩ := PyData.shownKv_val_le ds t ht
          exact Nat.le_trans l (Nat.le_trans (dictText_mem_le hp) hz))
        have hbb : ReadAtMost s.heap (PyData.depthKv ds) (b1 ++ b2) := (hb1.mono (PyData.depthAll_keys_le ds)).append (hb2.mono (PyData.depthAll_vals_le ds))
        have lt : PyData.depthKv ds < (PyData.dict ds).depth := by simp only [PyData.depth]; omega
        have na := not_mem_of_deeper rd lt hbb
        simp only [PyData.depth] at hdp
        simp only [PyData.shown] at fin
        rw [PyData.shownKv_eq] at fin hz
        refine call_repr_slot (by omega) ⟨o, ho, hx.1⟩ F.slot_dict_repr ?_
        refine call_dict_reprK ho hx.1 hdt hsys na (ReprEntriesK.of_two (d := PyData.depthKv ds) es.toList _ _ ?_ ?_) hg (fun b _ => Clear.nil b) (by show X.A.units + 1 + (PyData.depthKv ds + 1) < cLine; omega) (fun _ _ z => z) (fun h' u tk hk => ⟨_, _, rfl, fin hk⟩) hz
        · exact k1.more_le (fun x hx => List.mem_append_left b2 hx) (PyData.depthAll_keys_le ds)
        · exact k2.more_le (fun x hx => List.mem_append_right b1 hx) (PyData.depthAll_vals_le ds)
end
end Rp
set_option maxRecDepth 100000
set_option maxHeartbeats 2000000
/-! list(text); sorted(texts), any number -/
namespace Zs
open PySem PySem.Spec PyProof.Rows L2
/-- the signs of a text -/
def sgn (x : Str) : List V := x.cps.toList.map fun c => V.str ⟨#[c]⟩
theorem vals_sgn {x : Str} {acc : Array Value} (h : ItemsOf (SignAt x) acc x.cps.size) : Vals (sgn x) acc.toList := by
  refine vals_of_idx _ _ ?_ fun j u hj => ?_
  · unfold sgn
    rw [List.length_map, Array.length_toList, Array.length_toList]
    exact h.1
  · obtain ⟨c, t, e1, rfl⟩ := h.2 j u (by rw [← Array.getElem?_toList]; exact hj)
    refine ⟨.str ⟨#[c]⟩, ?_, ⟨t, rfl⟩⟩
    unfold sgn
    rw [List.getElem?_map, Array.getElem?_toList, e1]
    rfl
section
variable {X : Cx}
theorem call_list_tx (hcalm : X.calm = true) : CallR X (.type "list") (fun xs H Q => ∃ x : Str, xs = [.str x] ∧ x.length ≤ sizeLine ∧ ∀ p, H p = none → Q (.ref p) (upd H p (.lst (sgn x)))) := by
  intro pins s σ H xs us Q I r h
  obtain ⟨x, rfl, hz, q⟩ := h
  obtain ⟨u, rfl, rx⟩ := vals1 r
  obtain ⟨t, rfl⟩ := rx
  refine call_list_str (hn := hz) (I.ok.hd hcalm) x t fun h' tk acc c' hk hD hacc => ?_
  have hl : (sgn x).length ≤ sizeLine := by
    unfold sgn
    rw [List.length_map, Array.length_toList]
    exact hz
  exact ⟨.ref _, upd H s.heap.objs.size (.lst (sgn x)), I.laid (t' := tk) hk (Nat.le_refl _) (show ObjOk X.prog X.w _ _ _ (.lst (sgn x)) from ⟨hl, acc.toList, c', vals_sgn hacc, by rw [Array.toArray_toList]; exact hD⟩), rfl, q _ (I.hok.fresh (Nat.le_refl _))⟩
def RStr (v : Value) (b : Str) : Prop := ∃ t, v = .str b t
theorem each_of : ∀ {ss : List Str} {its : List Value}, Vals (ss.map V.str) its → PySem.W.EachIs RStr its ss
  | [], _, r => by
    cases r
    exact .nil
  | x :: ss, _, r => by
    rw [List.map_cons] at r
    cases r with
    | cons r1 r2 =>
      obtain ⟨t, rfl⟩ := r1
      exact .cons ⟨t, rfl⟩ (each_of r2)
theorem vals_each : ∀ {its : List Value} {ss : List Str}, PySem.W.EachIs RStr its ss → Vals (ss.map V.str) its
  | _, _, .nil => .nil
  | _, _, .cons ⟨t, e⟩ r => by
    subst e
    exact .cons ⟨t, rfl⟩ (vals_each r)
/-- sorted(xs), texts -/
theorem cr_sortedTx (hu : X.A.units + 64 < cLine) : CallR X (.builtin "sorted") (fun xs H Q => ∃ (a : Addr) (ss : List Str), xs = [.ref a] ∧ SqL X.K H a (ss.map V.str) ∧ ∀ (ss' : List Str) (p : Addr), ss'.Perm ss → H p = none → Q (.ref p) (upd H p (.lst (ss'.map V.str)))) := by
  intro pins s σ H xs us Q I r h
  obtain ⟨a, ss, rfl, hs, q⟩ := h
  obtain ⟨its, rv, hl, hz⟩ := I.list hs
  rw [Vals.ref1 r]
  have e := each_of rv
  rw [List.length_map] at hz
  refine PySem.W.sorted_data (enc := PyData.str) (bs := ss) (R := RStr) hl.isList e (e.mono fun v b ⟨t, z⟩ => ⟨[], by rw [z]; exact Reads.str b t⟩) (PySem.W.AllAlike.of fun _ _ => rfl) (PySem.W.Sortable.others fun b => ⟨(fun z => by cases z), (fun xs z => by cases z)⟩) hz (fun b _ => by simp only [PyData.depth]; omega) fun out ho eo => ?_
  obtain ⟨ep, he'⟩ := PyProof.Rows.sortedAll_at s.heap its out.toArray
  have perm : (ss.mergeSort (PySem.W.dataLe false PyData.str)).Perm ss := List.mergeSort_perm ss _
  have hlen : ((ss.mergeSort (PySem.W.dataLe false PyData.str)).map V.str).length ≤ sizeLine := by
    rw [List.length_map, perm.length_eq]
    exact hz
  exact ⟨.ref _, upd H (s.heap.objs.size + 1) (.lst ((ss.mergeSort (PySem.W.dataLe false PyData.str)).map V.str)), I.laid (t' := s.toks) (fun _ _ => PyProof.Rows.sortedAll_old) (Nat.le_succ _) (show ObjOk X.prog X.w _ _ _ (.lst _) from ⟨hlen, out, ep, vals_each eo, he'⟩), rfl, q _ _ perm (I.hok.fresh (Nat.le_succ _))⟩
end
end Zs
set_option maxRecDepth 100000
set_option maxHeartbeats 2000000
/-! the law's letters -/
namespace Pr
open PySem PySem.Spec PyProof.Rows L2 GxR Gx Rp Dl Pd Tx Zq Zs
/-- a sign as a text -/
abbrev sg (c : Nat) : Str := ⟨#[c]⟩
theorem sgn_map (x : Str) : sgn x = (x.cps.toList.map sg).map V.str := by
  unfold sgn
  rw [List.map_map]
  rfl
def isL (c : Nat) : Prop := 97 ≤ c ∧ c ≤ 122
theorem letters_isL {x : Str} (h : letters x = true) : ∀ c ∈ x.cps.toList, isL c := fun c hc => by
  have z := List.all_eq_true.mp h c hc
  rw [Bool.and_eq_true] at z
  exact ⟨of_decide_eq_true z.1, of_decide_eq_true z.2⟩
def ABC : Str := "abcdefghijklmnopqrstuvwxyz"
theorem abc_isL : ∀ c ∈ ABC.cps.toList, isL c := letters_isL (by decide +kernel)
theorem abc_len : ABC.length = 26 := by decide +kernel
section
variable {P : Program} {w : World} {K : PySem.W.Frag} {mg : Str → Option Value} {base : Heap} {T : List Addr}
def spPickT (K : PySem.W.Frag) : Sp := fun vs H Q _ => ∃ (p cc b : Addr) (a : Nat) (fs : List Str), vs = [.ref p, .ref b] ∧ PenAt H p cc a ∧ a ≤ 100000 ∧ Rd H b (.tup (fs.map V.str)) ∧ 0 < fs.length ∧ fs.length ≤ 1000 ∧ ∀ H' f, GeP p H H' → PenAt H' p cc (a + 1) → f ∈ fs → Q (.str f) H'
theorem ok_law_one_ofT {f c : Addr} {fd : FuncData} (F : FunC K "_law_one_of" s_law_one_of f fd c) (B : Bn mg) (D : DfP P w K mg base 2 "_law_take" ["_law_pen", "_law_amount"] spTake) : FnOk P w K mg base CX0 3 f fd ["_law_pen", "_law_some"] (spPickT K) := by
  refine F.ok scPick (fun vs H Q E ⟨_, _, _, _, _, h, _⟩ => by rw [h]; rfl) (fun A outer s H vs Q E hr h => ?_)
  obtain ⟨p, cc, b, a, fs, rfl, hp, ha, hb, h0, h1, q⟩ := h
  refine ⟨_, pss_one (ps_ret (pe_ix ix_seq (pv 1) (pcall D hr pass0 rfl (pa_cons (pv 0) (pa_cons (pe_callB (call_len_seq.or call_len_str) rfl B.len PySem.boot_len (pa_cons (pv 1) pa_nil)) pa_nil))) (fun _ _ => rfl))), ?_⟩
  refine ⟨_, rfl, _, rfl, _, rfl, Or.inl ⟨b, fs.map V.str, rfl, Or.inr (Or.inl hb), p, cc, _, a, rfl, hp, ha, by rw [List.length_map]; omega, by rw [List.length_map]; omega, fun H' r g hp' r0 r1 => ?_⟩⟩
  obtain ⟨v, hv, e⟩ := any_at r0 r1
  obtain ⟨f, hf, rfl⟩ := List.mem_map.mp hv
  exact Or.inr (Or.inl ⟨b, fs.map V.str, r, .str f, rfl, rfl, Or.inl (g.rd hp.lst.choose_spec (fun ps z => by cases z) (fun ys z => by cases z) hb), e, q H' f g hp' hf⟩)
def spLetters (K : PySem.W.Frag) : Sp := fun vs H Q _ => ∃ p cc a m t o cd ly fl ns bss wt cks eks d, vs = [.ref p, .ref m] ∧ PenAt H p cc a ∧ a ≤ 90000 ∧ MapK K H m t o cd ly fl ns bss wt cks eks d ∧ ∀ (H' : Hp) (l : Addr) (cs : List Nat), GeP p H H' → PenAt H' p cc (a + 1) → H' l = some (.lst ((cs.map sg).map V.str)) → l ≠ p → 0 < cs.length → cs.length ≤ 1000 → (∀ c ∈ cs, isL c) → Q (.ref l) H'
abbrev nLetters : List Str := ["_law_pen", "_law_keymap", "_law_found", "_law_layer", "_law_keys", "_law_condition", "_law_command"]
end
end Pr
set_option maxRecDepth 100000
set_option maxHeartbeats 2000000
/-! the law's rows -/
namespace Pr
open PySem PySem.Spec PyProof.Rows L2 GxR Gx Rp Dl Pd Tx Zq Zs
section
variable {P : Program} {w : World} {K : PySem.W.Frag} {mg : Str → Option Value} {base : Heap} {T : List Addr}
structure RowS (K : PySem.W.Frag) (H0 H : Hp) (p cc : Addr) (a : Nat) (m t o cd ly lr ll : Addr) (fl ns : List Str) (bss : List (List BI)) (wt : Int) (cks : List (Key × V)) (eks : Str → List (Key × V)) (d : PyData) (ol : List Str) (cs : List Nat) (es : List RE) (tm : Int) : Prop where
  g : GeP p H0 H
  pen : PenAt H p cc a
  km : MapK K H m t o cd ly fl ns bss wt cks eks d
  ho : Rd H o (.tup (ol.map V.str))
  hl : H ll = some (.lst ((cs.map sg).map V.str))
  hr : RowAt H lr es
  ok : ∀ e ∈ es, okE ol e ∧ e.t ≤ tm
  pw : es.Pairwise (fun a b => a.t ≤ b.t)
  t0 : 0 ≤ tm
  nl : ll ≠ p
  nr : lr ≠ p
  ne : lr ≠ ll
  nc : lr ≠ cc
  nw : Nw H0 lr
variable {H0 H H' : Hp} {p cc m t o cd ly lr ll : Addr} {a b : Nat} {fl ns : List Str} {bss : List (List BI)} {wt : Int} {cks : List (Key × V)} {eks : Str → List (Key × V)} {d : PyData} {ol : List Str} {cs : List Nat} {es : List RE} {tm : Int}
theorem RowS.gp (S : RowS K H0 H p cc a m t o cd ly lr ll fl ns bss wt cks eks d ol cs es tm) (g : GeP p H H') (hp : PenAt H' p cc b) : RowS K H0 H' p cc b m t o cd ly lr ll fl ns bss wt cks eks d ol cs es tm := by
  obtain ⟨xs, hx⟩ := S.pen.lst
  exact ⟨S.g.trans g, hp, S.km.gp g hx, g.rd hx (fun ps z => by cases z) (fun ys z => by cases z) S.ho, g.1 ll _ S.nl S.hl (fun ps z => by cases z), S.hr.gp g hx S.nr, S.ok, S.pw, S.t0, S.nl, S.nr, S.ne, S.nc, S.nw⟩
theorem RowS.ge (S : RowS K H0 H p cc a m t o cd ly lr ll fl ns bss wt cks eks d ol cs es tm) (g : Ge H H') : RowS K H0 H' p cc a m t o cd ly lr ll fl ns bss wt cks eks d ol cs es tm := S.gp (GeP.of g) (S.pen.ge g)
theorem RowS.app {us : List V} {v : V} {e : RE} (S : RowS K H0 H p cc a m t o cd ly lr ll fl ns bss wt cks eks d ol cs es tm) (hu : H lr = some (.lst us)) (pu : Paired (EntAt H) us es) (he : EntAt H v e) (ok : okE ol e) (et : e.t = tm) : RowS K H0 (upd H lr (.lst (us ++ [v]))) p cc a m t o cd ly lr ll fl ns bss wt cks eks d ol cs (es ++ [e]) tm := by
  have gl : GeP lr H (upd H lr (.lst (us ++ [v]))) := GeP.set hu
  refine ⟨S.g.upd S.nw, S.pen.upd S.nr S.nc, S.km.gp gl hu, gl.rd hu (fun ps z => by cases z) (fun ys z => by cases z) S.ho, gl.1 ll _ S.ne.symm S.hl (fun ps z => by cases z), ⟨_, upd_same, Paired.imp (fun _ _ z => EntAt.gp z gl hu) (paired_snoc he pu)⟩, ?_, ?_, S.t0, S.nl, S.nr, S.ne, S.nc, S.nw⟩
  · intro e' h'
    rcases List.mem_append.mp h' with h' | h'
    · exact S.ok e' h'
    · rw [List.mem_singleton.mp h']
      exact ⟨ok, by rw [et]; exact Int.le_refl _⟩
  · rw [List.pairwise_append]
    refine ⟨S.pw, List.pairwise_singleton _ _, fun x hx y hy => ?_⟩
    rw [List.mem_singleton.mp hy, et]
    exact (S.ok x hx).2
theorem RowS.later {tm' : Int} (S : RowS K H0 H p cc a m t o cd ly lr ll fl ns bss wt cks eks d ol cs es tm) (h : tm ≤ tm') : RowS K H0 H p cc a m t o cd ly lr ll fl ns bss wt cks eks d ol cs es tm' :=
  ⟨S.g, S.pen, S.km, S.ho, S.hl, S.hr, fun e he => ⟨(S.ok e he).1, Int.le_trans (S.ok e he).2 h⟩, S.pw, Int.le_trans S.t0 h, S.nl, S.nr, S.ne, S.nc, S.nw⟩
theorem RowS.mono (S : RowS K H0 H p cc a m t o cd ly lr ll fl ns bss wt cks eks d ol cs es tm) (h : a ≤ b) : RowS K H0 H p cc b m t o cd ly lr ll fl ns bss wt cks eks d ol cs es tm :=
  ⟨S.g, S.pen.mono h, S.km, S.ho, S.hl, S.hr, S.ok, S.pw, S.t0, S.nl, S.nr, S.ne, S.nc, S.nw⟩
/-- a row that was drawn -/
def RowD (ol : List Str) (n : Nat) (B : Int) (es : List RE) : Prop := (∀ e ∈ es, okE ol e ∧ e.t ≤ B) ∧ es.Pairwise (fun a b => a.t ≤ b.t) ∧ es.length ≤ n
def spRow (K : PySem.W.Frag) : Sp := fun vs H Q _ => ∃ p cc a m t o cd ly fl ns bss wt cks eks d ol most, vs = [.ref p, .ref m, .int most] ∧ 0 ≤ most ∧ most ≤ 30 ∧ PenAt H p cc a ∧ a ≤ 90000 ∧ MapK K H m t o cd ly fl ns bss wt cks eks d ∧ Rd H o (.tup (ol.map V.str)) ∧ ol.length ≤ 3 ∧ 1 ≤ wt ∧ wt ≤ 1000 ∧
  ∀ (H' : Hp) (L : Addr) (es : List RE), GeP p H H' → PenAt H' p cc (a + 200) → L ≠ p → RowAt H' L es → RowD ol most.toNat 100000 es → Q (.ref L) H'
abbrev nLRow : List Str := ["_law_pen", "_law_keymap", "_law_most", "_law_letters", "_law_wait", "_law_row", "_law_time", "_law_turn"]
end
end Pr
set_option maxRecDepth 100000
set_option maxHeartbeats 2000000
namespace Pr
open PySem.Builtin.Str (reprChar)
open PySem PySem.Spec PyProof.Rows L2 GxR Gx Rp Dl Pd Tx
def CpOk (l : List Nat) : Prop := ∀ c ∈ l, c < 1114112
theorem CpOk.app {l m : List Nat} (h : CpOk l) (h' : CpOk m) : CpOk (l ++ m) := fun c hc => (List.mem_append.mp hc).elim (h c) (h' c)
theorem strOk_of {x : Str} (h : CpOk x.cps.toList) : PyData.strOk x = true := by
  unfold PyData.strOk
  rw [Array.all_eq_true]
  intro i hi
  exact decide_eq_true (h _ (by simp))
abbrev Cx1 (x : Str) : Prop := CpOk x.cps.toList
theorem cp_app {x y : Str} (h : Cx1 x) (h' : Cx1 y) : Cx1 (x ++ y) := by
  show CpOk (TL.tl (x ++ y))
  rw [TL.tl_append]
  exact h.app h'
theorem cp_join {sep : Str} (hs : Cx1 sep) : ∀ ts : List Str, (∀ t ∈ ts, Cx1 t) → Cx1 (Str.join sep ts)
  | [], _ => fun c hc => by cases hc
  | [x], h => h x List.mem_cons_self
  | x :: y :: r, h => cp_app (cp_app (h x List.mem_cons_self) hs) (cp_join hs (y :: r) fun t ht => h t (List.mem_cons_of_mem _ ht))
theorem cp_from : ∀ (ts : List Str) (k : Nat) (acc : Str), Cx1 acc → (∀ t ∈ ts, Cx1 t) → Cx1 (textFrom k acc ts)
  | [], _, _, h, _ => h
  | t :: r, k, acc, h, h' => cp_from r (k + 1) _ (cp_app (cp_app h (by split <;> (unfold Cx1 CpOk; decide +kernel))) (h' t List.mem_cons_self)) fun u hu => h' u (List.mem_cons_of_mem _ hu)
theorem cp_int : ∀ i : Fin 1001, CpOk ((toString (i.val : Int) : String) : Str).cps.toList := by unfold CpOk; decide +kernel
theorem cp_chars : ∀ c : Fin 128, CpOk (reprChar 39 c.val) ∧ CpOk (reprChar 34 c.val) := by unfold CpOk; decide +kernel
theorem cp_fold (q : Nat) : ∀ (l : List Nat) (acc : Array Nat), CpOk acc.toList → (∀ c ∈ l, CpOk (reprChar q c)) → CpOk (l.foldl (fun out c => out ++ (reprChar q c).toArray) acc).toList
  | [], acc, h, _ => h
  | c :: r, acc, h, h' => cp_fold q r _ (by rw [Array.toList_append]; exact h.app (h' c List.mem_cons_self)) fun d hd => h' d (List.mem_cons_of_mem _ hd)
theorem quote_two (x : Str) : reprQuote x = 39 ∨ reprQuote x = 34 := by
  unfold reprQuote
  split <;> simp
theorem cp_repr {x : Str} (h : ∀ c ∈ x.cps.toList, c < 128) : Cx1 (reprText x) := by
  have hq : CpOk [reprQuote x] := fun c hc => by
    rw [List.mem_singleton.mp hc]
    rcases quote_two x with e | e <;> rw [e] <;> decide
  have hc : ∀ c ∈ x.cps.toList, CpOk (reprChar (reprQuote x) c) := fun c hc => by
    have z := cp_chars ⟨c, h c hc⟩
    rcases quote_two x with e | e <;> rw [e]
    · exact z.1
    · exact z.2
  show CpOk ((x.cps.foldl (fun out c => out ++ (reprChar (reprQuote x) c).toArray) #[reprQuote x]).push (reprQuote x)).toList
  rw [Array.toList_push, ← Array.foldl_toList]
  exact (cp_fold _ _ _ hq hc).app hq
mutual
theorem cp_shown : ∀ d : PyData, okD d = true → Cx1 d.shown
  | .none, _ => by unfold Cx1 CpOk; decide +kernel
  | .bool b, _ => by cases b <;> (unfold Cx1 CpOk; decide +kernel)
  | .int i, h => by
    have h' : (decide (0 ≤ i) && decide (i ≤ 1000)) = true := h
    rw [Bool.and_eq_true] at h'
    have h0 := of_decide_eq_true h'.1
    have h1 := of_decide_eq_true h'.2
    have e : ((⟨i.toNat, by omega⟩ : Fin 1001).val : Int) = i := by show (i.toNat : Int) = i; omega
    have z := cp_int ⟨i.toNat, by omega⟩
    rw [e] at z
    exact z
  | .str x, h => by
    have h' : (decide (x.length ≤ 100) && x.cps.toList.all (fun c => decide (c < 128))) = true := h
    rw [Bool.and_eq_true] at h'
    exact cp_repr fun c hc => of_decide_eq_true (List.all_eq_true.mp h'.2 c hc)
  | .list xs, h => by
    have h' : (decide (xs.length ≤ 100) && okAll xs) = true := by simpa only [okD] using h
    rw [Bool.and_eq_true] at h'
    have a := cp_shownAll xs h'.2
    simp only [PyData.shown]
    exact cp_app (cp_from _ _ _ (by unfold Cx1 CpOk; decide +kernel) a) (by unfold Cx1 CpOk; decide +kernel)
  | .tuple xs, h => by
    have h' : (decide (xs.length ≤ 100) && okAll xs) = true := by simpa only [okD] using h
    rw [Bool.and_eq_true] at h'
    have a := cp_shownAll xs h'.2
    simp only [PyData.shown]
    exact cp_app (cp_app (by unfold Cx1 CpOk; decide +kernel) (cp_join (by unfold Cx1 CpOk; decide +kernel) _ a)) (by split <;> (unfold Cx1 CpOk; decide +kernel))
  | .dict kvs, h => by
    have h' : (decide (kvs.length ≤ 100) && okKv kvs) = true := by simpa only [okD] using h
    rw [Bool.and_eq_true] at h'
    have a := cp_shownKv kvs h'.2
    simp only [PyData.shown]
    exact cp_app (cp_app (by unfold Cx1 CpOk; decide +kernel) (cp_join (by unfold Cx1 CpOk; decide +kernel) _ a)) (by unfold Cx1 CpOk; decide +kernel)
theorem cp_shownAll : ∀ xs : List PyData, okAll xs = true → ∀ t ∈ PyData.shownAll xs, Cx1 t
  | [], _ => fun t ht => by simp [PyData.shownAll] at ht
  | x :: xs, h => by
    have h' : (okD x && okAll xs) = true := by simpa only [okAll] using h
    rw [Bool.and_eq_true] at h'
    intro t ht
    simp only [PyData.shownAll] at ht
    rcases List.mem_cons.mp ht with rfl | ht
    · exact cp_shown x h'.1
    · exact cp_shownAll xs h'.2 t ht
theorem cp_shownKv : ∀ kvs : List (PyData × PyData), okKv kvs = true → ∀ t ∈ PyData.shownKv kvs, Cx1 t
  | [], _ => fun t ht => by simp [PyData.shownKv] at ht
  | (k, v) :: r, h => by
    have h' : (okD k && okD v && okKv r) = true := by simpa only [okKv] using h
    rw [Bool.and_eq_true, Bool.and_eq_true] at h'
    intro t ht
    simp only [PyData.shownKv] at ht
    rcases List.mem_cons.mp ht with rfl | ht
    · exact cp_app (cp_app (cp_shown k h'.1.1) (by unfold Cx1 CpOk; decide +kernel)) (cp_shown v h'.1.2)
    · exact cp_shownKv r h'.2 t ht
end
end Pr
set_option maxRecDepth 100000
set_option maxHeartbeats 2000000
/-! a row repeated -/
namespace Pr
open PySem PySem.Spec PyProof.Rows L2 GxR Gx Rp Dl Pd Tx Zq Zs
def RE.add (x : Int) : RE → RE
  | .key c t => .key c (t + x)
  | .set f b t => .set f b (t + x)
theorem RE.add_t (x : Int) (e : RE) : (e.add x).t = e.t + x := by cases e <;> rfl
def RE.ini : RE → List V
  | .key c t => [.str "key", .str (sg c)]
  | .set f b t => [.str "set", .str f, .bl b]
theorem ini_ne (e : RE) : e.ini ≠ [] := by cases e <;> (intro z; cases z)
theorem add_vs (x : Int) (e : RE) : e.ini ++ [.int (e.t + x)] = (e.add x).vs := by cases e <;> rfl
theorem cut_ini (e : RE) : cutV e.vs none (some (-1)) = e.ini ∧ ¬ (HT.sIx e.vs.length 0 none = 0 ∧ HT.sIx e.vs.length e.vs.length (some (-1)) = e.vs.length) := by
  cases e with
  | key c t => exact ⟨rfl, fun z => absurd z.2 (show ¬ HT.sIx 3 3 (some (-1)) = 3 by decide)⟩
  | set f b t => exact ⟨rfl, fun z => absurd z.2 (show ¬ HT.sIx 4 4 (some (-1)) = 4 by decide)⟩
theorem ini_len (e : RE) : e.ini.length ≤ 3 := by
  cases e with
  | key c t => exact (show 2 ≤ 3 by decide)
  | set f b t => exact (show 3 ≤ 3 by decide)
theorem sl_tupK {X : Cx} {K : PySem.W.Frag} (h : X.K = K) : SlR X (rSlA K) := h ▸ sl_tupA
theorem op_catK {X : Cx} {K : PySem.W.Frag} (h : X.K = K) : OpR X (binaryOp .Add) (rCatA K) := h ▸ op_catA
theorem shaped_row {es : List RE} {ol : List Str} (h : ∀ e ∈ es, okE ol e) (hf : ∀ f ∈ ol, PyData.strOk f = true) : SeqAt.shaped (.list (es.map RE.d)) = true := by
  have one : ∀ e : RE, okE ol e → PyData.canLay0 e.d = true ∧ e.d.depth ≤ 1 := fun e he => by
    cases e with
    | key c t =>
      have h1 : PyData.strOk (sg c) = true := strOk_of fun x hx => by
        have : x = c := by simpa [sg] using hx
        have := he.2.1
        omega
      have h2 : PyData.strOk "key" = true := by decide +kernel
      refine ⟨?_, by simp only [RE.d, PyData.depth, PyData.depthAll]; omega⟩
      simp only [RE.d, PyData.canLay0, PyData.canLayAll0, h1, h2, Bool.and_true]
    | set f b t =>
      have h1 := hf f he.1
      have h2 : PyData.strOk "set" = true := by decide +kernel
      refine ⟨?_, by simp only [RE.d, PyData.depth, PyData.depthAll]; omega⟩
      simp only [RE.d, PyData.canLay0, PyData.canLayAll0, h1, h2, Bool.and_true]
  have h2 : PyData.canLayAll0 (es.map RE.d) = true := by
    induction es with
    | nil => rfl
    | cons x r ih =>
      simp only [List.map_cons, PyData.canLayAll0, Bool.and_eq_true]
      exact ⟨(one x (h x List.mem_cons_self)).1, ih fun y hy => h y (List.mem_cons_of_mem _ hy)⟩
  have h3 : PyData.depthAll (es.map RE.d) ≤ 1 := by
    clear h2
    induction es with
    | nil => exact Nat.zero_le _
    | cons x r ih =>
      have a := (one x (h x List.mem_cons_self)).2
      have b := ih fun y hy => h y (List.mem_cons_of_mem _ hy)
      simp only [List.map_cons, PyData.depthAll]
      omega
  unfold SeqAt.shaped
  simp only [PyData.canLay0, PyData.depth, h2, Bool.true_and]
  exact decide_eq_true (by omega)
theorem dp_row {K : PySem.W.Frag} {H : Hp} : ∀ {vs : List V} {es : List RE}, Paired (EntAt H) vs es → DpAll K H vs (es.map RE.d)
  | _, _, .nil => .nil
  | _, e :: _, .cons ⟨a, h1, h2⟩ r => by
    subst h1
    refine .cons ?_ (dp_row r)
    cases e with
    | key c t => exact .tup (SqT.of h2) (.cons (.str _) (.cons (.str _) (.cons (.int _) .nil)))
    | set f b t => exact .tup (SqT.of h2) (.cons (.str _) (.cons (.str _) (.cons (.bl _) (.cons (.int _) .nil))))
theorem eqv_row {es : List RE} : PyData.eqv (.list (es.map RE.d)) (.list []) = es.isEmpty := by
  cases es with
  | nil => rfl
  | cons e r => rfl
theorem last_of {α : Type} {xs : List α} (h : xs ≠ []) : ∃ v, atI xs (-1) = some v ∧ xs.getLast? = some v := by
  obtain ⟨v, hv⟩ : ∃ v, xs.getLast? = some v := by
    cases e : xs.getLast? with
    | none => exact absurd (List.getLast?_eq_none_iff.mp e) h
    | some v => exact ⟨v, rfl⟩
  obtain ⟨ys, rfl⟩ := List.getLast?_eq_some_iff.mp hv
  exact ⟨v, atI_last ys v, hv⟩
theorem paired_last {α β : Type} {F : α → β → Prop} : ∀ {xs : List α} {ys : List β} {v : α}, Paired F xs ys → xs.getLast? = some v → ∃ y, ys.getLast? = some y ∧ F v y
  | _, _, _, .nil, h => by cases h
  | _, _, v, (.cons (l₁ := []) a r), h => by
    cases r
    cases h
    exact ⟨_, rfl, a⟩
  | _, _, v, (.cons (l₁ := x :: xs) a r), h => by
    cases r with
    | cons b r' =>
      rw [List.getLast?_cons_cons] at h
      obtain ⟨y, h1, h2⟩ := paired_last (.cons b r') h
      exact ⟨y, by rw [List.getLast?_cons_cons]; exact h1, h2⟩
end Pr
set_option maxRecDepth 100000
set_option maxHeartbeats 2000000
/-! bounds of texts; events that are right; the drawn keymap with its outside flags -/
namespace Pr
open PySem PySem.Spec PyProof.Rows L2 GxR Gx Rp Dl Pd Tx Zq Zs
/-- shown in at most n signs, at most dp deep -/
def Sz (d : PyData) (n dp : Nat) : Prop := d.showable = true ∧ d.shown.length ≤ n ∧ d.depth ≤ dp
theorem Sz.mono {d : PyData} {n dp n' dp' : Nat} (h : Sz d n dp) (h1 : n ≤ n') (h2 : dp ≤ dp') : Sz d n' dp' := ⟨h.1, Nat.le_trans h.2.1 h1, Nat.le_trans h.2.2 h2⟩
theorem sz_all {n dp : Nat} : ∀ ds : List PyData, (∀ d ∈ ds, Sz d n dp) → PyData.showableAll ds = true ∧ piled (PyData.shownAll ds) ≤ ds.length * (n + 2) ∧ PyData.depthAll ds ≤ dp
  | [], _ => ⟨rfl, Nat.zero_le _, Nat.zero_le _⟩
  | x :: xs, h => by
    obtain ⟨a1, a2, a3⟩ := h x List.mem_cons_self
    obtain ⟨b1, b2, b3⟩ := sz_all xs fun d hd => h d (List.mem_cons_of_mem _ hd)
    refine ⟨by simp only [PyData.showableAll, a1, b1, Bool.and_self], ?_, ?_⟩
    · simp only [PyData.shownAll, piled_cons, List.length_cons]
      have : (xs.length + 1) * (n + 2) = xs.length * (n + 2) + (n + 2) := Nat.succ_mul _ _
      omega
    · simp only [PyData.depthAll]
      omega
theorem sz_list {ds : List PyData} {n dp k : Nat} (h : ∀ d ∈ ds, Sz d n dp) (hk : ds.length ≤ k) : Sz (.list ds) (k * (n + 2) + 4) (dp + 1) := by
  obtain ⟨b1, b2, b3⟩ := sz_all ds h
  refine ⟨by simpa only [PyData.showable] using b1, ?_, ?_⟩
  · have := listText_le (PyData.shownAll ds)
    have : ds.length * (n + 2) ≤ k * (n + 2) := Nat.mul_le_mul_right _ hk
    simp only [PyData.shown]
    omega
  · simp only [PyData.depth]
    omega
theorem sz_tup {ds : List PyData} {n dp k : Nat} (h : ∀ d ∈ ds, Sz d n dp) (hk : ds.length ≤ k) : Sz (.tuple ds) (k * (n + 2) + 4) (dp + 1) := by
  obtain ⟨b1, b2, b3⟩ := sz_all ds h
  refine ⟨by simpa only [PyData.showable] using b1, ?_, ?_⟩
  · have := tupleText_le (PyData.shownAll ds)
    have : ds.length * (n + 2) ≤ k * (n + 2) := Nat.mul_le_mul_right _ hk
    simp only [PyData.shown]
    omega
  · simp only [PyData.depth]
    omega
theorem sz_int {i : Int} (h0 : 0 ≤ i) (h1 : i ≤ 1000000000) : Sz (.int i) 10 0 := by
  refine ⟨?_, ?_, Nat.le_refl _⟩
  · show decide (i.natAbs.log2 < 1920) = true
    refine decide_eq_true ?_
    have h2 : i.natAbs < 2 ^ 1920 := Nat.lt_of_lt_of_le (show i.natAbs < 2 ^ 31 by omega) (Nat.pow_le_pow_right (by decide) (by decide))
    by_cases hz : i.natAbs = 0
    · rw [hz]; decide
    · exact (Nat.log2_lt hz).mpr h2
  · exact PyProof.Rows.toString_length_le h0 (by decide) (by omega)
theorem sz_bool (b : Bool) : Sz (.bool b) 5 0 := ⟨rfl, by cases b <;> decide, Nat.le_refl _⟩
theorem sz_str {x : Str} {n : Nat} (h : ∀ c ∈ x.cps.toList, c < 128) (hl : x.length ≤ n) : Sz (.str x) (10 * n + 2) 0 :=
  ⟨rfl, Nat.le_trans (StrLaws.reprText_len x fun c hc => Nat.lt_trans (h c hc) (by decide)) (by omega), Nat.le_refl _⟩
theorem sz_lit : Sz (.str "key") 100 0 ∧ Sz (.str "set") 100 0 ∧ Sz (.str "text") 100 0 ∧ Sz (.str "do") 100 0 :=
  ⟨(sz_str (n := 4) (by decide +kernel) (by decide +kernel)).mono (by decide) (by decide), (sz_str (n := 4) (by decide +kernel) (by decide +kernel)).mono (by decide) (by decide), (sz_str (n := 4) (by decide +kernel) (by decide +kernel)).mono (by decide) (by decide), (sz_str (n := 4) (by decide +kernel) (by decide +kernel)).mono (by decide) (by decide)⟩
theorem sz_sg {c : Nat} (h : isL c) : Sz (.str (sg c)) 100 0 := (sz_str (n := 1) (fun x hx => by
  have : x = c := by simpa [sg] using hx
  have := h.2
  omega) (Nat.le_refl _)).mono (by decide) (by decide)
theorem sz_mkS {ks : List Nat} (h : ∀ c ∈ ks, isL c) (hl : ks.length ≤ 4) : Sz (.str (mkS ks)) 100 0 := (sz_str (n := 4) (fun x hx => by
  have := (h x (by simpa [mkS] using hx)).2
  omega) (by rw [mkS_len]; exact hl)).mono (by decide) (by decide)
/-- a name that may be shown -/
def NmOk (f : Str) : Prop := f.length ≤ 8 ∧ ∀ c ∈ f.cps.toList, c < 128
theorem sz_nm {f : Str} (h : NmOk f) : Sz (.str f) 100 0 := (sz_str (n := 8) h.2 h.1).mono (by decide) (by decide)
theorem nm_strOk {f : Str} (h : NmOk f) : PyData.strOk f = true := strOk_of fun c hc => Nat.lt_trans (h.2 c hc) (by decide)
theorem nm_flags : ∀ f ∈ FLAGS, NmOk f := by unfold NmOk; decide +kernel
theorem nm_names : ∀ f ∈ NAMES, NmOk f := by unfold NmOk; decide +kernel
theorem sz_ent {ol : List Str} {e : RE} (h : okE ol e) (hf : ∀ f ∈ ol, NmOk f) : Sz e.d 500 1 := by
  cases e with
  | key c t =>
    refine (sz_tup (n := 100) (dp := 0) (k := 3) (fun d hd => ?_) (Nat.le_refl _)).mono (by decide) (by decide)
    simp only [List.mem_cons, List.not_mem_nil, or_false] at hd
    rcases hd with rfl | rfl | rfl
    · exact sz_lit.1
    · exact sz_sg ⟨h.1, h.2.1⟩
    · exact (sz_int h.2.2.1 h.2.2.2).mono (by decide) (by decide)
  | set f b t =>
    refine (sz_tup (n := 100) (dp := 0) (k := 4) (fun d hd => ?_) (Nat.le_refl _)).mono (by decide) (by decide)
    simp only [List.mem_cons, List.not_mem_nil, or_false] at hd
    rcases hd with rfl | rfl | rfl | rfl
    · exact sz_lit.2.1
    · exact sz_nm (hf f h.1)
    · exact (sz_bool b).mono (by decide) (by decide)
    · exact (sz_int h.2.1 h.2.2).mono (by decide) (by decide)
theorem sz_row {ol : List Str} {es : List RE} (h : ∀ e ∈ es, okE ol e) (hf : ∀ f ∈ ol, NmOk f) (hl : es.length ≤ 300) : Sz (.list (es.map RE.d)) 200000 2 := by
  refine (sz_list (n := 500) (dp := 1) (k := 300) (fun d hd => ?_) (by rw [List.length_map]; exact hl)).mono (by decide) (by decide)
  obtain ⟨e, he, rfl⟩ := List.mem_map.mp hd
  exact sz_ent (h e he) hf
theorem sz_bools {bs : List Bool} (h : bs.length ≤ 3) : Sz (.tuple (bs.map .bool)) 100 1 := by
  refine (sz_tup (n := 5) (dp := 0) (k := 3) (fun d hd => ?_) (by rw [List.length_map]; exact h)).mono (by decide) (by decide)
  obtain ⟨b, _, rfl⟩ := List.mem_map.mp hd
  exact sz_bool b
/-! ### events -/
def Ev.d : Ev → PyData
  | .text c => .tuple [.str "text", .str (sg c)]
  | .act n ks => .tuple [.str "do", .str n, .str (mkS ks)]
def EvOk (ns : List Str) : Ev → Prop
  | .text c => isL c
  | .act n ks => n ∈ ns ∧ ks.length ≤ 4 ∧ ∀ c ∈ ks, isL c
theorem ev_da {K : PySem.W.Frag} {H : Hp} : ∀ {vs : List V} {es : List Ev}, Paired (EvAt H) vs es → DaAll K H vs (es.map Ev.d)
  | _, _, .nil => .nil
  | _, e :: _, .cons ⟨a, h1, h2⟩ r => by
    subst h1
    refine .cons ?_ (ev_da r)
    cases e with
    | text c => exact .tup (Or.inl h2) (.cons (.str _) (.cons (.str _) .nil))
    | act n ks => exact .tup (Or.inl h2) (.cons (.str _) (.cons (.str _) (.cons (.str _) .nil)))
theorem sz_ev {ns : List Str} {e : Ev} (h : EvOk ns e) (hn : ∀ n ∈ ns, NmOk n) : Sz e.d 400 1 := by
  cases e with
  | text c =>
    refine (sz_tup (n := 100) (dp := 0) (k := 2) (fun d hd => ?_) (Nat.le_refl _)).mono (by decide) (by decide)
    simp only [List.mem_cons, List.not_mem_nil, or_false] at hd
    rcases hd with rfl | rfl
    · exact sz_lit.2.2.1
    · exact sz_sg h
  | act n ks =>
    refine (sz_tup (n := 100) (dp := 0) (k := 3) (fun d hd => ?_) (Nat.le_refl _)).mono (by decide) (by decide)
    simp only [List.mem_cons, List.not_mem_nil, or_false] at hd
    rcases hd with rfl | rfl | rfl
    · exact sz_lit.2.2.2
    · exact sz_nm (hn n h.1)
    · exact sz_mkS h.2.2 h.2.1
def CmNs (bss : List (List BI)) (ns : List Str) : Prop := ∀ l ∈ bss, ∀ bi ∈ l, bi.cm = .non ∨ ∃ n ∈ ns, bi.cm = .str n
theorem cmd_ns {F : List (Key × V)} {bss : List (List BI)} {ns : List Str} (ok : CmNs bss ns) {x n : Str} (h : cmdOf F bss x = some n) : n ∈ ns := by
  unfold cmdOf at h
  cases e : winC F x bss 0 with
  | none => rw [e] at h; cases h
  | some q =>
    obtain ⟨i, j, c⟩ := q
    rw [e] at h
    obtain ⟨l, hl, bi, hb, rfl⟩ := winC_mem e
    rcases ok l hl bi hb with z | ⟨n', hn, z⟩
    · rw [z] at h; cases h
    · rw [z] at h
      cases h
      exact hn
theorem burst_ok {fl ns : List Str} {bss : List (List BI)} {eks : Str → List (Key × V)} (cn : CmNs bss ns) : ∀ {n : Nat} {ks : List Nat} {bs : List Bool}, (∀ c ∈ ks, isL c) → ∀ e ∈ (burstR fl bss eks n ks bs).1, EvOk ns e
  | 0, ks, bs, _, e, he => by cases he
  | n + 1, ks, bs, hL, e, he => by
    by_cases hk : ks = []
    · subst hk
      rw [burst_nil] at he
      cases he
    · rw [burst_step hk] at he
      rcases List.mem_cons.mp he with rfl | he
      · rcases first_kind (cmdOf (factsK fl bs) bss) ks with ⟨c, e, ec⟩ | ⟨nm, mm, e, _, m4, ec⟩
        · rw [e]
          cases ks with
          | nil => exact absurd rfl hk
          | cons c0 r =>
            rw [ec]
            exact hL c0 List.mem_cons_self
        · rw [e]
          exact ⟨cmd_ns cn ec, by rw [List.length_take]; omega, fun c hc => hL c (List.mem_of_mem_take hc)⟩
      · exact burst_ok cn (fun c hc => hL c (List.mem_of_mem_drop hc)) e he
theorem read_ok {fl ns : List Str} {bss : List (List BI)} {eks : Str → List (Key × V)} (cn : CmNs bss ns) : ∀ {us : List BU} {bs : List Bool}, (∀ u ∈ us, ∀ c ∈ u.1, isL c) → ∀ e ∈ (readR fl bss eks us bs).1, EvOk ns e
  | [], _, _, e, he => by cases he
  | u :: r, bs, h, e, he => by
    rcases List.mem_append.mp he with he | he
    · exact burst_ok cn (h u List.mem_cons_self) e he
    · exact read_ok cn (fun u hu => h u (List.mem_cons_of_mem _ hu)) e he
def klen : List BU → Nat
  | [] => 0
  | u :: r => u.1.length + klen r
theorem read_len {fl : List Str} {bss : List (List BI)} {eks : Str → List (Key × V)} : ∀ {us : List BU} {bs : List Bool}, bs.length = fl.length → (readR fl bss eks us bs).1.length ≤ klen us ∧ (readR fl bss eks us bs).2.length = fl.length
  | [], _, h => ⟨Nat.le_refl _, h⟩
  | u :: r, bs, h => by
    obtain ⟨a1, a2⟩ := burstR_len (bss := bss) (eks := eks) (n := u.1.length) (ks := u.1) h
    obtain ⟨b1, b2⟩ := read_len (bss := bss) (eks := eks) (us := r) (bs := bsAfter fl (burstR fl bss eks u.1.length u.1 bs).2 (setK u.2)) bsAfter_len
    refine ⟨?_, b2⟩
    show ((burstR fl bss eks u.1.length u.1 bs).1 ++ (readR fl bss eks r (bsAfter fl (burstR fl bss eks u.1.length u.1 bs).2 (setK u.2))).1).length ≤ _
    rw [List.length_append]
    show _ ≤ u.1.length + klen r
    omega
theorem bursts_sum {w : Int} : ∀ {es : List RE} {ks : List Nat} {last : Int}, klen (burstsM w es ks last) ≤ ks.length + es.length
  | [], ks, last => Nat.le_refl _
  | .set f b t :: r, ks, last => by
    have h := bursts_sum (w := w) (es := r) (ks := []) (last := last)
    simp only [List.length_nil] at h
    show ks.length + klen (burstsM w r [] last) ≤ ks.length + (r.length + 1)
    omega
  | .key c t :: r, ks, last => by
    have h1 := bursts_sum (w := w) (es := r) (ks := [c]) (last := t)
    have h2 := bursts_sum (w := w) (es := r) (ks := ks ++ [c]) (last := t)
    simp only [List.length_cons, List.length_nil, List.length_append] at h1 h2
    show klen (if ks ≠ [] ∧ w < t - last then (ks, none) :: burstsM w r [c] t else burstsM w r (ks ++ [c]) t) ≤ ks.length + (r.length + 1)
    split
    · show ks.length + klen (burstsM w r [c] t) ≤ _
      omega
    · omega
theorem bursts_L {w : Int} {ol : List Str} : ∀ {es : List RE} {ks : List Nat} {last : Int}, (∀ e ∈ es, okE ol e) → (∀ c ∈ ks, isL c) → ∀ u ∈ burstsM w es ks last, ∀ c ∈ u.1, isL c
  | [], ks, last, _, hk, u, hu => by
    rw [List.mem_singleton.mp hu]
    exact hk
  | .set f b t :: r, ks, last, ok, hk, u, hu => by
    rcases List.mem_cons.mp hu with rfl | hu
    · exact hk
    · exact bursts_L (fun e he => ok e (List.mem_cons_of_mem _ he)) (fun c hc => by cases hc) u hu
  | .key c t :: r, ks, last, ok, hk, u, hu => by
    have hu : u ∈ (if ks ≠ [] ∧ w < t - last then (ks, none) :: burstsM w r [c] t else burstsM w r (ks ++ [c]) t) := hu
    have ok' : ∀ e ∈ r, okE ol e := fun e he => ok e (List.mem_cons_of_mem _ he)
    have hc0 : isL c := ⟨(ok _ List.mem_cons_self).1, (ok _ List.mem_cons_self).2.1⟩
    by_cases hc : ks ≠ [] ∧ w < t - last
    · rw [if_pos hc] at hu
      rcases List.mem_cons.mp hu with rfl | hu
      · exact hk
      · exact bursts_L ok' (fun c' h' => by rw [List.mem_singleton.mp h']; exact hc0) u hu
    · rw [if_neg hc] at hu
      exact bursts_L ok' (fun c' h' => by
        rcases List.mem_append.mp h' with h' | h'
        · exact hk c' h'
        · rw [List.mem_singleton.mp h']; exact hc0) u hu
/-- the data of events and a state -/
def outD (r : List Ev × List Bool) : PyData := .tuple [.list (r.1.map Ev.d), .tuple (r.2.map .bool)]
theorem sz_out {fl ns ol : List Str} {bss : List (List BI)} {eks : Str → List (Key × V)} {wt : Int} {es : List RE} {bs : List Bool} (cn : CmNs bss ns) (hn : ∀ n ∈ ns, NmOk n) (oke : ∀ e ∈ es, okE ol e) (h300 : es.length ≤ 300) (hb : bs.length = fl.length) (h3 : fl.length ≤ 3) : Sz (outD (readR fl bss eks (burstsM wt es [] 0) bs)) 1000000 3 := by
  obtain ⟨l1, l2⟩ := read_len (bss := bss) (eks := eks) (us := burstsM wt es [] 0) hb
  have l3 := bursts_sum (w := wt) (es := es) (ks := []) (last := 0)
  simp only [List.length_nil] at l3
  have ok := read_ok (fl := fl) (eks := eks) (bs := bs) cn (bursts_L (w := wt) (ks := []) (last := 0) oke fun c hc => by cases hc)
  refine (sz_tup (n := 200000) (dp := 2) (k := 2) (fun d hd => ?_) (Nat.le_refl _)).mono (by decide) (by decide)
  simp only [List.mem_cons, List.not_mem_nil, or_false] at hd
  rcases hd with rfl | rfl
  · refine (sz_list (n := 400) (dp := 1) (k := 300) (fun d hd => ?_) (by rw [List.length_map]; omega)).mono (by decide) (by decide)
    obtain ⟨e, he, rfl⟩ := List.mem_map.mp hd
    exact sz_ev (ok e he) hn
  · exact (sz_bools (by omega)).mono (by decide) (by decide)
theorem da_out {K : PySem.W.Frag} {H : Hp} {p l s : Addr} {us : List V} {r : List Ev × List Bool} (hp : H p = some (.tup [.ref l, .ref s])) (hl : H l = some (.lst us)) (pe : Paired (EvAt H) us r.1) (hs : Rd H s (.tup (r.2.map V.bl))) : Da K H (.ref p) (outD r) :=
  .tup (Or.inl hp) (.cons (.lst (Or.inl hl) (ev_da pe)) (.cons (.tup hs (da_bools _)) .nil))
/-- a drawn keymap, with all that reading asks -/
theorem map_ko {K : PySem.W.Frag} {H : Hp} {v : V} (mh : MapH H v) : ∃ m t o cd ly fl, ∃ ol : List Str, ∃ ns bss wt cks eks d, v = .ref m ∧ MapK K H m t o cd ly fl ns bss wt cks eks d ∧ Rd H o (.tup (ol.map V.str)) ∧ (∀ f ∈ ol, f ∈ fl) ∧ (∀ f ∈ ol, NmOk f) ∧ ol.length ≤ 3 ∧ 1 ≤ wt ∧ wt ≤ 1000 ∧ CmOk bss cks ∧ CmNs bss ns ∧ ∀ n ∈ ns, NmOk n := by
  obtain ⟨d, hd, hm⟩ := map_da (K := K) mh
  obtain ⟨m, t, o, cd, ly, fl, ol, ns, ks, i, rfl, em, et, eo, s1, s2, s3, ⟨cks, c1, c2, c3, c4, _⟩, i1, i2, hly, _, k4, kc, hk⟩ := mh
  obtain ⟨bss, h1, h2, h3⟩ := lays_at ks hk
  obtain ⟨a1, a2⟩ := cmd_at c1 c2 c3 s3
  have l3 : fl.length ≤ 3 := s1.length_le
  have cn : CmNs bss ns := fun l hl bi hb => (h2 l hl bi hb).2.1
  refine ⟨m, t, o, cd, ly, fl, ol, ns, bss, i, cks, eksOf H cks, d, rfl, ⟨em, et, s1.nodup, l3, ⟨_, hly, h1⟩, hd, hm, flag_len hd em et, c1, a1, fun n c z => Nat.le_trans (a2 n c z) l3, h2, ?_, ?_, s3⟩, eo, fun f hf => s2.subset hf, fun f hf => nm_flags f (s1.subset (s2.subset hf)), Nat.le_trans s2.length_le l3, i1, i2, ?_, cn, fun n hn => nm_names n (s3.subset hn)⟩
  · have z := Paired.length h1
    rw [List.length_map] at z
    omega
  · rw [List.length_flatten, h3]
    exact kc
  · intro l hl bi hb
    rcases cn l hl bi hb with z | ⟨n, hn, z⟩
    · exact Or.inl z
    · obtain ⟨v, hv⟩ := c4 n hn
      exact Or.inr ⟨n, v, z, hv⟩
end Pr
set_option maxRecDepth 100000
set_option maxHeartbeats 2000000
/-! the law's own reading -/
namespace Pr
open PySem PySem.Spec PyProof.Rows L2 GxR Gx Rp Dl Pd Tx Zq
def lawR (fl : List Str) (bss : List (List BI)) (eks : Str → List (Key × V)) (wt : Int) : List RE → List Nat → Int → List Bool → List Ev × List Bool
  | [], ks, _, bs => burstR fl bss eks ks.length ks bs
  | .set f b _ :: r, ks, last, bs => ((burstR fl bss eks ks.length ks bs).1 ++ (lawR fl bss eks wt r [] last (bsAfter fl (burstR fl bss eks ks.length ks bs).2 (setK (some (f, b))))).1, (lawR fl bss eks wt r [] last (bsAfter fl (burstR fl bss eks ks.length ks bs).2 (setK (some (f, b))))).2)
  | .key c t :: r, ks, last, bs => if last + wt < t then ((burstR fl bss eks ks.length ks bs).1 ++ (lawR fl bss eks wt r [c] t (burstR fl bss eks ks.length ks bs).2).1, (lawR fl bss eks wt r [c] t (burstR fl bss eks ks.length ks bs).2).2)
      else lawR fl bss eks wt r (ks ++ [c]) t bs
theorem after_nil {fl : List Str} {bs : List Bool} (nd : fl.Nodup) (hl : bs.length = fl.length) : bsAfter fl bs [] = bs := by
  unfold bsAfter
  refine List.ext_getElem? fun i => ?_
  rw [List.getElem?_map]
  by_cases h1 : i < fl.length
  · have h2 : i < bs.length := by omega
    have hf : (factsK fl bs)[i]? = some ((Sum.inr fl[i] : Key), V.bl bs[i]) := by
      unfold factsK
      rw [List.getElem?_zip_eq_some]
      exact ⟨by rw [List.getElem?_map, List.getElem?_eq_getElem h1]; rfl, by rw [List.getElem?_map, List.getElem?_eq_getElem h2]; rfl⟩
    have ndk : ((factsK fl bs).map (·.1)).Nodup := by
      rw [facts_fst hl.symm]
      exact List.pairwise_map.mpr (nd.imp fun h z => h (Sum.inr.inj z))
    have hv := valV_nodup ndk (List.mem_of_getElem? hf)
    rw [List.getElem?_eq_getElem h1, List.getElem?_eq_getElem h2]
    show some (vB (resV (factsK fl bs) [] fl[i])) = some bs[i]
    unfold resV
    rw [hv]
    rfl
  · rw [List.getElem?_eq_none (by omega), List.getElem?_eq_none (by omega)]
    rfl
theorem law_read {fl : List Str} {bss : List (List BI)} {eks : Str → List (Key × V)} {wt : Int} (nd : fl.Nodup) : ∀ (es : List RE) (ks : List Nat) (last : Int) (bs : List Bool), bs.length = fl.length → lawR fl bss eks wt es ks last bs = readR fl bss eks (burstsM wt es ks last) bs
  | [], ks, last, bs, hl => by
    have hl2 := (burstR_len (bss := bss) (eks := eks) (n := ks.length) (ks := ks) hl).1
    show burstR fl bss eks ks.length ks bs = ((burstR fl bss eks ks.length ks bs).1 ++ [], bsAfter fl (burstR fl bss eks ks.length ks bs).2 [])
    rw [List.append_nil, after_nil nd hl2]
  | .set f b t :: r, ks, last, bs, hl => by
    have ih := law_read (bss := bss) (eks := eks) (wt := wt) nd r [] last (bsAfter fl (burstR fl bss eks ks.length ks bs).2 (setK (some (f, b)))) bsAfter_len
    show ((burstR fl bss eks ks.length ks bs).1 ++ (lawR fl bss eks wt r [] last (bsAfter fl (burstR fl bss eks ks.length ks bs).2 (setK (some (f, b))))).1, (lawR fl bss eks wt r [] last (bsAfter fl (burstR fl bss eks ks.length ks bs).2 (setK (some (f, b))))).2) = _
    rw [ih]
    rfl
  | .key c t :: r, ks, last, bs, hl => by
    have hl2 := (burstR_len (bss := bss) (eks := eks) (n := ks.length) (ks := ks) hl).1
    show (if last + wt < t then ((burstR fl bss eks ks.length ks bs).1 ++ (lawR fl bss eks wt r [c] t (burstR fl bss eks ks.length ks bs).2).1, (lawR fl bss eks wt r [c] t (burstR fl bss eks ks.length ks bs).2).2) else lawR fl bss eks wt r (ks ++ [c]) t bs) = readR fl bss eks (if ks ≠ [] ∧ wt < t - last then (ks, none) :: burstsM wt r [c] t else burstsM wt r (ks ++ [c]) t) bs
    by_cases h1 : last + wt < t
    · rw [if_pos h1]
      by_cases h2 : ks = []
      · subst h2
        rw [if_neg (fun z => z.1 rfl), burst_nil, law_read nd r [c] t bs hl]
        rfl
      · rw [if_pos ⟨h2, by omega⟩, law_read nd r [c] t _ hl2]
        show _ = ((burstR fl bss eks ks.length ks bs).1 ++ (readR fl bss eks (burstsM wt r [c] t) (bsAfter fl (burstR fl bss eks ks.length ks bs).2 [])).1, (readR fl bss eks (burstsM wt r [c] t) (bsAfter fl (burstR fl bss eks ks.length ks bs).2 [])).2)
        rw [after_nil nd hl2]
    · rw [if_neg h1, if_neg (fun z => h1 (by have := z.2; omega)), law_read nd r (ks ++ [c]) t bs hl]
end Pr
set_option maxRecDepth 100000
set_option maxHeartbeats 2000000
/-! readings of rows in pieces -/
namespace Pr
open PySem PySem.Spec PyProof.Rows L2 GxR Gx Rp Dl Pd Tx Zq Zs
def Ev.ks : Ev → List Nat
  | .text c => [c]
  | .act _ ks => ks
theorem first_ks {C : Str → Option Str} {ks : List Nat} (h : ks ≠ []) : (firstEv C ks).ks = ks.take (firstEv C ks).len := by
  rcases first_kind C ks with ⟨c, e, ec⟩ | ⟨n, m, e, _, _, _⟩ <;> rw [e]
  · cases ks with
    | nil => exact absurd rfl h
    | cons a r => rw [ec]; rfl
  · show ks.take m = ks.take (ks.take m).length
    rw [List.length_take]
    by_cases hm : m ≤ ks.length
    · rw [Nat.min_eq_left hm]
    · rw [Nat.min_eq_right (by omega), List.take_of_length_le (by omega), List.take_of_length_le (Nat.le_refl _)]
theorem burst_keys {fl : List Str} {bss : List (List BI)} {eks : Str → List (Key × V)} : ∀ {n : Nat} {ks : List Nat} {bs : List Bool}, ks.length ≤ n → ((burstR fl bss eks n ks bs).1.map Ev.ks).flatten = ks
  | 0, ks, bs, h => by
    rw [List.eq_nil_of_length_eq_zero (Nat.le_zero.mp h)]
    rfl
  | n + 1, ks, bs, h => by
    by_cases hk : ks = []
    · subst hk
      rw [burst_nil]
      rfl
    · rw [burst_step hk]
      obtain ⟨l1, _⟩ := first_len (C := cmdOf (factsK fl bs) bss) hk
      rw [List.map_cons, List.flatten_cons, burst_keys (by rw [List.length_drop]; omega), first_ks hk, List.take_append_drop]
def lettersR : List RE → List Nat
  | [] => []
  | .key c _ :: r => c :: lettersR r
  | .set _ _ _ :: r => lettersR r
theorem law_keys {fl : List Str} {bss : List (List BI)} {eks : Str → List (Key × V)} {wt : Int} : ∀ (es : List RE) (ks : List Nat) (last : Int) (bs : List Bool), ((lawR fl bss eks wt es ks last bs).1.map Ev.ks).flatten = ks ++ lettersR es
  | [], ks, last, bs => by
    show ((burstR fl bss eks ks.length ks bs).1.map Ev.ks).flatten = ks ++ []
    rw [burst_keys (Nat.le_refl _), List.append_nil]
  | .set f b t :: r, ks, last, bs => by
    show (((burstR fl bss eks ks.length ks bs).1 ++ (lawR fl bss eks wt r [] last (bsAfter fl (burstR fl bss eks ks.length ks bs).2 (setK (some (f, b))))).1).map Ev.ks).flatten = ks ++ lettersR r
    rw [List.map_append, List.flatten_append, burst_keys (Nat.le_refl _), law_keys r [] last _]
    rfl
  | .key c t :: r, ks, last, bs => by
    show ((if last + wt < t then ((burstR fl bss eks ks.length ks bs).1 ++ (lawR fl bss eks wt r [c] t (burstR fl bss eks ks.length ks bs).2).1, (lawR fl bss eks wt r [c] t (burstR fl bss eks ks.length ks bs).2).2) else lawR fl bss eks wt r (ks ++ [c]) t bs).1.map Ev.ks).flatten = ks ++ (c :: lettersR r)
    by_cases h : last + wt < t
    · rw [if_pos h]
      show (((burstR fl bss eks ks.length ks bs).1 ++ (lawR fl bss eks wt r [c] t (burstR fl bss eks ks.length ks bs).2).1).map Ev.ks).flatten = _
      rw [List.map_append, List.flatten_append, burst_keys (Nat.le_refl _), law_keys r [c] t _]
      rfl
    · rw [if_neg h, law_keys r (ks ++ [c]) t bs, List.append_assoc]
      rfl
/-- with nothing held the last time does not count -/
theorem law_last {fl : List Str} {bss : List (List BI)} {eks : Str → List (Key × V)} {wt : Int} : ∀ (es : List RE) (l1 l2 : Int) (bs : List Bool), lawR fl bss eks wt es [] l1 bs = lawR fl bss eks wt es [] l2 bs
  | [], _, _, _ => rfl
  | .set f b t :: r, l1, l2, bs => by
    show ((burstR fl bss eks 0 [] bs).1 ++ (lawR fl bss eks wt r [] l1 (bsAfter fl (burstR fl bss eks 0 [] bs).2 (setK (some (f, b))))).1, (lawR fl bss eks wt r [] l1 (bsAfter fl (burstR fl bss eks 0 [] bs).2 (setK (some (f, b))))).2) = ((burstR fl bss eks 0 [] bs).1 ++ (lawR fl bss eks wt r [] l2 (bsAfter fl (burstR fl bss eks 0 [] bs).2 (setK (some (f, b))))).1, (lawR fl bss eks wt r [] l2 (bsAfter fl (burstR fl bss eks 0 [] bs).2 (setK (some (f, b))))).2)
    rw [law_last r l1 l2]
  | .key c t :: r, l1, l2, bs => by
    have one : ∀ l : Int, lawR fl bss eks wt (.key c t :: r) [] l bs = lawR fl bss eks wt r [c] t bs := fun l => by
      show (if l + wt < t then ((burstR fl bss eks 0 [] bs).1 ++ (lawR fl bss eks wt r [c] t (burstR fl bss eks 0 [] bs).2).1, (lawR fl bss eks wt r [c] t (burstR fl bss eks 0 [] bs).2).2) else lawR fl bss eks wt r [c] t bs) = _
      rw [burst_nil]
      split
      · rfl
      · rfl
    rw [one, one]
theorem law_add {fl : List Str} {bss : List (List BI)} {eks : Str → List (Key × V)} {wt x : Int} : ∀ (es : List RE) (ks : List Nat) (last : Int) (bs : List Bool), lawR fl bss eks wt (es.map (RE.add x)) ks (last + x) bs = lawR fl bss eks wt es ks last bs
  | [], _, _, _ => rfl
  | .set f b t :: r, ks, last, bs => by
    show ((burstR fl bss eks ks.length ks bs).1 ++ (lawR fl bss eks wt (r.map (RE.add x)) [] (last + x) (bsAfter fl (burstR fl bss eks ks.length ks bs).2 (setK (some (f, b))))).1, (lawR fl bss eks wt (r.map (RE.add x)) [] (last + x) (bsAfter fl (burstR fl bss eks ks.length ks bs).2 (setK (some (f, b))))).2) = _
    rw [law_add r [] last]
    rfl
  | .key c t :: r, ks, last, bs => by
    show (if last + x + wt < t + x then ((burstR fl bss eks ks.length ks bs).1 ++ (lawR fl bss eks wt (r.map (RE.add x)) [c] (t + x) (burstR fl bss eks ks.length ks bs).2).1, (lawR fl bss eks wt (r.map (RE.add x)) [c] (t + x) (burstR fl bss eks ks.length ks bs).2).2) else lawR fl bss eks wt (r.map (RE.add x)) (ks ++ [c]) (t + x) bs)
      = (if last + wt < t then ((burstR fl bss eks ks.length ks bs).1 ++ (lawR fl bss eks wt r [c] t (burstR fl bss eks ks.length ks bs).2).1, (lawR fl bss eks wt r [c] t (burstR fl bss eks ks.length ks bs).2).2) else lawR fl bss eks wt r (ks ++ [c]) t bs)
    rw [law_add r [c] t, law_add r (ks ++ [c]) t]
    by_cases h : last + wt < t
    · rw [if_pos h, if_pos (by omega)]
    · rw [if_neg h, if_neg (by omega)]
/-- moved in time -/
theorem law_moved {fl : List Str} {bss : List (List BI)} {eks : Str → List (Key × V)} {wt x : Int} (es : List RE) (bs : List Bool) : lawR fl bss eks wt (es.map (RE.add x)) [] 0 bs = lawR fl bss eks wt es [] 0 bs := by
  rw [law_last (es.map (RE.add x)) 0 (0 + x), law_add]
/-- what comes first is apart from what was held -/
def Apart (wt last : Int) : List RE → Prop
  | .key _ t :: _ => last + wt < t
  | _ => True
theorem law_apart {fl : List Str} {bss : List (List BI)} {eks : Str → List (Key × V)} {wt : Int} : ∀ (es : List RE) (ks : List Nat) (last : Int) (bs : List Bool), Apart wt last es → lawR fl bss eks wt es ks last bs = ((burstR fl bss eks ks.length ks bs).1 ++ (lawR fl bss eks wt es [] 0 (burstR fl bss eks ks.length ks bs).2).1, (lawR fl bss eks wt es [] 0 (burstR fl bss eks ks.length ks bs).2).2)
  | [], ks, last, bs, _ => by
    show burstR fl bss eks ks.length ks bs = ((burstR fl bss eks ks.length ks bs).1 ++ [], (burstR fl bss eks ks.length ks bs).2)
    rw [List.append_nil]
  | .set f b t :: r, ks, last, bs, _ => by
    have e : lawR fl bss eks wt (.set f b t :: r) [] 0 (burstR fl bss eks ks.length ks bs).2 = lawR fl bss eks wt r [] last (bsAfter fl (burstR fl bss eks ks.length ks bs).2 (setK (some (f, b)))) := by
      show ((burstR fl bss eks 0 [] (burstR fl bss eks ks.length ks bs).2).1 ++ (lawR fl bss eks wt r [] 0 (bsAfter fl (burstR fl bss eks 0 [] (burstR fl bss eks ks.length ks bs).2).2 (setK (some (f, b))))).1, (lawR fl bss eks wt r [] 0 (bsAfter fl (burstR fl bss eks 0 [] (burstR fl bss eks ks.length ks bs).2).2 (setK (some (f, b))))).2) = _
      rw [burst_nil, law_last r last 0]
      rfl
    rw [e]
    rfl
  | .key c t :: r, ks, last, bs, h => by
    have h : last + wt < t := h
    have e : lawR fl bss eks wt (.key c t :: r) [] 0 (burstR fl bss eks ks.length ks bs).2 = lawR fl bss eks wt r [c] t (burstR fl bss eks ks.length ks bs).2 := by
      show (if 0 + wt < t then ((burstR fl bss eks 0 [] (burstR fl bss eks ks.length ks bs).2).1 ++ (lawR fl bss eks wt r [c] t (burstR fl bss eks 0 [] (burstR fl bss eks ks.length ks bs).2).2).1, (lawR fl bss eks wt r [c] t (burstR fl bss eks 0 [] (burstR fl bss eks ks.length ks bs).2).2).2) else lawR fl bss eks wt r [c] t (burstR fl bss eks ks.length ks bs).2) = _
      rw [burst_nil]
      split
      · rfl
      · rfl
    rw [e]
    exact if_pos h
/-- two rows behind each other -/
theorem law_app {fl : List Str} {bss : List (List BI)} {eks : Str → List (Key × V)} {wt : Int} (es' : List RE) : ∀ (es : List RE) (ks : List Nat) (last : Int) (bs : List Bool), (∀ l : Int, (l = last ∨ ∃ e ∈ es, l = e.t) → Apart wt l es') →
    lawR fl bss eks wt (es ++ es') ks last bs = ((lawR fl bss eks wt es ks last bs).1 ++ (lawR fl bss eks wt es' [] 0 (lawR fl bss eks wt es ks last bs).2).1, (lawR fl bss eks wt es' [] 0 (lawR fl bss eks wt es ks last bs).2).2)
  | [], ks, last, bs, h => law_apart es' ks last bs (h last (Or.inl rfl))
  | .set f b t :: r, ks, last, bs, h => by
    have ih := law_app (fl := fl) (bss := bss) (eks := eks) es' r [] last (bsAfter fl (burstR fl bss eks ks.length ks bs).2 (setK (some (f, b)))) fun l hl => h l (hl.imp id fun ⟨e, he, z⟩ => ⟨e, List.mem_cons_of_mem _ he, z⟩)
    show ((burstR fl bss eks ks.length ks bs).1 ++ (lawR fl bss eks wt (r ++ es') [] last (bsAfter fl (burstR fl bss eks ks.length ks bs).2 (setK (some (f, b))))).1, (lawR fl bss eks wt (r ++ es') [] last (bsAfter fl (burstR fl bss eks ks.length ks bs).2 (setK (some (f, b))))).2) = _
    rw [ih, ← List.append_assoc]
    rfl
  | .key c t :: r, ks, last, bs, h => by
    have h' : ∀ l : Int, (l = t ∨ ∃ e ∈ r, l = e.t) → Apart wt l es' := fun l hl => h l (Or.inr (hl.elim (fun z => ⟨.key c t, List.mem_cons_self, z⟩) fun ⟨e, he, z⟩ => ⟨e, List.mem_cons_of_mem _ he, z⟩))
    show (if last + wt < t then ((burstR fl bss eks ks.length ks bs).1 ++ (lawR fl bss eks wt (r ++ es') [c] t (burstR fl bss eks ks.length ks bs).2).1, (lawR fl bss eks wt (r ++ es') [c] t (burstR fl bss eks ks.length ks bs).2).2) else lawR fl bss eks wt (r ++ es') (ks ++ [c]) t bs) = _
    have e2 : lawR fl bss eks wt (.key c t :: r) ks last bs = if last + wt < t then ((burstR fl bss eks ks.length ks bs).1 ++ (lawR fl bss eks wt r [c] t (burstR fl bss eks ks.length ks bs).2).1, (lawR fl bss eks wt r [c] t (burstR fl bss eks ks.length ks bs).2).2) else lawR fl bss eks wt r (ks ++ [c]) t bs := rfl
    rw [e2, law_app es' r [c] t _ h', law_app es' r (ks ++ [c]) t bs h']
    by_cases hl : last + wt < t
    · rw [if_pos hl, if_pos hl, List.append_assoc]
    · rw [if_neg hl, if_neg hl]
/-- a flag that is set to what it is -/
theorem after_same {fl : List Str} {bs : List Bool} {f : Str} {b : Bool} (nd : fl.Nodup) (hl : bs.length = fl.length) {i : Nat} (hf : fl[i]? = some f) (hb : bs[i]? = some b) : bsAfter fl bs (setK (some (f, b))) = bs := by
  have e0 := after_nil nd hl
  rw [← e0]
  conv => rhs; rw [← e0]
  rw [e0]
  have : bsAfter fl bs (setK (some (f, b))) = bsAfter fl bs [] := by
    unfold bsAfter
    refine List.map_congr_left fun g hg => ?_
    by_cases e : f = g
    · subst e
      have hz : (factsK fl bs)[i]? = some ((Sum.inr f : Key), V.bl b) := by
        unfold factsK
        rw [List.getElem?_zip_eq_some]
        exact ⟨by rw [List.getElem?_map, hf]; rfl, by rw [List.getElem?_map, hb]; rfl⟩
      have ndk : ((factsK fl bs).map (·.1)).Nodup := by
        rw [facts_fst hl.symm]
        exact List.pairwise_map.mpr (nd.imp fun h z => h (Sum.inr.inj z))
      have hv := valV_nodup ndk (List.mem_of_getElem? hz)
      unfold resV
      rw [hv]
      show vB ((valV [((Sum.inr f : Key), V.bl b)] (Sum.inr f : Key)).getD _) = _
      rw [valV_pos (p := ((Sum.inr f : Key), V.bl b)) rfl]
      rfl
    · unfold resV
      show vB ((valV [((Sum.inr f : Key), V.bl b)] (Sum.inr g : Key)).getD _) = _
      rw [valV_neg (p := ((Sum.inr f : Key), V.bl b)) (fun z => e (Sum.inr.inj z))]
  rw [this, e0]
theorem law_keep {fl : List Str} {bss : List (List BI)} {eks : Str → List (Key × V)} {wt : Int} {f : Str} {b : Bool} {t : Int} (es : List RE) {bs : List Bool} (h : bsAfter fl bs (setK (some (f, b))) = bs) : lawR fl bss eks wt (.set f b t :: es) [] 0 bs = lawR fl bss eks wt es [] 0 bs := by
  show ((burstR fl bss eks 0 [] bs).1 ++ (lawR fl bss eks wt es [] 0 (bsAfter fl (burstR fl bss eks 0 [] bs).2 (setK (some (f, b))))).1, (lawR fl bss eks wt es [] 0 (bsAfter fl (burstR fl bss eks 0 [] bs).2 (setK (some (f, b))))).2) = _
  rw [burst_nil]
  show ([] ++ (lawR fl bss eks wt es [] 0 (bsAfter fl bs (setK (some (f, b))))).1, (lawR fl bss eks wt es [] 0 (bsAfter fl bs (setK (some (f, b))))).2) = _
  rw [h]
  rfl
/-- keys at one time are one burst -/
theorem law_burst {fl : List Str} {bss : List (List BI)} {eks : Str → List (Key × V)} {wt : Int} (hw : 1 ≤ wt) : ∀ (cs ks : List Nat) (last : Int) (bs : List Bool), (ks = [] ∨ last = 5) → lawR fl bss eks wt (cs.map fun c => RE.key c 5) ks last bs = burstR fl bss eks (ks ++ cs).length (ks ++ cs) bs
  | [], ks, last, bs, _ => by
    rw [List.append_nil]
    rfl
  | c :: r, ks, last, bs, h => by
    have ih := law_burst (fl := fl) (bss := bss) (eks := eks) hw r
    show (if last + wt < 5 then ((burstR fl bss eks ks.length ks bs).1 ++ (lawR fl bss eks wt (r.map fun c => RE.key c 5) [c] 5 (burstR fl bss eks ks.length ks bs).2).1, (lawR fl bss eks wt (r.map fun c => RE.key c 5) [c] 5 (burstR fl bss eks ks.length ks bs).2).2) else lawR fl bss eks wt (r.map fun c => RE.key c 5) (ks ++ [c]) 5 bs) = _
    rcases h with h | h
    · subst h
      rw [burst_nil]
      split
      · exact ih [c] 5 bs (Or.inr rfl)
      · exact ih [c] 5 bs (Or.inr rfl)
    · rw [if_neg (by omega), ih (ks ++ [c]) 5 bs (Or.inr rfl), List.append_assoc]
      rfl
end Pr
set_option maxRecDepth 100000
set_option maxHeartbeats 2000000
/-! a row moved in time -/
namespace Pr
open PySem PySem.Spec PyProof.Rows L2 GxR Gx Rp Dl Pd Tx Zq Zs
section
variable {P : Program} {w : World} {K : PySem.W.Frag} {mg : Str → Option Value} {base : Heap} {T : List Addr}
def spMoved : Sp := fun vs H Q _ => ∃ (L : Addr) (es : List RE) (x : Int), vs = [.ref L, .int x] ∧ RowAt H L es ∧ es.length ≤ 300 ∧ ∀ (H' : Hp) (L' : Addr), Ge H H' → Nw H L' → RowAt H' L' (es.map (RE.add x)) → Q (.ref L') H'
abbrev nMoved : List Str := ["_law_row", "_law_more", "_law_entry"]
end
end Pr
set_option maxRecDepth 100000
set_option maxHeartbeats 2000000
/-! what a burst's events are, by the table of bound sequences -/
namespace Pr
open PySem PySem.Spec PyProof.Rows L2 GxR Gx Rp Dl Pd Tx Zq Zs
theorem starts_take {ks : List Nat} {x : Str} : Txt.startswith (mkS ks) x = true ↔ x = mkS (ks.take x.length) := by
  have e : (mkS ks).cps.extract 0 (0 + x.length) = (ks.take x.length).toArray := by
    show ks.toArray.extract 0 (0 + x.length) = _
    rw [Nat.zero_add]
    simp
  unfold Txt.startswith PySem.Builtin.Str.subAt
  rw [e, Bool.and_eq_true]
  constructor
  · rintro ⟨_, h⟩
    have h := eq_of_beq h
    cases x with
    | mk c => exact congrArg Str.mk h.symm
  · intro h
    have l := congrArg Str.length h
    rw [mkS_len, List.length_take] at l
    refine ⟨decide_eq_true ?_, ?_⟩
    · rw [mkS_len]
      omega
    · have z : x.cps = (ks.take x.length).toArray := congrArg Str.cps h
      rw [← z]
      exact beq_self_eq_true _
theorem first_kind2 (C : Str → Option Str) (ks : List Nat) : (∃ c, firstEv C ks = .text c ∧ c = ks.headD 0 ∧ ∀ j, 0 < j → j ≤ 4 → C (mkS (ks.take j)) = none) ∨ ∃ n m, firstEv C ks = .act n (ks.take m) ∧ 1 ≤ m ∧ m ≤ 4 ∧ C (mkS (ks.take m)) = some n ∧ ∀ j, m < j → j ≤ 4 → C (mkS (ks.take j)) = none := by
  unfold firstEv
  cases e4 : C (mkS (ks.take 4)) with
  | some n => exact Or.inr ⟨n, 4, try_some e4, by omega, by omega, e4, fun j h1 h2 => absurd h1 (by omega)⟩
  | none =>
    rw [try_none e4]
    cases e3 : C (mkS (ks.take 3)) with
    | some n => exact Or.inr ⟨n, 3, try_some e3, by omega, by omega, e3, fun j h1 h2 => by rw [show j = 4 by omega]; exact e4⟩
    | none =>
      rw [try_none e3]
      cases e2 : C (mkS (ks.take 2)) with
      | some n => exact Or.inr ⟨n, 2, try_some e2, by omega, by omega, e2, fun j h1 h2 => by
          rcases (show j = 3 ∨ j = 4 by omega) with z | z <;> rw [z]
          · exact e3
          · exact e4⟩
      | none =>
        rw [try_none e2]
        cases e1 : C (mkS (ks.take 1)) with
        | some n => exact Or.inr ⟨n, 1, try_some e1, by omega, by omega, e1, fun j h1 h2 => by
            rcases (show j = 2 ∨ j = 3 ∨ j = 4 by omega) with z | z | z <;> rw [z]
            · exact e2
            · exact e3
            · exact e4⟩
        | none =>
          rw [try_none e1]
          exact Or.inl ⟨_, rfl, rfl, fun j h1 h2 => by
            rcases (show j = 1 ∨ j = 2 ∨ j = 3 ∨ j = 4 by omega) with z | z | z | z <;> rw [z]
            · exact e1
            · exact e2
            · exact e3
            · exact e4⟩
theorem firstC_hit {F : List (Key × V)} {x : Str} : ∀ {bs : List BI} {k j : Nat} {c : V}, firstC F x bs k = some (j, c) → ∃ bi ∈ bs, bi.x = x
  | [], _, _, _, h => by cases h
  | b :: r, k, j, c, h => by
    have h : (if hit F x b then some (k, b.cm) else firstC F x r (k + 1)) = some (j, c) := h
    cases e : hit F x b with
    | true =>
      unfold hit at e
      exact ⟨b, List.mem_cons_self, V.str.inj (of_decide_eq_true (Bool.and_eq_true_iff.mp e).1)⟩
    | false =>
      rw [e, if_neg Bool.false_ne_true] at h
      obtain ⟨bi, h1, h2⟩ := firstC_hit h
      exact ⟨bi, List.mem_cons_of_mem _ h1, h2⟩
theorem winC_hit {F : List (Key × V)} {x : Str} : ∀ {bss : List (List BI)} {k i j : Nat} {c : V}, winC F x bss k = some (i, j, c) → ∃ l ∈ bss, ∃ bi ∈ l, bi.x = x
  | [], _, _, _, _, h => by cases h
  | l :: r, k, i, j, c, h => by
    have h : (match firstC F x l 0 with | some (j, c) => some (k, j, c) | none => winC F x r (k + 1)) = some (i, j, c) := h
    cases e : firstC F x l 0 with
    | some q =>
      obtain ⟨j', c'⟩ := q
      obtain ⟨bi, h1, h2⟩ := firstC_hit e
      exact ⟨l, List.mem_cons_self, bi, h1, h2⟩
    | none =>
      rw [e] at h
      obtain ⟨l', h1, h2⟩ := winC_hit h
      exact ⟨l', List.mem_cons_of_mem _ h1, h2⟩
theorem cmd_len {F : List (Key × V)} {bss : List (List BI)} (hb : ∀ l ∈ bss, ∀ bi ∈ l, 1 ≤ bi.x.length ∧ bi.x.length ≤ 4) {x n : Str} (h : cmdOf F bss x = some n) : 1 ≤ x.length ∧ x.length ≤ 4 := by
  unfold cmdOf at h
  cases e : winC F x bss 0 with
  | none => rw [e] at h; cases h
  | some q =>
    obtain ⟨i, j, c⟩ := q
    obtain ⟨l, hl, bi, hi, rfl⟩ := winC_hit e
    exact hb l hl bi hi
/-- a bound sequence that begins a text -/
def Beg (C : Str → Option Str) (ks : List Nat) (x : Str) : Prop := (∃ n, C x = some n) ∧ Txt.startswith (mkS ks) x = true
theorem beg_text {C : Str → Option Str} {ks : List Nat} (hl : ∀ x n, C x = some n → 1 ≤ x.length ∧ x.length ≤ 4) {c : Nat} (e : firstEv C ks = .text c) (x : Str) : ¬ Beg C ks x := by
  rintro ⟨⟨n, hn⟩, hs⟩
  rcases first_kind2 C ks with ⟨c', _, _, h⟩ | ⟨n', m, e', _⟩
  · obtain ⟨l1, l2⟩ := hl x n hn
    have z := starts_take.mp hs
    have h := h x.length (by omega) l2
    rw [← z, hn] at h
    cases h
  · rw [e] at e'
    cases e'
theorem beg_act {C : Str → Option Str} {ks ks' : List Nat} (hl : ∀ x n, C x = some n → 1 ≤ x.length ∧ x.length ≤ 4) {n : Str} (e : firstEv C ks = .act n ks') : C (mkS ks') = some n ∧ Beg C ks (mkS ks') ∧ ∀ x, Beg C ks x → (∀ y, Beg C ks y → y.length ≤ x.length) → x = mkS ks' := by
  rcases first_kind2 C ks with ⟨c', e', _⟩ | ⟨n', m, e', m1, m4, hc, h⟩
  · rw [e] at e'
    cases e'
  · rw [e] at e'
    cases e'
    have lm : (mkS (ks.take m)).length = min m ks.length := by rw [mkS_len, List.length_take]
    have bm : Beg C ks (mkS (ks.take m)) := ⟨⟨n, hc⟩, starts_take.mpr (by
      rw [lm]
      by_cases hm : m ≤ ks.length
      · rw [Nat.min_eq_left hm]
      · rw [Nat.min_eq_right (by omega), List.take_of_length_le (by omega), List.take_of_length_le (Nat.le_refl _)])⟩
    refine ⟨hc, bm, ?_⟩
    rintro x ⟨⟨n2, hn2⟩, hs⟩ hmax
    have h1 := hmax _ bm
    have z := starts_take.mp hs
    obtain ⟨x1, x4⟩ := hl x n2 hn2
    have lx := congrArg Str.length z
    rw [mkS_len, List.length_take] at lx
    rw [lm] at h1
    by_cases hgt : m < x.length
    · have h2 := h x.length hgt x4
      rw [← z, hn2] at h2
      cases h2
    · rw [z]
      congr 1
      by_cases hm : m ≤ ks.length
      · rw [show x.length = m by omega]
      · rw [List.take_of_length_le (by omega), List.take_of_length_le (by omega)]
theorem burst_cons {fl : List Str} {bss : List (List BI)} {eks : Str → List (Key × V)} {n : Nat} {ks : List Nat} {bs fin : List Bool} {e : Ev} {r : List Ev} (h : burstR fl bss eks n ks bs = (e :: r, fin)) : ∃ n', n = n' + 1 ∧ ks ≠ [] ∧ e = firstEv (cmdOf (factsK fl bs) bss) ks ∧ burstR fl bss eks n' (ks.drop e.len) (nextB fl eks e bs) = (r, fin) := by
  cases n with
  | zero =>
    have h : (([], bs) : List Ev × List Bool) = (e :: r, fin) := h
    cases h
  | succ n' =>
    by_cases hk : ks = []
    · subst hk
      rw [burst_nil] at h
      cases h
    · rw [burst_step hk] at h
      have h1 := congrArg Prod.fst h
      have h2 := congrArg Prod.snd h
      injection h1 with h3 h4
      subst h3
      exact ⟨n', rfl, hk, rfl, Prod.ext h4 h2⟩
theorem burst_end {fl : List Str} {bss : List (List BI)} {eks : Str → List (Key × V)} {n : Nat} {ks : List Nat} {bs fin : List Bool} (hn : ks.length ≤ n) (h : burstR fl bss eks n ks bs = ([], fin)) : ks = [] ∧ fin = bs := by
  by_cases hk : ks = []
  · subst hk
    rw [burst_nil] at h
    cases h
    exact ⟨rfl, rfl⟩
  · cases n with
    | zero => exact absurd (List.eq_nil_of_length_eq_zero (Nat.le_zero.mp hn)) hk
    | succ n' =>
      rw [burst_step hk] at h
      have h1 := congrArg Prod.fst h
      cases h1
end Pr
set_option maxRecDepth 100000
set_option maxHeartbeats 2000000
namespace Pr
open PySem PySem.Spec PyProof.Rows L2 GxR Gx Rp Dl Pd Tx Zq
section
variable {P : Program} {w : World} {K : PySem.W.Frag} {mg : Str → Option Value} {base : Heap} {T : List Addr}
def spBound (K : PySem.W.Frag) (T : List Addr) : Sp := spBoundIn K T
end
end Pr
set_option maxRecDepth 100000
set_option maxHeartbeats 2000000
/-! max(texts, key=len); the index of a text in a tuple of texts -/
namespace Zm
open PySem PySem.Spec PyProof.Rows L2
theorem argBest_max (kf : Nat → Int) : ∀ k, argBest (fun i j => decide (kf i > kf j)) k ≤ k ∧ ∀ j, j ≤ k → kf j ≤ kf (argBest (fun i j => decide (kf i > kf j)) k)
  | 0 => ⟨Nat.le_refl _, fun j hj => by
    rw [Nat.le_zero.mp hj]
    exact Int.le_refl _⟩
  | k + 1 => by
    obtain ⟨i1, i2⟩ := argBest_max kf k
    by_cases hb : kf (k + 1) > kf (argBest (fun i j => decide (kf i > kf j)) k)
    · have ea : argBest (fun i j => decide (kf i > kf j)) (k + 1) = k + 1 := if_pos (decide_eq_true hb)
      rw [ea]
      refine ⟨Nat.le_refl _, fun j hj => ?_⟩
      rcases Nat.lt_or_ge j (k + 1) with h | h
      · have := i2 j (by omega)
        omega
      · rw [show j = k + 1 by omega]
        exact Int.le_refl _
    · have ea : argBest (fun i j => decide (kf i > kf j)) (k + 1) = argBest (fun i j => decide (kf i > kf j)) k := if_neg (fun z => hb (of_decide_eq_true z))
      rw [ea]
      refine ⟨Nat.le_succ_of_le i1, fun j hj => ?_⟩
      rcases Nat.lt_or_ge j (k + 1) with h | h
      · exact i2 j (by omega)
      · rw [show j = k + 1 by omega]
        omega
theorem str_at : ∀ {vs : List Value} {ys : List Str}, StrsAre vs ys → ∀ (j : Nat) (v : Value), vs[j]? = some v → ∃ y t, ys[j]? = some y ∧ v = .str y t
  | _, _, .cons y t _, 0, v, h => by
    cases h
    exact ⟨y, t, rfl, rfl⟩
  | _, _, .cons y t r, j + 1, v, h => str_at r j v h
theorem getD_of {α : Type} {xs : List α} {i : Nat} {y d : α} (h : xs[i]? = some y) : xs.getD i d = y := by rw [List.getD_eq_getElem?_getD, h]; rfl
section
variable {X : Cx}
theorem bt_max : bootBuiltins "max" = some (.builtin "max") := by decide +kernel
/-- what max asks of its list, and what it says of its answer -/
def rMax (K : PySem.W.Frag) (v : V) (H : Hp) (Q : VK) : Prop := ∃ (a : Addr) (ss : List Str), v = .ref a ∧ SqL K H a (ss.map V.str) ∧ ss ≠ [] ∧ (∀ x ∈ ss, x.length ≤ 1000000) ∧ ∀ x ∈ ss, (∀ y ∈ ss, y.length ≤ x.length) → Q (.str x) H
theorem max_run {pins : List (Addr × Obj)} {s : Shared} {σ : L2.St} {H : Hp} {v : V} {u : Value} {Q : VK} (hcalm : X.calm = true) (I : Inv X pins σ H s) (r : RelV v u) (h : rMax X.K v H Q) : wpAny (model X.prog X.w) X.A (call (.builtin "max") [u] [(Str.ofString "key", .builtin "len")]) (EP X pins σ Q) X.xe s := by
  obtain ⟨a, ss, rfl, hs, hne, hlen, q⟩ := h
  obtain ⟨its, rv, hl, hz⟩ := I.list hs
  cases r
  have hst := Vals.strs rv
  have el := PySem.SeqAt.strsAre_length hst
  have hpos : 0 < its.length := by
    rw [el]
    exact List.length_pos_iff.mpr hne
  refine call_max_walkKB (PySem.W.iter_listW (I.ok.hd hcalm) hl.isList fun s₂ e W st hfp hw hk => ?_)
  refine ⟨_, _, _, _, _, _, _, (fun s' => ∃ h' tk, s' = { s with heap := h', toks := tk } ∧ ∀ b o, s.heap.get? b = some o → h'.get? b = some o), (fun i k _ => ∃ t, k = .int ((ss.getD i ⟨#[]⟩).length : Int) t), (fun i j => decide (((ss.getD i ⟨#[]⟩).length : Int) > ((ss.getD j ⟨#[]⟩).length : Int))), rfl, W, st, hfp, by rw [List.size_toArray]; exact hpos, ?_, ⟨_, _, e, fun b o eb => by
    have := hk b o eb
    rw [e] at this
    exact this⟩, ?_⟩
  · refine ⟨?_, fun i k s1 s2 hv _ => hv, ?_, ?_⟩
    · rintro s1 s2 ⟨h', tk, rfl, hk'⟩ m
      refine ⟨s2.heap, s2.toks, ?_, fun b o eb => m.heap b o (fun hb => ?_) (hk' b o eb)⟩
      · obtain ⟨hp, g, d, tk2, os⟩ := s2
        have h1 : g = s.gens := m.gens
        have h2 : d = s.drawn := m.drawn
        have h3 : os = s.os := m.os
        rw [h1, h2, h3]
      · have hb1 := Heap.lt_size eb
        rcases List.mem_cons.mp hb with hb | hb
        · have hz2 : s₂.heap.objs.size = s.heap.objs.size + 1 := by
            rw [e]
            exact size_push' ..
          rw [hb, hz2] at hb1
          exact absurd hb1 (Nat.not_lt.mpr (Nat.le_succ _))
        · rw [List.mem_singleton.mp hb] at hb1
          exact Nat.lt_irrefl _ hb1
    · rintro i v s1 o Q' E' hi hP ⟨h', tk, rfl, hk'⟩ hst' hS q'
      obtain ⟨y, t, hy, rfl⟩ := str_at hst i v (by rw [← List.getElem?_toArray]; exact hP)
      have hy' : ss.getD i ⟨#[]⟩ = y := by rw [List.getD_eq_getElem?_getD, hy]; rfl
      refine P.len_str ?_ (q' _ _ ⟨h', _, rfl, hk'⟩ hst' hS ⟨_, by rw [hy']⟩ fun j k' z => z)
      have := hlen y (List.mem_of_getElem? hy)
      omega
    · rintro i j ki kj s1 Q' E' _ ⟨t1, rfl⟩ ⟨t2, rfl⟩ q'
      exact CmpOf.ints_gt (prog := X.prog) (w := X.w) (A := X.A.in1) (P := fun i v => ∃ t, v = .int ((ss.getD i ⟨#[]⟩).length : Int) t) (fun i => ((ss.getD i ⟨#[]⟩).length : Int)) (fun i v h => h) i j _ _ _ _ _ ⟨t1, rfl⟩ ⟨t2, rfl⟩ q'
  · rintro v s' hP ⟨h', tk, rfl, hk'⟩
    rw [List.size_toArray] at hP
    obtain ⟨m1, m2⟩ := argBest_max (fun i => ((ss.getD i ⟨#[]⟩).length : Int)) (its.length - 1)
    obtain ⟨y, t, hy, rfl⟩ := str_at hst _ v (by rw [← List.getElem?_toArray]; exact hP)
    have hy' := getD_of (d := (⟨#[]⟩ : Str)) hy
    refine ⟨.str y, H, I.kept hk', ⟨t, rfl⟩, q y (List.mem_of_getElem? hy) fun z hz => ?_⟩
    obtain ⟨j, hj, ej⟩ := List.getElem_of_mem hz
    have h1 := m2 j (by omega)
    have e2 : ss.getD j ⟨#[]⟩ = z := by
      rw [List.getD_eq_getElem?_getD, List.getElem?_eq_getElem hj, ej]
      rfl
    rw [e2, hy'] at h1
    omega
/-- max(e, key=len) -/
theorem pe_maxLen {e : Expr} {te : TE} {p p2 kp pos : Pos} (hcalm : X.calm = true) (hg : Gl X "max") (hm : X.mg "max" = none) (hg2 : Gl X "len") (hm2 : X.mg "len" = none) (ha : PE X e te) (hs : starEach [e] X.env = (false, eval e X.env) :: starEach [] X.env := by rfl) (he : backTo pos (starEach [e] X.env) = (false, eval e X.env) :: backTo pos (starEach [] X.env) := by rfl) (hpl : (backTo pos (starEach [e] X.env)).any (·.1) = false := by rfl) :
    PE X (.Call (.Name "max" p) [e] [⟨some "key", .Name "len" p2, kp⟩] pos) (fun σ H Q => te σ H fun v H1 => rMax X.K v H1 Q) := by
  refine ⟨fun pins s σ H Q I h => ?_⟩
  refine wpAny_Call_Name_kw (ld_blt I hg hm bt_max ?_)
  refine PyProof.Rows.callWith_kw (thn ((pa_cons ha pa_nil hs).run pos pins s σ H (fun vs H' => match vs with | [v] => rMax X.K v H' Q | _ => False) I h) fun us s1 ⟨vs, H1, I1, r1, q1⟩ => ?_) he hpl
  · obtain ⟨v, rfl⟩ : ∃ v, vs = [v] := by
      cases vs with
      | nil => exact q1.elim
      | cons v r =>
        cases r with
        | nil => exact ⟨v, rfl⟩
        | cons _ _ => exact q1.elim
    obtain ⟨u, rfl, ru⟩ := vals1 r1
    show wpAny _ _ (evalAll ((do let v ← eval (.Name "len" p2) X.env; standAt pos; pure v) :: [])) _ _ _
    refine wpAny_evalAll_cons (wpAny_bind (ld_blt I1 hg2 hm2 PySem.boot_len (wpAny_bind (wpAny_standAt (wpAny_pure ?_)))))
    refine wpAny_evalAll_nil ?_
    exact max_run hcalm I1 ru q1
/-- t.index(x), texts -/
theorem mt_tup_index : MtR X "tuple.index" (fun x vs H Q => ∃ (a : Addr) (ys : List Str) (k : Str), x = .ref a ∧ vs = [.str k] ∧ SqT X.K H a (ys.map V.str) ∧ k ∈ ys ∧ Q (.int (ys.idxOf k : Nat)) H) := by
  intro pins s σ H x vs v us Q I rx rv h
  obtain ⟨a, ys, k, rfl, rfl, hs, hk, q⟩ := h
  cases rx
  obtain ⟨u, rfl, t, rfl⟩ := rv.one
  obtain ⟨its, r, hl, hz⟩ := I.tuple hs
  refine PySem.SeqAt.tuple_index_strs (id hl) (Vals.strs r) hk ?_
  exact ⟨.int (ys.idxOf k : Nat), H, I.tok _, ⟨_, rfl⟩, q⟩
/-- t.index(x), t a tuple that is known as an object -/
theorem pe_tupIndex {o e : Expr} {to te : TE} {apos cpos : Pos} (ho : PE X o to) (he' : PE X e te) (hbase : attributeBase o "index" X.env (eval o X.env) = eval o X.env := by rfl) (hfew : ((backTo cpos (starEach [e] X.env)).all (fun x => !x.1) && (backToKw cpos (keywordEach [] X.env)).all (fun x => x.1.isSome) && decide ([e].length + ([] : List Keyword).length + (if ([] : List Keyword).isEmpty then 0 else 1) < 30)) = true := by rfl) (hline : (apos.endLine == cpos.line) = true := by rfl) (hs : starEach [e] X.env = (false, eval e X.env) :: starEach [] X.env := by rfl) (hplain : (backTo cpos (starEach [] X.env)).any (·.1) = false := by rfl) :
    PE X (.Call (.Attribute o "index" apos) [e] [] cpos) (fun σ H Q => to σ H fun x H1 => ∃ (a : Addr) (ot : Obj) (ys : List Str), x = .ref a ∧ H1 a = some (.frz ot (.tup (ys.map V.str))) ∧ ot.dict = none ∧ te σ H1 fun y H2 => ∃ k, y = .str k ∧ SqT X.K H2 a (ys.map V.str) ∧ k ∈ ys ∧ Q (.int (ys.idxOf k : Nat)) H2) := by
  refine ⟨fun pins s σ H Q I h => ?_⟩
  refine wpAny_Call_method_late hbase hfew hline rfl (thn (ho.run pins s σ H _ I h) fun v s1 ⟨x, H1, I1, r1, a, ot, ys, ex, ha, hdn, q1⟩ => ?_)
  subst ex
  obtain rfl : v = .ref a := r1
  obtain ⟨g1, _, its, _, o2, g2, gc, _⟩ := I1.hok a _ ha
  have eo : o2 = ot := by rw [g1] at g2; exact (Option.some.inj g2).symm
  subst eo
  refine ⟨"tuple", "tuple.index", PySem.F.plainAttrs_tuple, PySem.F.slot_tuple_index, PySem.F.type_tuple_index, ⟨o2, g1, gc⟩, fun a' ea => ?_, ?_⟩
  · cases ea
    exact ⟨o2, g1, hdn⟩
  have hA := (pa_cons he' pa_nil hs).run cpos pins s1 σ H1 (fun xs H2 => match xs with | [y] => ∃ k, y = .str k ∧ SqT X.K H2 a (ys.map V.str) ∧ k ∈ ys ∧ Q (.int (ys.idxOf k : Nat)) H2 | _ => False) I1 q1
  rw [hs] at hA ⊢
  refine Calls.callWith_builtin (by show (false || (backTo cpos (starEach [] X.env)).any (·.1)) = false; rw [hplain] <;> rfl) (Calls.evalArgs_plain ?_)
  refine thn hA fun us s2 ⟨vs, H2, I2, r2, q2⟩ => ?_
  obtain ⟨y, rfl⟩ : ∃ y, vs = [y] := by
    cases vs with
    | nil => exact q2.elim
    | cons v r =>
      cases r with
      | nil => exact ⟨v, rfl⟩
      | cons _ _ => exact q2.elim
  obtain ⟨k, ek, hsq, hk, q3⟩ := q2
  subst ek
  exact mt_tup_index pins s2 σ H2 (.ref a) [.str k] (.ref a) us Q I2 rfl r2 ⟨a, ys, k, rfl, rfl, hsq, hk, q3⟩
end
end Zm
set_option maxRecDepth 100000
set_option maxHeartbeats 2000000
/-! the law's test of a burst -/
namespace Pr
open PySem PySem.Spec PyProof.Rows L2 GxR Gx Rp Dl Pd Tx Zq Zs Zm
theorem txt_ok {x : Str} (h : ∀ c ∈ x.cps.toList, isL c) : PyData.strOk x = true := strOk_of fun c hc => by
  have := (h c hc).2
  omega
theorem mk_ok {ks : List Nat} (h : ∀ c ∈ ks, isL c) : PyData.strOk (mkS ks) = true := txt_ok fun c hc => h c (by simpa [mkS] using hc)
theorem lay_all {α : Type} {f : α → PyData} : ∀ {xs : List α}, (∀ x ∈ xs, PyData.canLay0 (f x) = true) → PyData.canLayAll0 (xs.map f) = true
  | [], _ => rfl
  | x :: r, h => by
    simp only [List.map_cons, PyData.canLayAll0, Bool.and_eq_true]
    exact ⟨h x List.mem_cons_self, lay_all fun y hy => h y (List.mem_cons_of_mem _ hy)⟩
theorem dep_all {α : Type} {f : α → PyData} {n : Nat} : ∀ {xs : List α}, (∀ x ∈ xs, (f x).depth ≤ n) → PyData.depthAll (xs.map f) ≤ n
  | [], _ => Nat.zero_le _
  | x :: r, h => by
    have a := h x List.mem_cons_self
    have b := dep_all (f := f) (n := n) (xs := r) fun y hy => h y (List.mem_cons_of_mem _ hy)
    simp only [List.map_cons, PyData.depthAll]
    omega
theorem sh_list {ds : List PyData} {n : Nat} (h1 : PyData.canLayAll0 ds = true) (h2 : PyData.depthAll ds ≤ n) (hn : n ≤ 60) : SeqAt.shaped (.list ds) = true := by
  unfold SeqAt.shaped
  simp only [PyData.canLay0, PyData.depth, h1, Bool.true_and]
  exact decide_eq_true (by omega)
theorem sh_tup {ds : List PyData} {n : Nat} (h1 : PyData.canLayAll0 ds = true) (h2 : PyData.depthAll ds ≤ n) (hn : n ≤ 60) : SeqAt.shaped (.tuple ds) = true := by
  unfold SeqAt.shaped
  simp only [PyData.canLay0, PyData.depth, h1, Bool.true_and]
  exact decide_eq_true (by omega)
theorem sh_txts {ys : List Str} (h : ∀ y ∈ ys, PyData.strOk y = true) : SeqAt.shaped (.list (ys.map .str)) = true :=
  sh_list (n := 0) (lay_all fun y hy => by simp only [PyData.canLay0, h y hy]) (dep_all fun y hy => Nat.le_refl _) (by decide)
theorem sh_bools {bs : List Bool} : SeqAt.shaped (.tuple (bs.map .bool)) = true :=
  sh_tup (n := 0) (lay_all fun y hy => rfl) (dep_all fun y hy => Nat.le_refl _) (by decide)
theorem sh_text {c : Nat} (h : isL c) : SeqAt.shaped (.tuple [.str "text", .str (sg c)]) = true := by
  have h1 : PyData.strOk (sg c) = true := mk_ok (ks := [c]) fun x hx => by rw [List.mem_singleton.mp hx]; exact h
  have h2 : PyData.strOk "text" = true := by decide +kernel
  refine sh_tup (n := 0) ?_ (Nat.le_refl _) (by decide)
  simp only [PyData.canLayAll0, PyData.canLay0, h1, h2, Bool.and_true]
theorem dp_txts {K : PySem.W.Frag} {H : Hp} : ∀ ys : List Str, DpAll K H (ys.map V.str) (ys.map PyData.str)
  | [] => .nil
  | y :: r => .cons (.str y) (dp_txts r)
theorem dp_bools {K : PySem.W.Frag} {H : Hp} : ∀ bs : List Bool, DpAll K H (bs.map V.bl) (bs.map PyData.bool)
  | [] => .nil
  | y :: r => .cons (.bl y) (dp_bools r)
theorem eqv_txts {ys : List Str} : PyData.eqv (.list (ys.map .str)) (.list []) = ys.isEmpty := by
  cases ys with
  | nil => rfl
  | cons e r => rfl
theorem eqv_self {d : PyData} (h : SeqAt.shaped d = true) : PyData.eqv d d = true := SeqAt.eqv_refl d (SeqAt.canLay_of_shaped h)
theorem pe_bmK {X : Cx} {K : PySem.W.Frag} {T id : String} {name : Str} {o e : Expr} {es : List Expr} {to : TE} {t : TA} {apos cpos : Pos} {r : V → List V → Hp → VK → Prop} (hK : X.K = K) (pa : PlainAttrs T) (slot : Slot T name id) (hty : typeOf (.builtin id) = pure (.type "method_descriptor")) (hm : MtR X id r) (ho : PE X o to) (ha : PA X (e :: es) t) (hbase : attributeBase o name X.env (eval o X.env) = eval o X.env := by rfl) (hfew : ((backTo cpos (starEach (e :: es) X.env)).all (fun x => !x.1) && (backToKw cpos (keywordEach [] X.env)).all (fun x => x.1.isSome) && decide ((e :: es).length + ([] : List Keyword).length + (if ([] : List Keyword).isEmpty then 0 else 1) < 30)) = true := by rfl) (hline : (apos.endLine == cpos.line) = true := by rfl) (hs : starEach (e :: es) X.env = (false, eval e X.env) :: starEach es X.env := by rfl) (hplain : (backTo cpos (starEach es X.env)).any (·.1) = false := by rfl) :
    PE X (.Call (.Attribute o name apos) (e :: es) [] cpos) (tBM K T r to t) := by
  subst hK
  exact pe_bm pa slot hty hm ho ha hbase hfew hline hs hplain
section
variable {P : Program} {w : World} {K : PySem.W.Frag} {mg : Str → Option Value} {base : Heap} {T : List Addr}
def spBRight (K : PySem.W.Frag) (T : List Addr) : Sp := fun vs H Q _ => ∃ m t o cd ly s fl bss bs wt cks eks, ∃ (ol : List Str) (cs : List Nat), vs = [.ref m, .ref s, .str (mkS cs)] ∧ KS K T H (.ref m) (.ref s) m t o cd ly s fl bss bs wt ∧ bss.flatten.length ≤ 100 ∧ CAt H fl cd cks eks ∧ CmOk bss cks ∧ Rd H o (.tup (ol.map V.str)) ∧ (∀ f ∈ ol, f ∈ fl) ∧ 1 ≤ wt ∧
  (∀ l ∈ bss, ∀ bi ∈ l, 1 ≤ bi.x.length ∧ bi.x.length ≤ 4) ∧ (∀ c ∈ cs, isL c) ∧ cs.length ≤ 100 ∧ ∀ H', Ge H H' → Q (.bl true) H'
abbrev nBRight : List Str := ["_law_keymap", "_law_state", "_law_keys", "_law_events", "_law_last", "_law_rest", "_law_event", "_law_table", "_law_begun", "_law_letter", "_law_sequence"]
end
end Pr
set_option maxRecDepth 100000
set_option maxHeartbeats 2000000
/-! rows behind each other: what is asked of the whole -/
namespace Pr
open PySem PySem.Spec PyProof.Rows L2 GxR Gx Rp Dl Pd Tx Zq Zs Zm
theorem joinL_flat : ∀ kss : List (List Nat), TL.joinL [] kss = kss.flatten
  | [] => rfl
  | [c] => by simp [TL.joinL]
  | c :: e :: r => by
    show c ++ ([] ++ TL.joinL [] (e :: r)) = _
    rw [joinL_flat (e :: r)]
    rfl
theorem join_mk (kss : List (List Nat)) : Txt.join (Str.ofString "") (kss.map mkS) = mkS kss.flatten := by
  have h := TL.tl_join (Str.ofString "") (kss.map mkS)
  have e : (kss.map mkS).map TL.tl = kss := by
    rw [List.map_map]
    exact (List.map_congr_left (g := id) fun x _ => rfl).trans (List.map_id _)
  have e2 : TL.tl (Str.ofString "") = [] := rfl
  rw [e, e2, joinL_flat, ← TL.join_eq] at h
  generalize Txt.join (Str.ofString "") (kss.map mkS) = z at h
  cases z with
  | mk c =>
    have h : c.toList = kss.flatten := h
    rw [← h]
    show _ = (⟨c.toList.toArray⟩ : Str)
    rw [Array.toArray_toList]
theorem sum_mk : ∀ kss : List (List Nat), ((kss.map mkS).map (·.length)).sum = kss.flatten.length
  | [] => rfl
  | c :: r => by
    rw [List.map_cons, List.map_cons, List.sum_cons, sum_mk r, mkS_len, List.flatten_cons, List.length_append]
theorem letters_app : ∀ es es' : List RE, lettersR (es ++ es') = lettersR es ++ lettersR es'
  | [], _ => rfl
  | .key c t :: r, es' => by
    show c :: lettersR (r ++ es') = _
    rw [letters_app r]
    rfl
  | .set f b t :: r, es' => letters_app r es'
theorem letters_le : ∀ es : List RE, (lettersR es).length ≤ es.length
  | [] => Nat.le_refl _
  | .key c t :: r => Nat.succ_le_succ (letters_le r)
  | .set f b t :: r => Nat.le_succ_of_le (letters_le r)
theorem letters_L {ol : List Str} : ∀ {es : List RE}, (∀ e ∈ es, okE ol e) → ∀ c ∈ lettersR es, isL c
  | .key c0 t :: r, h, c, hc => by
    rcases List.mem_cons.mp hc with rfl | hc
    · exact ⟨(h _ List.mem_cons_self).1, (h _ List.mem_cons_self).2.1⟩
    · exact letters_L (fun e he => h e (List.mem_cons_of_mem _ he)) c hc
  | .set f b t :: r, h, c, hc => letters_L (es := r) (fun e he => h e (List.mem_cons_of_mem _ he)) c hc
theorem sg_mk (cs : List Nat) : cs.map sg = (cs.map fun c => [c]).map mkS := by
  rw [List.map_map]
  rfl
theorem flat_one (cs : List Nat) : (cs.map fun c => [c]).flatten = cs := by
  induction cs with
  | nil => rfl
  | cons c r ih =>
    rw [List.map_cons, List.flatten_cons, ih]
    rfl
theorem ev_last (e : Ev) : atI e.vs (-1) = some (.str (mkS e.ks)) := by cases e <;> rfl
/-- a row behind another -/
theorem law_behind {fl : List Str} {bss : List (List BI)} {eks : Str → List (Key × V)} {wt x : Int} {es1 es2 : List RE} {bs : List Bool} (hx : es1 = [] ∨ ∀ l : Int, (l = 0 ∨ ∃ e ∈ es1, l = e.t) → l + wt < x) (h2 : ∀ e ∈ es2, 0 ≤ e.t) :
    lawR fl bss eks wt (es1 ++ es2.map (RE.add x)) [] 0 bs = ((lawR fl bss eks wt es1 [] 0 bs).1 ++ (lawR fl bss eks wt es2 [] 0 (lawR fl bss eks wt es1 [] 0 bs).2).1, (lawR fl bss eks wt es2 [] 0 (lawR fl bss eks wt es1 [] 0 bs).2).2) := by
  rcases hx with hx | hx
  · subst hx
    rw [List.nil_append, law_moved]
    have e : lawR fl bss eks wt [] [] 0 bs = ([], bs) := burst_nil
    rw [e]
    rfl
  · rw [law_app _ es1 [] 0 bs fun l hl => ?_, law_moved]
    have := hx l hl
    cases es2 with
    | nil => exact True.intro
    | cons e r =>
      have h0 := h2 e List.mem_cons_self
      cases e with
      | key c t =>
        have h0 : 0 ≤ t := h0
        show l + wt < t + x
        omega
      | set f b t => exact True.intro
/-- .. a setting between them that changes nothing -/
theorem law_behind2 {fl : List Str} {bss : List (List BI)} {eks : Str → List (Key × V)} {wt x : Int} {es1 es2 : List RE} {bs : List Bool} {f : Str} {b : Bool} (h : bsAfter fl (lawR fl bss eks wt es1 [] 0 bs).2 (setK (some (f, b))) = (lawR fl bss eks wt es1 [] 0 bs).2) :
    lawR fl bss eks wt (es1 ++ (.set f b x :: es2.map (RE.add x))) [] 0 bs = ((lawR fl bss eks wt es1 [] 0 bs).1 ++ (lawR fl bss eks wt es2 [] 0 (lawR fl bss eks wt es1 [] 0 bs).2).1, (lawR fl bss eks wt es2 [] 0 (lawR fl bss eks wt es1 [] 0 bs).2).2) := by
  rw [law_app (RE.set f b x :: es2.map (RE.add x)) es1 [] 0 bs fun l hl => (show Apart wt l (RE.set f b x :: es2.map (RE.add x)) from True.intro), law_keep _ h, law_moved]
/-- rows that were drawn are rows -/
theorem rd_mono {ol : List Str} {n : Nat} {B : Int} {es : List RE} (h : RowD ol n B es) (hn : n ≤ 300) : RowOk ol es := ⟨fun e he => (h.1 e he).1, h.2.1, by have := h.2.2; omega⟩
theorem okE_add {ol : List Str} {e : RE} {x : Int} (h : okE ol e) (ht : e.t ≤ 100000) (h0 : 0 ≤ x) (h1 : x ≤ 10000000) : okE ol (e.add x) := by
  have t0 := (okE.time h).1
  cases e with
  | key c tt => exact ⟨h.1, h.2.1, by have : 0 ≤ tt := h.2.2.1; omega, by have : tt ≤ 100000 := ht; omega⟩
  | set f b tt => exact ⟨h.1, by have : 0 ≤ tt := h.2.1; omega, by have : tt ≤ 100000 := ht; omega⟩
theorem row_add {ol : List Str} {n : Nat} {es : List RE} {x : Int} (h : RowD ol n 100000 es) (hn : n ≤ 300) (h0 : 0 ≤ x) (h1 : x ≤ 10000000) : RowOk ol (es.map (RE.add x)) := by
  refine ⟨fun e he => ?_, List.pairwise_map.mpr (h.2.1.imp fun {a b} h => by rw [RE.add_t, RE.add_t]; omega), by rw [List.length_map]; have := h.2.2; omega⟩
  obtain ⟨y, hy, rfl⟩ := List.mem_map.mp he
  exact okE_add (h.1 y hy).1 (h.1 y hy).2 h0 h1
theorem row_cat {ol : List Str} {n : Nat} {es es' : List RE} (h : RowD ol n 100000 es) (hn : n ≤ 100) (h' : RowOk ol es') (hl : es'.length ≤ 100) (hx : ∀ e ∈ es, ∀ e' ∈ es', e.t ≤ e'.t) : RowOk ol (es ++ es') := by
  refine ⟨fun e he => ?_, List.pairwise_append.mpr ⟨h.2.1, h'.2.1, hx⟩, by rw [List.length_append]; have := h.2.2; omega⟩
  rcases List.mem_append.mp he with he | he
  · exact (h.1 e he).1
  · exact h'.1 e he
/-- the time of a row's end -/
def endT (es : List RE) : Int := match es.getLast? with | some e => e.t | none => 0
theorem end_le {es : List RE} (h : es.Pairwise (fun a b => a.t ≤ b.t)) : ∀ e ∈ es, e.t ≤ endT es := fun e he => by
  unfold endT
  cases hz : es.getLast? with
  | none =>
    rw [List.getLast?_eq_none_iff.mp hz] at he
    cases he
  | some z =>
    obtain ⟨ys, rfl⟩ := List.getLast?_eq_some_iff.mp hz
    rw [List.pairwise_append] at h
    rcases List.mem_append.mp he with he | he
    · exact h.2.2 e he z (List.mem_singleton.mpr rfl)
    · rw [List.mem_singleton.mp he]
      exact Int.le_refl _
theorem end_bd {ol : List Str} {n : Nat} {es : List RE} (h : RowD ol n 100000 es) : 0 ≤ endT es ∧ endT es ≤ 100000 := by
  unfold endT
  cases hz : es.getLast? with
  | none => exact ⟨Int.le_refl _, by decide⟩
  | some z =>
    have hm := List.mem_of_getLast? hz
    exact ⟨(okE.time (h.1 z hm).1).1, (h.1 z hm).2⟩
theorem law_L {fl ns ol : List Str} {bss : List (List BI)} {eks : Str → List (Key × V)} {wt : Int} {es : List RE} {bs : List Bool} (nd : fl.Nodup) (hb : bs.length = fl.length) (cn : CmNs bss ns) (oke : ∀ e ∈ es, okE ol e) : (∀ e ∈ (lawR fl bss eks wt es [] 0 bs).1, EvOk ns e) ∧ (lawR fl bss eks wt es [] 0 bs).1.length ≤ es.length ∧ (lawR fl bss eks wt es [] 0 bs).2.length = fl.length := by
  rw [law_read nd es [] 0 bs hb]
  obtain ⟨l1, l2⟩ := read_len (bss := bss) (eks := eks) (us := burstsM wt es [] 0) hb
  have l3 := bursts_sum (w := wt) (es := es) (ks := []) (last := 0)
  simp only [List.length_nil] at l3
  exact ⟨read_ok cn (bursts_L (w := wt) (ks := []) (last := 0) oke fun c hc => by cases hc), by omega, l2⟩
theorem dp_ev {K : PySem.W.Frag} {H : Hp} : ∀ {vs : List V} {es : List Ev}, Paired (EvAt H) vs es → DpAll K H vs (es.map Ev.d)
  | _, _, .nil => .nil
  | _, e :: _, .cons ⟨a, h1, h2⟩ r => by
    subst h1
    refine .cons ?_ (dp_ev r)
    cases e with
    | text c => exact .tup (SqT.of h2) (.cons (.str _) (.cons (.str _) .nil))
    | act n ks => exact .tup (SqT.of h2) (.cons (.str _) (.cons (.str _) (.cons (.str _) .nil)))
theorem dp_out {K : PySem.W.Frag} {H : Hp} {p l s : Addr} {us : List V} {r : List Ev × List Bool} (hp : H p = some (.tup [.ref l, .ref s])) (hl : H l = some (.lst us)) (pe : Paired (EvAt H) us r.1) (hs : Rd H s (.tup (r.2.map V.bl))) : Dp K H (.ref p) (outD r) :=
  .tup (SqT.of hp) (.cons (.lst (SqL.of hl) (dp_ev pe)) (.cons (.tup (Or.inl hs) (dp_bools _)) .nil))
theorem sh_out {ns : List Str} {r : List Ev × List Bool} (h : ∀ e ∈ r.1, EvOk ns e) (hn : ∀ n ∈ ns, NmOk n) : SeqAt.shaped (outD r) = true := by
  have lit1 : PyData.strOk "text" = true := by decide +kernel
  have lit2 : PyData.strOk "do" = true := by decide +kernel
  have l1 : ∀ e ∈ r.1, PyData.canLay0 e.d = true := fun e he => by
    have ok := h e he
    cases e with
    | text c =>
      have h1 : PyData.strOk (sg c) = true := mk_ok (ks := [c]) fun x hx => by rw [List.mem_singleton.mp hx]; exact ok
      simp only [Ev.d, PyData.canLay0, PyData.canLayAll0, h1, lit1, Bool.and_true]
    | act n ks =>
      have h1 := mk_ok ok.2.2
      have h2 := nm_strOk (hn n ok.1)
      simp only [Ev.d, PyData.canLay0, PyData.canLayAll0, h1, h2, lit2, Bool.and_true]
  have d1 : ∀ e ∈ r.1, e.d.depth ≤ 1 := fun e he => (sz_ev (h e he) hn).2.2
  have a1 := lay_all l1
  have a2 := dep_all d1
  have b1 : PyData.canLayAll0 (r.2.map PyData.bool) = true := lay_all fun y hy => rfl
  have b2 : PyData.depthAll (r.2.map PyData.bool) ≤ 1 := dep_all fun y hy => Nat.zero_le _
  refine sh_tup (n := 2) ?_ ?_ (by decide)
  · simp only [PyData.canLayAll0, PyData.canLay0, a1, b1, Bool.and_true]
  · simp only [PyData.depthAll, PyData.depth]
    omega
/-- a slice of a tuple: either it, or a new one -/
theorem sl_tupE {X : Cx} : SlR X (fun x lo hi H Q => ∃ a xs, x = .ref a ∧ SqT X.K H a xs ∧ cutV xs lo hi = cutV xs lo hi ∧ (HT.sIx xs.length 0 lo = 0 ∧ HT.sIx xs.length xs.length hi = xs.length → cutV xs lo hi = xs) ∧ ∀ (aa : Addr) (H' : Hp), Ge H H' → SqT X.K H' aa (cutV xs lo hi) → Q (.ref aa) H') := by
  intro pins s σ H x v vl vu lo hi sl Q I rx hs pl pu h
  obtain ⟨a, xs, rfl, hx, _, hc, q⟩ := h
  exact sl_tupA pins s σ H (.ref a) v vl vu lo hi sl Q I rx hs pl pu ⟨a, xs, rfl, hx, fun hw => q a H (Ge.refl _) (by rw [hc hw]; exact hx), fun _ p hp => q p _ (Ge.new hp) (SqT.of upd_same)⟩
end Pr
set_option maxRecDepth 100000
set_option maxHeartbeats 2000000
namespace Pr
open PySem PySem.Spec PyProof.Rows L2 GxR Gx Rp Dl Pd Tx
/-- a def of the text as the top has written it -/
def DefAt (K : PySem.W.Frag) (x : Str) (st : Stmt) (f c : Addr) (fd : FuncData) : Prop := PySem.W.nsIn K mainGlobals x = some (some (.ref f)) ∧ (∃ (oc : Value) (od : Option Addr) (kV doc pm : Value) (an : Option Addr) (ct : Value) (osl : Array (Option Value)),
    fd = PySem.W.fnOf x x (defArgs st) (defBody st) (defScope st) .none kV doc pm an (.ref c) ct ∧ K.lookup f = some ⟨oc, od, .func fd, osl⟩) ∧ PySem.W.codeIn K (.ref c) x = true ∧ PySem.W.keepIn K (.ref f) = true
theorem def_mk {K : PySem.W.Frag} {x : Str} {st : Stmt} {f c : Addr} {oc kV doc pm ct : Value} {od an : Option Addr} {osl : Array (Option Value)} (a : PySem.W.nsIn K mainGlobals x = some (some (.ref f))) (l : K.lookup f = some ⟨oc, od, .func (PySem.W.fnOf x x (defArgs st) (defBody st) (defScope st) .none kV doc pm an (.ref c) ct), osl⟩)
    (h : PySem.W.codeIn K (.ref c) x = true) (k : PySem.W.keepIn K (.ref f) = true) : ∃ f c fd, DefAt K x st f c fd := ⟨f, c, _, a, ⟨oc, od, kV, doc, pm, an, ct, osl, rfl, l⟩, h, k⟩
def TabAt (K : PySem.W.Frag) (c Pt : Addr) : Prop := ∃ (e : Value) (dd : Option Addr) (vs : Array Value) (sl : Array (Option Value)), K.lookup c = some ⟨e, dd, .fields vs, sl⟩ ∧ vs[11]? = some (.ref Pt) ∧ K.lookup Pt = none
theorem tab_mk {K : PySem.W.Frag} {x : Str} {st : Stmt} {f c Pt : Addr} {oc kV doc pm ct e : Value} {od an dd : Option Addr} {osl sl : Array (Option Value)} {vs : Array Value} (a : PySem.W.nsIn K mainGlobals x = some (some (.ref f))) (l : K.lookup f = some ⟨oc, od, .func (PySem.W.fnOf x x (defArgs st) (defBody st) (defScope st) .none kV doc pm an (.ref c) ct), osl⟩)
    (h : PySem.W.codeIn K (.ref c) x = true) (k : PySem.W.keepIn K (.ref f) = true) (o : K.lookup c = some ⟨e, dd, .fields vs, sl⟩) (v : vs[11]? = some (.ref Pt)) (n : K.lookup Pt = none) : ∃ f c fd Pt, DefAt K x st f c fd ∧ TabAt K c Pt := ⟨f, c, _, Pt, ⟨a, ⟨oc, od, kV, doc, pm, an, ct, osl, rfl, l⟩, h, k⟩, e, dd, vs, sl, o, v, n⟩
theorem DefAt.F {K : PySem.W.Frag} {x : Str} {st : Stmt} {f c : Addr} {fd : FuncData} (d : DefAt K x st f c fd) : FunC K x st f fd c := by
  obtain ⟨a, ⟨oc, od, kV, doc, pm, an, ct, osl, e, l⟩, h, k⟩ := d
  exact ⟨⟨oc, od, kV, doc, pm, an, ct, osl, e, l, h⟩, k⟩
theorem DefAt.df {P : Program} {w : World} {K : PySem.W.Frag} {mg : Str → Option Value} {base h : Heap} {n : Nat} {x : Str} {st : Stmt} {f c : Addr} {fd : FuncData} {ps : List Str} {sp : Sp} (d : DefAt K x st f c fd) (X : K.In h) (G : h.Ns mainGlobals mg) (ok : FnOk P w K mg base CX0 n f fd ps sp)
    (hb : ∀ (kV doc pm : Value) (an : Option Addr) (cdv ct : Value) (us : List Value), us.length = ps.length → bindArgs (PySem.W.fnOf x x (defArgs st) (defBody st) (defScope st) .none kV doc pm an cdv ct) ⟨us, []⟩ = pure (ps.zip us)) : DfP P w K mg base n x ps sp :=
  ⟨f, fd, PySem.W.mg_of X G d.1, d.2.2.2, d.F.binds hb, ok⟩
theorem TabAt.say {q : Program} {K : PySem.W.Frag} {mg : Str → Option Value} {h : Heap} {x : Str} {st : Stmt} {f c Pt : Addr} {fd : FuncData} (t : TabAt K c Pt) (d : DefAt K x st f c fd) (TF : Lw.TabF q K mg h) (X : K.In h) (G : h.Ns mainGlobals mg) (hy : ((recsOf q).any fun d => d.name == x) = true) : h.get? Pt = some { cls := .none, data := .fields #[] } ∧ PySem.W.CodeHd h c Pt := by
  obtain ⟨a, ⟨oc, od, kV, doc, pm, an, ct, osl, rfl, l⟩, _, _⟩ := d
  obtain ⟨e, dd, vs, sl, k1, k2, k3⟩ := t
  exact TF x f c Pt _ _ e dd vs sl hy (PySem.W.mg_of X G a) l rfl rfl k1 k2
end Pr
set_option maxRecDepth 100000
set_option maxHeartbeats 4000000
/-! rules: a field as a target within a tuple, dict comprehensions, dict(d) -/
namespace Pr
open PySem PySem.Spec PyProof.Rows L2 GxR Gx Rp Dl Pd Tx Zq

def gFld (K : PySem.W.Frag) (ta : TE) (f : Str) : TG := fun v σ H Q => ta σ H fun x H2 => ∃ a C dx fs, x = .ref a ∧ H2 a = some (.ins C dx fs) ∧ Cls K C ∧ NoAttr K C f ∧ fs.length < 1000 ∧ Q σ (upd H2 a (.ins C dx (putF f v fs)))
theorem pg_fld {X : Cx} {o : Expr} {f : Str} {pos : Pos} {ta : TE} (ho : PE X o ta) : PG X (.Attribute o f pos) (gFld X.K ta f) := by
  refine ⟨fun pn st σ0 H0 v0 u0 QQ inv rel hh => ?_⟩
  rw [assign_Attribute]
  refine wpAny_bind (wpAny_holding (thn (ho.run pn st σ0 H0 _ inv hh) fun ov s1 ⟨x1, H1, I1, r1, q1⟩ => ?_))
  obtain ⟨a, C, dx, fs, ex, ea, cc, na, ll, q2⟩ := q1
  subst ex
  obtain rfl : ov = Value.ref a := r1
  refine wpAny_bind (wpAny_standAt (wpAny_bind (wpAny_holding (setattr_ok I1 ea cc na ll rel fun s3 I3 => ?_))))
  exact wpAny_release ⟨σ0, _, I3, q2⟩
theorem call_dictDK {X : Cx} : CallR X (.type "dict") (fun xs H Q => ∃ (a : Addr) (kvs : List (Key × V)), xs = [.ref a] ∧ Rd H a (.dK kvs) ∧ ∀ p, H p = none → Q (.ref p) (upd H p (.dK kvs))) := call_dictD
/-- name = {k: v for ..} -/
theorem ps_setDc {X : Cx} {i : Nat} {y : Str} {py : Pos} {kx vx tg iter : Expr} {ifs : List Expr} {scope : Scope} {own : List (Str × Nat)} {pos spos : Pos} {wi : TI} {g : TG} {tt : TT} {tk tv : TE} (hc : X.calm = true) (hN : X.N.Nodup) (hy : X.N[i]? = some y) (hyl : X.env.scope.names.lookup y = some .local)
    (hsw : swapsWith (.DictComp kx vx [⟨tg, iter, ifs, 0⟩] scope pos) (some (.Name y py)) spos.line X.env = pure true) (hi : PI X tg iter wi) (ok : BlkOk X.N X.env.scope scope own)
    (hg : ∀ (s0 : Shared) (H0 : Hp) (C0 : Addr) (c0 : List (Str × Addr)) (f0 : List Addr), PG (X.blk s0 H0 scope (compEnvC scope c0 C0 X.env) f0) tg g) (ht : ∀ (s0 : Shared) (H0 : Hp) (C0 : Addr) (c0 : List (Str × Addr)) (f0 : List Addr), PTs (X.blk s0 H0 scope (compEnvC scope c0 C0 X.env) f0) ifs tt)
    (hk : ∀ (s0 : Shared) (H0 : Hp) (C0 : Addr) (c0 : List (Str × Addr)) (f0 : List Addr), PE (X.blk s0 H0 scope (compEnvC scope c0 C0 X.env) f0) kx tk) (hv : ∀ (s0 : Shared) (H0 : Hp) (C0 : Addr) (c0 : List (Str × Addr)) (f0 : List Addr), PE (X.blk s0 H0 scope (compEnvC scope c0 C0 X.env) f0) vx tv) (hs : ∀ x0, foldedSetIterable iter X.env x0 = pure x0 := by intro _; rfl) :
    PS X (.Assign [.Name y py] (.DictComp kx vx [⟨tg, iter, ifs, 0⟩] scope pos) spos) (tAsg (tDc wi g tt tk tv (own.map (·.2))) (gName i)) := by
  refine ⟨fun pn st σ0 H0 D0 inv hh => ?_⟩
  rw [exec_Assign_Name_used _ _ _ _ hsw]
  refine wpAny_bind (wpAny_standAt (wpAny_bind ?_))
  show wpAny _ X.A (do let _ ← comprehension (.DictComp kx vx [⟨tg, iter, ifs, 0⟩] scope pos) scope X.env (firstIterPos [⟨tg, iter, ifs, 0⟩] pos) newDict false (eval iter X.env) (some (assign (.Name y py) X.env))) _ _ st
  have hh : tDc wi g tt tk tv (own.map (·.2)) σ0 H0 (fun x1 H1 => gName i x1 σ0 H1 D0.nx) := hh
  refine wpAny_bind (thn (dc_core (Qf := fun _ s9 => SP X pn D0 .next s9) hc hN inv hi ok hg ht hk hv hs hh fun L0 C0 s9 m0 H9 I9 q0 hn ff => ?_) fun _ s9 hq => wpAny_pure (wpAny_pure hq))
  show wpAny _ _ (assign (.Name y py) X.env (.ref L0)) _ _ _
  refine wpAny_assign_Name (store_ok2 (v := V.ref L0) I9 hN hy (.inl hyl) rfl (fun s2 I2 ⟨a2, sb2, ha2⟩ => ?_) (.inr hyl))
  obtain ⟨g0, g1, g2, g3, g4, g5⟩ := ff
  have hne : C0 ≠ a2 := by
    rcases ha2 with z2 | z2
    · rw [z2]; exact g1
    · exact fun e2 => g4 y a2 z2 e2.symm
  refine ⟨m0, hn.sameBut sb2 hne, fun h3 sb3 => ?_⟩
  exact ⟨_, H9, I2.turned (t' := s2.toks) (fun b2 o2 hb2 e2 => (sb3.2 b2 hb2).trans e2) g0 g1 g3 g4 g5, q0⟩
theorem sw_trueD {kx vx : Expr} {gs : List Comprehension} {scope : Scope} {pos py : Pos} {y : Str} {l : Nat} {env : Env} (hk : env.scope.kind = .function) (hy : env.scope.names.lookup y = some .local) (hl : (py.line == pos.line) = true)
    (ha : (scope.names.any fun (n, k) => n == y && (k == .local || k == .cell)) = false) : swapsWith (.DictComp kx vx gs scope pos) (some (.Name y py)) l env = pure true := by
  have ky : env.kindOf y = some .local := hy
  have hbk : env.blockKind = .function := by unfold Env.blockKind; rw [hk]; rfl
  unfold swapsWith
  simp only [hbk, ky, ha, Expr.pos, hl]
  rfl
def blkOwn (N : List Str) (scope : Scope) (own : List (Str × Nat)) : Bool :=
  scope.kind == .function && (scope.names.all fun y => scope.names.lookup y.1 == some y.2 && (!(y.2 == .free) && (!(y.2 == .local || y.2 == .cell) || ((own.map (·.1)).contains y.1 || !(N.contains y.1))))) && (own.all fun p => N[p.2]? == some p.1)
/-- a block that takes no name from outside -/
theorem blk_own {N : List Str} {sc scope : Scope} {own : List (Str × Nat)} (h : blkOwn N scope own = true) : BlkOk N sc scope own := by
  unfold blkOwn at h
  simp only [Bool.and_eq_true, List.all_eq_true, beq_iff_eq] at h
  obtain ⟨⟨h1, h2⟩, h3⟩ := h
  refine ⟨h1, fun y hy => (h2 y hy).1, h3, fun y hy e => ?_, fun y hy e => ?_⟩
  · have z := (h2 y hy).2.1
    rw [e] at z
    cases z
  · have z := (h2 y hy).2.2
    rw [Bool.or_eq_true] at z
    rcases z with z | z
    · rcases e with e | e <;> rw [e] at z <;> cases z
    · rw [Bool.or_eq_true] at z
      rcases z with z | z
      · exact Or.inl (by simpa using z)
      · exact Or.inr (by simpa using z)
end Pr
set_option maxRecDepth 100000
set_option maxHeartbeats 4000000
/-! the program: sequences that go on; settle with keys that may still go on -/
namespace Pr
open PySem PySem.Spec PyProof.Rows L2 GxR Gx Rp Dl Pd Tx Zq
def kS : Key → Str
  | .inr y => y
  | .inl _ => ""
def goesOn (y x : Str) : Bool := decide (y ≠ x) && PySem.Txt.startswith y x
def lonL (kvs : List (Key × V)) (x : Str) : List Str := (kvs.map fun q => kS q.1).filter fun y => goesOn y x
theorem sw_take (y x : Str) : PySem.Txt.startswith y x = decide (y.cps.toList.take x.cps.toList.length = x.cps.toList) := by
  unfold PySem.Txt.startswith PySem.Builtin.Str.subAt
  rw [Bool.eq_iff_iff, Bool.and_eq_true, decide_eq_true_iff, decide_eq_true_iff, beq_iff_eq, ← Array.toList_inj, Array.toList_extract]
  have e : (y.cps.toList.extract 0 (0 + x.length)) = y.cps.toList.take x.cps.toList.length := by
    show (y.cps.toList.drop 0).take (0 + x.length - 0) = _
    rw [List.drop_zero, Nat.zero_add, Nat.sub_zero]
    rfl
  rw [e]
  constructor
  · exact fun h => h.2
  · intro h
    refine ⟨?_, h⟩
    have l := congrArg List.length h
    rw [List.length_take] at l
    have e1 : y.cps.toList.length = y.length := rfl
    have e2 : x.cps.toList.length = x.length := rfl
    omega
theorem goes_on {ys ks : List Nat} : goesOn (mkS ys) (mkS ks) = true ↔ ∃ r, r ≠ [] ∧ ys = ks ++ r := by
  unfold goesOn
  rw [sw_take, Bool.and_eq_true, decide_eq_true_iff, decide_eq_true_iff]
  show mkS ys ≠ mkS ks ∧ ys.take ks.length = ks ↔ _
  constructor
  · rintro ⟨h1, h2⟩
    refine ⟨ys.drop ks.length, fun z => h1 ?_, ?_⟩
    · have := List.take_append_drop ks.length ys
      rw [h2, z, List.append_nil] at this
      rw [this]
    · have := List.take_append_drop ks.length ys
      rw [h2] at this
      exact this.symm
  · rintro ⟨r, h, rfl⟩
    refine ⟨fun z => h ?_, List.take_left⟩
    have z : ks ++ r = ks := by
      have := congrArg (fun s : Str => s.cps.toList) z
      exact this
    simpa using z
section
variable {P : Program} {w : World} {K : PySem.W.Frag} {mg : Str → Option Value} {base : Heap} {T : List Addr}
def spLon (K : PySem.W.Frag) : Sp := fun vs H Q _ => ∃ (d : Addr) (x : Str) (kvs : List (Key × V)), vs = [.ref d, .str x] ∧ H d = some (.dK kvs) ∧ kvs.length ≤ 100 ∧ (∀ q ∈ kvs, ∃ y, q.1 = Sum.inr y) ∧ ∀ H' L, Ge H H' → H' L = some (.lst ((lonL kvs x).map V.str)) → Q (.ref L) H'
abbrev nLon : List Str := ["table", "keys", "longer"]
end
end Pr
set_option maxRecDepth 100000
set_option maxHeartbeats 4000000
/-! the program: settle, the keys may still go on -/
namespace Pr
open PySem PySem.Spec PyProof.Rows L2 GxR Gx Rp Dl Pd Tx Zq
def lngB (kvs : List (Key × V)) (ks : List Nat) : Bool := !(lonL kvs (mkS ks)).isEmpty
def setlF (fl : List Str) (bss : List (List BI)) (eks : Str → List (Key × V)) : Nat → List Nat → List Bool → List Ev × List Bool × List Nat
  | 0, ks, bs => ([], bs, ks)
  | n + 1, ks, bs => if ks = [] ∨ lngB (boundK (factsK fl bs) bss) ks = true then ([], bs, ks) else
      ((firstEv (cmdOf (factsK fl bs) bss) ks) :: (setlF fl bss eks n (ks.drop (firstEv (cmdOf (factsK fl bs) bss) ks).len) (nextB fl eks (firstEv (cmdOf (factsK fl bs) bss) ks) bs)).1,
        (setlF fl bss eks n (ks.drop (firstEv (cmdOf (factsK fl bs) bss) ks).len) (nextB fl eks (firstEv (cmdOf (factsK fl bs) bss) ks) bs)).2)
theorem setl_stop {fl : List Str} {bss : List (List BI)} {eks : Str → List (Key × V)} {n : Nat} {ks : List Nat} {bs : List Bool} (h : ks = [] ∨ lngB (boundK (factsK fl bs) bss) ks = true) : setlF fl bss eks n ks bs = ([], bs, ks) := by
  cases n with
  | zero => rfl
  | succ n => exact if_pos h
theorem setl_step {fl : List Str} {bss : List (List BI)} {eks : Str → List (Key × V)} {n : Nat} {ks : List Nat} {bs : List Bool} (h : ¬ (ks = [] ∨ lngB (boundK (factsK fl bs) bss) ks = true)) : setlF fl bss eks (n + 1) ks bs =
    ((firstEv (cmdOf (factsK fl bs) bss) ks) :: (setlF fl bss eks n (ks.drop (firstEv (cmdOf (factsK fl bs) bss) ks).len) (nextB fl eks (firstEv (cmdOf (factsK fl bs) bss) ks) bs)).1,
        (setlF fl bss eks n (ks.drop (firstEv (cmdOf (factsK fl bs) bss) ks).len) (nextB fl eks (firstEv (cmdOf (factsK fl bs) bss) ks) bs)).2) := if_neg h
theorem setl_len {fl : List Str} {bss : List (List BI)} {eks : Str → List (Key × V)} : ∀ {n : Nat} {ks : List Nat} {bs : List Bool}, bs.length = fl.length → (setlF fl bss eks n ks bs).2.1.length = fl.length ∧ (setlF fl bss eks n ks bs).1.length + (setlF fl bss eks n ks bs).2.2.length ≤ ks.length
  | 0, ks, bs, h => ⟨h, by show 0 + ks.length ≤ ks.length; omega⟩
  | n + 1, ks, bs, h => by
    by_cases hk : ks = [] ∨ lngB (boundK (factsK fl bs) bss) ks = true
    · rw [setl_stop hk]
      exact ⟨h, by show 0 + ks.length ≤ ks.length; omega⟩
    · rw [setl_step hk]
      have hk0 : ks ≠ [] := fun z => hk (Or.inl z)
      obtain ⟨l1, l2⟩ := first_len (C := cmdOf (factsK fl bs) bss) hk0
      have h0 : 0 < ks.length := List.length_pos_iff.mpr hk0
      obtain ⟨q1, q2⟩ := setl_len (bss := bss) (eks := eks) (n := n) (ks := ks.drop (firstEv (cmdOf (factsK fl bs) bss) ks).len) (bs := nextB fl eks (firstEv (cmdOf (factsK fl bs) bss) ks) bs) (nextB_len h)
      refine ⟨q1, ?_⟩
      rw [List.length_drop] at q2
      simp only [List.length_cons]
      omega
theorem bound_inr {F : List (Key × V)} {bss : List (List BI)} : ∀ q ∈ boundK F bss, ∃ y, q.1 = Sum.inr y := fun q hq =>
  winAll_inr F bss.flatten [] (fun q hq => by cases hq) q (List.mem_filter.mp hq).1
section
variable {P : Program} {w : World} {K : PySem.W.Frag} {mg : Str → Option Value} {base : Heap} {T : List Addr}
def spSettleF (K : PySem.W.Frag) (T : List Addr) : Sp := fun vs H Q _ => ∃ m t o cd ly s fl bss bs wt cks eks ks, vs = [.ref m, .ref s, .str (mkS ks), .bl false] ∧ KS K T H (.ref m) (.ref s) m t o cd ly s fl bss bs wt ∧ bss.flatten.length ≤ 100 ∧ CAt H fl cd cks eks ∧ CmOk bss cks ∧ ks.length ≤ 400 ∧
  ∀ (H' : Hp) (p l s' : Addr) (us : List V), Ge H H' → Nw H l → H' p = some (.tup [.ref l, .ref s', .str (mkS (setlF fl bss eks ks.length ks bs).2.2)]) → H' l = some (.lst us) → Paired (EvAt H') us (setlF fl bss eks ks.length ks bs).1 → Rd H' s' (.tup ((setlF fl bss eks ks.length ks bs).2.1.map V.bl)) → Q (.ref p) H'
/-- either way -/
def setl2 (fl : List Str) (bss : List (List BI)) (eks : Str → List (Key × V)) (sil : Bool) (ks : List Nat) (bs : List Bool) : List Ev × List Bool × List Nat :=
  if sil = true then ((burstR fl bss eks ks.length ks bs).1, (burstR fl bss eks ks.length ks bs).2, []) else setlF fl bss eks ks.length ks bs
def spSettle2 (K : PySem.W.Frag) (T : List Addr) : Sp := fun vs H Q _ => ∃ m t o cd ly s fl bss bs wt cks eks ks sil, vs = [.ref m, .ref s, .str (mkS ks), .bl sil] ∧ KS K T H (.ref m) (.ref s) m t o cd ly s fl bss bs wt ∧ bss.flatten.length ≤ 100 ∧ CAt H fl cd cks eks ∧ CmOk bss cks ∧ ks.length ≤ 400 ∧
  ∀ (H' : Hp) (p l s' : Addr) (us : List V), Ge H H' → Nw H l → H' p = some (.tup [.ref l, .ref s', .str (mkS (setl2 fl bss eks sil ks bs).2.2)]) → H' l = some (.lst us) → Paired (EvAt H') us (setl2 fl bss eks sil ks bs).1 → Rd H' s' (.tup ((setl2 fl bss eks sil ks bs).2.1.map V.bl)) → Q (.ref p) H'
end
end Pr
set_option maxRecDepth 100000
set_option maxHeartbeats 4000000
/-! the program: copy_of -/
namespace Pr
open PySem PySem.Spec PyProof.Rows L2 GxR Gx Rp Dl Pd Tx Zq
theorem daKv_flat {K : PySem.W.Frag} {H H' : Hp} : ∀ {ek : List (Key × V)} {ds : List (PyData × PyData)}, (∀ q ∈ ek, ∃ b, q.2 = V.bl b) → DaKv K H ek ds → DaKv K H' ek ds
  | _, _, _, .nil => .nil
  | (k, v) :: r, _, h, .cons h1 h2 => by
    obtain ⟨b, e⟩ := h (k, v) List.mem_cons_self
    have e : v = V.bl b := e
    subst e
    refine .cons ?_ (daKv_flat (fun q hq => h q (List.mem_cons_of_mem _ hq)) h2)
    cases h1
    exact .bl _
theorem da_dictC {K : PySem.W.Frag} {H H' : Hp} {c c' : Addr} {ek : List (Key × V)} {d : PyData} (h : H c = some (.dK ek)) (h' : H' c' = some (.dK ek)) (hb : ∀ q ∈ ek, ∃ b, q.2 = V.bl b) (hd : Da K H (.ref c) d) : Da K H' (.ref c') d := by
  cases hd with
  | lst q1 _ => have e := rd_one (fun o w z => by cases z) (fun o w z => by cases z) q1 (Or.inl h); cases e
  | tup q1 _ => have e := rd_one (fun o w z => by cases z) (fun o w z => by cases z) q1 (Or.inl h); cases e
  | dct q1 q2 q3 =>
    have e := rd_one (fun o w z => by cases z) (fun o w z => by cases z) q1 (Or.inl h)
    cases e
    exact .dct (Or.inl h') q2 (daKv_flat hb q3)
theorem da_bC {K : PySem.W.Frag} {H H' : Hp} {fl : List Str} {v v' : V} {bi : BI} {d : PyData} (hcm : bi.cm = .non ∨ ∃ n, bi.cm = .str n) (h : BAt H fl v bi) (h' : BAt H' fl v' bi) (hd : Da K H v d) : Da K H' v' d := by
  obtain ⟨b, c, rfl, h1, h2, _, h4⟩ := h
  obtain ⟨b', c', rfl, h1', h2', _, _⟩ := h'
  cases hd with
  | lst q1 _ => have e := rd_one (fun o w z => by cases z) (fun o w z => by cases z) q1 (Or.inl h1); cases e
  | dct q1 _ _ => have e := rd_one (fun o w z => by cases z) (fun o w z => by cases z) q1 (Or.inl h1); cases e
  | tup q1 q2 =>
    have e := rd_one (fun o w z => by cases z) (fun o w z => by cases z) q1 (Or.inl h1)
    cases e
    cases q2 with
    | cons k1 r1 => cases r1 with
      | cons k2 r2 => cases r2 with
        | cons k3 r3 =>
          cases r3
          refine .tup (Or.inl h1') (.cons ?_ (.cons (da_dictC h2 h2' (fun q hq => by obtain ⟨f, b0, e, _⟩ := h4 q hq; exact ⟨b0, by rw [e]⟩) k2) (.cons ?_ .nil)))
          · cases k1
            exact .str _
          · rcases hcm with e | ⟨n, e⟩
            · rw [e] at k3 ⊢
              cases k3
              exact .non
            · rw [e] at k3 ⊢
              cases k3
              exact .str _
theorem da_pairC {K : PySem.W.Frag} {H H' : Hp} {β : Type} {F F' : V → β → Prop} : ∀ {vs vs' : List V} {bs : List β} {ds : List PyData}, (∀ v v' b d, b ∈ bs → F v b → F' v' b → Da K H v d → Da K H' v' d) → Paired F vs bs → Paired F' vs' bs → DaAll K H vs ds → DaAll K H' vs' ds
  | _, _, _, _, _, .nil, .nil, .nil => .nil
  | _, _, _, _, f, .cons a r, .cons a' r', .cons x y => .cons (f _ _ _ _ List.mem_cons_self a a' x) (da_pairC (fun v v' b d hb => f v v' b d (List.mem_cons_of_mem _ hb)) r r' y)
theorem da_lC {K : PySem.W.Frag} {H H' : Hp} {fl : List Str} {v v' : V} {bis : List BI} {d : PyData} (hcm : ∀ bi ∈ bis, bi.cm = .non ∨ ∃ n, bi.cm = .str n) (h : LAt H fl v bis) (h' : LAt H' fl v' bis) (hd : Da K H v d) : Da K H' v' d := by
  obtain ⟨b, vs, rfl, h1, h2⟩ := h
  obtain ⟨b', vs', rfl, h1', h2'⟩ := h'
  cases hd with
  | lst q1 _ => have e := rd_one (fun o w z => by cases z) (fun o w z => by cases z) q1 (Or.inl h1); cases e
  | dct q1 _ _ => have e := rd_one (fun o w z => by cases z) (fun o w z => by cases z) q1 (Or.inl h1); cases e
  | tup q1 q2 =>
    have e := rd_one (fun o w z => by cases z) (fun o w z => by cases z) q1 (Or.inl h1)
    cases e
    exact .tup (Or.inl h1') (da_pairC (fun v v' b d hb x y z => da_bC (hcm b hb) x y z) h2 h2' q2)
theorem da_kC {K : PySem.W.Frag} {H H' : Hp} {fl : List Str} {ly ly' : Addr} {bss : List (List BI)} {d : PyData} (hcm : ∀ l ∈ bss, ∀ bi ∈ l, bi.cm = .non ∨ ∃ n, bi.cm = .str n) (h : KAt H fl ly bss) (h' : KAt H' fl ly' bss) (hd : Da K H (.ref ly) d) : Da K H' (.ref ly') d := by
  obtain ⟨vs, h1, h2⟩ := h
  obtain ⟨vs', h1', h2'⟩ := h'
  cases hd with
  | lst q1 _ => have e := rd_one (fun o w z => by cases z) (fun o w z => by cases z) q1 (Or.inl h1); cases e
  | dct q1 _ _ => have e := rd_one (fun o w z => by cases z) (fun o w z => by cases z) q1 (Or.inl h1); cases e
  | tup q1 q2 =>
    have e := rd_one (fun o w z => by cases z) (fun o w z => by cases z) q1 (Or.inl h1)
    cases e
    exact .tup (Or.inl h1') (da_pairC (fun v v' b d hb x y z => da_lC (hcm b hb) x y z) h2 h2' q2)
/-- one command and its copy -/
def CoC (H : Hp) (fl : List Str) (eks : Str → List (Key × V)) (q : Key × V) (q' : Key × V) : Prop := ∃ n c c', q = (Sum.inr n, V.ref c) ∧ q' = (Sum.inr n, V.ref c') ∧ EAt H fl c' (eks n)
theorem da_cC {K : PySem.W.Frag} {H H' : Hp} {fl : List Str} {eks : Str → List (Key × V)} : ∀ {cks cks' : List (Key × V)} {ds : List (PyData × PyData)}, (∀ q ∈ cks, ∃ n c, q = (Sum.inr n, V.ref c) ∧ EAt H fl c (eks n)) → Paired (CoC H' fl eks) cks cks' → DaKv K H cks ds → DaKv K H' cks' ds
  | _, _, _, _, .nil, .nil => .nil
  | (k, v) :: r, _, _, h, .cons ⟨n, c, c', e1, e2, h3⟩ r', .cons x y => by
    subst e2
    obtain ⟨n', c0, e3, h4⟩ := h (k, v) List.mem_cons_self
    cases e1
    cases e3
    exact .cons (da_dictC h4.1 h3.1 (fun q hq => by obtain ⟨f, b0, e, _⟩ := h4.2.2 q hq; exact ⟨b0, by rw [e]⟩) x) (da_cC (fun q hq => h q (List.mem_cons_of_mem _ hq)) r' y)
theorem pi_tupK {X : Cx} {K : PySem.W.Frag} {tg e : Expr} {te : TE} (h : X.K = K) (he : PE X e te) : PI X tg e (iTup K te) := h ▸ pi_tup he
theorem coc_keys {H : Hp} {fl : List Str} {eks : Str → List (Key × V)} : ∀ {cks cks' : List (Key × V)}, Paired (CoC H fl eks) cks cks' → cks'.map (·.1) = cks.map (·.1)
  | _, _, .nil => rfl
  | _, _, .cons ⟨n, c, c', e1, e2, _⟩ r => by
    rw [List.map_cons, List.map_cons, coc_keys r, e1, e2]
theorem coc_mem {H : Hp} {fl : List Str} {eks : Str → List (Key × V)} : ∀ {cks cks' : List (Key × V)}, Paired (CoC H fl eks) cks cks' → ∀ q' ∈ cks', ∃ q ∈ cks, CoC H fl eks q q'
  | _, _, .nil, q', h => by cases h
  | _, _, .cons a r, q', h => by
    rcases List.mem_cons.mp h with rfl | h
    · exact ⟨_, List.mem_cons_self, a⟩
    · obtain ⟨q, h1, h2⟩ := coc_mem r q' h
      exact ⟨q, List.mem_cons_of_mem _ h1, h2⟩
section
variable {P : Program} {w : World} {K : PySem.W.Frag} {mg : Str → Option Value} {base : Heap} {T : List Addr}
def spCpy (K : PySem.W.Frag) : Sp := fun vs H Q _ => ∃ (m t o cd ly : Addr) (fl ns : List Str) (bss : List (List BI)) (wt : Int) (cks : List (Key × V)) (eks : Str → List (Key × V)) (d : PyData), vs = [.ref m] ∧ MapK K H m t o cd ly fl ns bss wt cks eks d ∧ cks.length ≤ 100 ∧ ∀ (H' : Hp) (m' cd' ly' : Addr) (cks' : List (Key × V)), Ge H H' → MapK K H' m' t o cd' ly' fl ns bss wt cks' eks d → (CmOk bss cks → CmOk bss cks') → cks'.length = cks.length → Q (.ref m') H'
abbrev nCpy : List Str := ["keymap", "flags", "outside", "commands", "layers", "wait", "own_commands", "own_layers", "name", "bindings", "keys", "condition", "command"]
end
end Pr
set_option maxRecDepth 100000
set_option maxHeartbeats 2000000
/-! data that a law draws: bounds; expressions that give data; lists of candidates -/
namespace Pr
open PySem PySem.Spec PyProof.Rows L2 GxR Gx Rp Dl Pd Tx
mutual
def wg : PyData → Nat
  | .none => 5
  | .bool _ => 5
  | .int _ => 50
  | .str x => 10 * x.length + 2
  | .list xs => wgA xs + 4
  | .tuple xs => wgA xs + 4
  | .dict kvs => wgK kvs + 4
def wgA : List PyData → Nat
  | [] => 0
  | x :: xs => wg x + 2 + wgA xs
def wgK : List (PyData × PyData) → Nat
  | [] => 0
  | (k, v) :: r => wg k + wg v + 4 + wgK r
end
mutual
/-- plain signs, ints of few digits -/
def tm : PyData → Bool
  | .int i => decide (i.natAbs < 10 ^ 40)
  | .str x => x.cps.toList.all (fun c => decide (c < 128))
  | .list xs => tmA xs
  | .tuple xs => tmA xs
  | .dict kvs => tmK kvs
  | _ => true
def tmA : List PyData → Bool
  | [] => true
  | x :: xs => tm x && tmA xs
def tmK : List (PyData × PyData) → Bool
  | [] => true
  | (k, v) :: r => tm k && tm v && tmK r
end
mutual
theorem tm_shown : ∀ d : PyData, tm d = true → d.shown.length ≤ wg d ∧ d.showable = true
  | .none, _ => ⟨by decide, rfl⟩
  | .bool b, _ => by cases b <;> exact ⟨by decide, rfl⟩
  | .int i, h => by
    have h' : decide (i.natAbs < 10 ^ 40) = true := h
    have h0 := of_decide_eq_true h'
    refine ⟨?_, ?_⟩
    · have z := PySem.int_text_length_le10 (k := 40) (by decide) h0
      show (Str.ofString (toString i)).length ≤ 50
      rw [PySem.ofString_length]
      omega
    · show decide (i.natAbs.log2 < 1920) = true
      refine decide_eq_true ?_
      have h2 : i.natAbs < 2 ^ 1920 := Nat.lt_of_lt_of_le h0 (Nat.le_trans (show 10 ^ 40 ≤ 2 ^ 200 by decide +kernel) (Nat.pow_le_pow_right (by decide) (by decide)))
      by_cases hz : i.natAbs = 0
      · rw [hz]; decide
      · exact (Nat.log2_lt hz).mpr h2
  | .str x, h => by
    have h' : x.cps.toList.all (fun c => decide (c < 128)) = true := h
    exact ⟨StrLaws.reprText_len x fun c hc => Nat.lt_trans (of_decide_eq_true (List.all_eq_true.mp h' c hc)) (by decide), rfl⟩
  | .list xs, h => by
    have h' : tmA xs = true := by simpa only [tm] using h
    obtain ⟨a, b⟩ := tmA_shown xs h'
    refine ⟨?_, by simpa only [PyData.showable] using b⟩
    have := listText_le (PyData.shownAll xs)
    simp only [PyData.shown, wg]
    omega
  | .tuple xs, h => by
    have h' : tmA xs = true := by simpa only [tm] using h
    obtain ⟨a, b⟩ := tmA_shown xs h'
    refine ⟨?_, by simpa only [PyData.showable] using b⟩
    have := tupleText_le (PyData.shownAll xs)
    simp only [PyData.shown, wg]
    omega
  | .dict kvs, h => by
    have h' : tmK kvs = true := by simpa only [tm] using h
    obtain ⟨a, b⟩ := tmK_shown kvs h'
    refine ⟨?_, by simpa only [PyData.showable] using b⟩
    have := dictText_le (PyData.shownKv kvs)
    simp only [PyData.shown, wg]
    omega
theorem tmA_shown : ∀ xs : List PyData, tmA xs = true → piled (PyData.shownAll xs) ≤ wgA xs ∧ PyData.showableAll xs = true
  | [], _ => ⟨by decide, rfl⟩
  | x :: xs, h => by
    have h' : (tm x && tmA xs) = true := by simpa only [tmA] using h
    rw [Bool.and_eq_true] at h'
    obtain ⟨a, b⟩ := tm_shown x h'.1
    obtain ⟨a', b'⟩ := tmA_shown xs h'.2
    refine ⟨?_, by simp only [PyData.showableAll, b, b', Bool.and_self]⟩
    simp only [PyData.shownAll, wgA, piled_cons]
    omega
theorem tmK_shown : ∀ kvs : List (PyData × PyData), tmK kvs = true → piled (PyData.shownKv kvs) ≤ wgK kvs ∧ PyData.showableKv kvs = true
  | [], _ => ⟨by decide, rfl⟩
  | (k, v) :: r, h => by
    have h' : (tm k && tm v && tmK r) = true := by simpa only [tmK] using h
    rw [Bool.and_eq_true, Bool.and_eq_true] at h'
    obtain ⟨a, b⟩ := tm_shown k h'.1.1
    obtain ⟨a1, b1⟩ := tm_shown v h'.1.2
    obtain ⟨a', b'⟩ := tmK_shown r h'.2
    refine ⟨?_, by simp only [PyData.showableKv, b, b1, b', Bool.and_self]⟩
    have e : (((": " : String) : Str)).length = 2 := rfl
    simp only [PyData.shownKv, wgK, piled_cons, strLen_append, e]
    omega
end
theorem len_wgA : ∀ xs : List PyData, xs.length ≤ wgA xs
  | [] => Nat.le_refl _
  | x :: xs => by
    have := len_wgA xs
    simp only [wgA, List.length_cons]
    omega
theorem len_wgK : ∀ xs : List (PyData × PyData), xs.length ≤ wgK xs
  | [] => Nat.le_refl _
  | (k, v) :: xs => by
    have := len_wgK xs
    simp only [wgK, List.length_cons]
    omega
mutual
theorem wg_small : ∀ d : PyData, wg d ≤ 100000 → small d = true
  | .none, _ => rfl
  | .bool b, _ => rfl
  | .int i, h => rfl
  | .str x, h => by
    have h : 10 * x.length + 2 ≤ 100000 := by simpa only [wg] using h
    show decide (x.length ≤ 100000) = true
    exact decide_eq_true (by omega)
  | .list xs, h => by
    have h : wgA xs + 4 ≤ 100000 := by simpa only [wg] using h
    have := len_wgA xs
    simp only [small, wgA_small xs (by omega), Bool.and_true]
    exact decide_eq_true (by omega)
  | .tuple xs, h => by
    have h : wgA xs + 4 ≤ 100000 := by simpa only [wg] using h
    have := len_wgA xs
    simp only [small, wgA_small xs (by omega), Bool.and_true]
    exact decide_eq_true (by omega)
  | .dict kvs, h => by
    have h : wgK kvs + 4 ≤ 100000 := by simpa only [wg] using h
    have := len_wgK kvs
    simp only [small, wgK_small kvs (by omega), Bool.and_true]
    exact decide_eq_true (by omega)
theorem wgA_small : ∀ xs : List PyData, wgA xs ≤ 100000 → smallAll xs = true
  | [], _ => rfl
  | x :: xs, h => by
    simp only [wgA] at h
    simp only [smallAll, wg_small x (by omega), wgA_small xs (by omega), Bool.and_self]
theorem wgK_small : ∀ xs : List (PyData × PyData), wgK xs ≤ 100000 → smallKv xs = true
  | [], _ => rfl
  | (k, v) :: xs, h => by
    simp only [wgK] at h
    simp only [smallKv, wg_small k (by omega), wg_small v (by omega), wgK_small xs (by omega), Bool.and_self]
end
/-- data of at most W signs, at most n deep; g: no dict within -/
structure Good (g : Bool) (W n : Nat) (d : PyData) : Prop where
  t : tm d = true
  w : wg d ≤ W
  n : d.depth ≤ n
  g : g = true → d.canLay0 = true
structure GoodA (g : Bool) (W n : Nat) (ds : List PyData) : Prop where
  t : tmA ds = true
  w : wgA ds ≤ W
  n : PyData.depthAll ds ≤ n
  g : g = true → PyData.canLayAll0 ds = true
section
variable {g g1 g2 : Bool} {W W1 W2 n n1 n2 : Nat} {d : PyData} {ds : List PyData}
theorem Good.mono {g' : Bool} {W' n' : Nat} (h : Good g W n d) (hW : W ≤ W') (hn : n ≤ n') (hg : g' = true → g = true) : Good g' W' n' d := ⟨h.t, Nat.le_trans h.w hW, Nat.le_trans h.n hn, fun z => h.g (hg z)⟩
theorem Good.nil : GoodA g W n [] := ⟨rfl, Nat.zero_le _, Nat.zero_le _, fun _ => rfl⟩
theorem Good.cons (h : Good g1 W1 n1 d) (h' : GoodA g2 W2 n2 ds) : GoodA (g1 && g2) (W1 + 2 + W2) (max n1 n2) (d :: ds) := by
  refine ⟨by simp only [tmA, h.t, h'.t, Bool.and_self], ?_, ?_, fun z => ?_⟩
  · have := h.w
    have := h'.w
    simp only [wgA]
    omega
  · have := h.n
    have := h'.n
    simp only [PyData.depthAll]
    omega
  · rw [Bool.and_eq_true] at z
    simp only [PyData.canLayAll0, h.g z.1, h'.g z.2, Bool.and_self]
theorem Good.tup (h : GoodA g W n ds) : Good g (W + 4) (n + 1) (.tuple ds) := by
  refine ⟨by simpa only [tm] using h.t, ?_, ?_, fun z => by simpa only [PyData.canLay0] using h.g z⟩
  · have := h.w
    simp only [wg]
    omega
  · have := h.n
    simp only [PyData.depth]
    omega
theorem Good.lst (h : GoodA g W n ds) : Good g (W + 4) (n + 1) (.list ds) := by
  refine ⟨by simpa only [tm] using h.t, ?_, ?_, fun z => by simpa only [PyData.canLay0] using h.g z⟩
  · have := h.w
    simp only [wg]
    omega
  · have := h.n
    simp only [PyData.depth]
    omega
theorem GoodA.of (h : ∀ d ∈ ds, Good g W n d) {k : Nat} (hk : ds.length ≤ k) : GoodA g (k * (W + 2)) n ds := by
  have A : tmA ds = true ∧ wgA ds ≤ ds.length * (W + 2) ∧ PyData.depthAll ds ≤ n ∧ (g = true → PyData.canLayAll0 ds = true) := by
    clear hk
    induction ds with
    | nil => exact ⟨rfl, Nat.zero_le _, Nat.zero_le _, fun _ => rfl⟩
    | cons x r ih =>
      obtain ⟨a, b, c, e⟩ := ih fun d hd => h d (List.mem_cons_of_mem _ hd)
      have hx := h x List.mem_cons_self
      refine ⟨by simp only [tmA, hx.t, a, Bool.and_self], ?_, ?_, fun z => by simp only [PyData.canLayAll0, hx.g z, e z, Bool.and_self]⟩
      · have := hx.w
        have : (r.length + 1) * (W + 2) = r.length * (W + 2) + (W + 2) := Nat.succ_mul _ _
        simp only [wgA, List.length_cons]
        omega
      · have := hx.n
        simp only [PyData.depthAll]
        omega
  exact ⟨A.1, Nat.le_trans A.2.1 (Nat.mul_le_mul_right _ hk), A.2.2.1, A.2.2.2⟩
theorem Good.none : Good true 5 0 .none := ⟨rfl, Nat.le_refl _, Nat.le_refl _, fun _ => rfl⟩
theorem Good.bool {b : Bool} : Good true 5 0 (.bool b) := ⟨rfl, Nat.le_refl _, Nat.le_refl _, fun _ => rfl⟩
theorem Good.int {i : Int} (h : i.natAbs < 10 ^ 40) : Good true 50 0 (.int i) := ⟨decide_eq_true h, Nat.le_refl _, Nat.le_refl _, fun _ => rfl⟩
theorem Good.str {x : Str} {k : Nat} (h : ∀ c ∈ x.cps.toList, c < 128) (hk : x.length ≤ k) : Good true (10 * k + 2) 0 (.str x) :=
  ⟨List.all_eq_true.mpr fun c hc => decide_eq_true (h c hc), by show 10 * x.length + 2 ≤ _; omega, Nat.le_refl _, fun _ => strOk_of fun c hc => Nat.lt_trans (h c hc) (by decide)⟩
theorem Good.shown (h : Good g W n d) : d.showable = true ∧ d.shown.length ≤ W := ⟨(tm_shown d h.t).2, Nat.le_trans (tm_shown d h.t).1 h.w⟩
theorem Good.small (h : Good g W n d) (hW : W ≤ 100000) : small d = true := wg_small d (Nat.le_trans h.w hW)
theorem Good.shaped (h : Good true W n d) (hn : n ≤ 64) : SeqAt.shaped d = true := by
  unfold SeqAt.shaped
  rw [h.g rfl, decide_eq_true (Nat.le_trans h.n hn)]
  rfl
end
/-! ### the heap without the pen and without lists that still change -/
open Classical in
noncomputable def wos (S : Addr → Prop) (H : Hp) : Hp := fun b => if S b then none else H b
/-- the pen, and the lists that change: all stand -/
structure Wd (p cc : Addr) (S : Addr → Prop) (H : Hp) (a : Nat) : Prop where
  pen : PenAt H p cc a
  sp : S p
  al : ∀ b, S b → ∃ xs, H b = some (.lst xs)
section
variable {p : Addr} {S S' : Addr → Prop} {H H' : Hp} {K : PySem.W.Frag} {v : V} {vs : List V} {d : PyData} {ds : List PyData} {xs : List V}
theorem wos_in {b : Addr} (h : S b) : wos S H b = none := if_pos h
theorem wos_ne {b : Addr} (h : ¬ S b) : wos S H b = H b := if_neg h
theorem wos_ge : Ge (wos S H) H := by
  refine ⟨fun a o e _ => ?_, fun a ⟨ps, e, t⟩ => ⟨ps, ?_, t⟩⟩ <;> by_cases z : S a
  · rw [wos_in z] at e; cases e
  · rw [wos_ne z] at e; exact e
  · rw [wos_in z] at e; cases e
  · rw [wos_ne z] at e; exact e
theorem wos_mono (h : ∀ a o, ¬ S a → H a = some o → (∀ ps, o ≠ .tbl ps) → ¬ S' a ∧ H' a = some o) (ht : ∀ a, ¬ S a → TabG H a → ¬ S' a ∧ TabG H' a) : Ge (wos S H) (wos S' H') := by
  refine ⟨fun a o e n => ?_, fun a ⟨ps, e, t⟩ => ?_⟩
  · by_cases z : S a
    · rw [wos_in z] at e; cases e
    · rw [wos_ne z] at e
      obtain ⟨u1, u2⟩ := h a o z e n
      rw [wos_ne u1]
      exact u2
  · by_cases z : S a
    · rw [wos_in z] at e; cases e
    · rw [wos_ne z] at e
      obtain ⟨u1, qs, e', t'⟩ := ht a z ⟨ps, e, t⟩
      exact ⟨qs, by rw [wos_ne u1]; exact e', t'⟩
theorem GeP.w (g : GeP p H H') (hS : S p) : Ge (wos S H) (wos S H') := wos_mono (fun a o z e n => ⟨z, g.1 a o (fun q => z (q ▸ hS)) e n⟩) fun a z t => ⟨z, g.2 a t⟩
theorem geW (g : Ge H H') : Ge (wos S H) (wos S H') := wos_mono (fun a o z e n => ⟨z, g.1 a o e n⟩) fun a z t => ⟨z, g.2 a t⟩
/-- one more list that changes, new -/
theorem ge_more {D : Addr} {o : HO} (h : H D = none) : Ge (wos S H) (wos (fun b => S b ∨ b = D) (upd H D o)) := by
  have ne : ∀ a u, H a = some u → a ≠ D := fun a u e => ne_of_none e h
  exact wos_mono (fun a u z e _ => ⟨(fun q => q.elim z (ne a u e)), by rw [upd_ne (ne a u e)]; exact e⟩) fun a z ⟨ps, e, t⟩ => ⟨(fun q => q.elim z (ne a _ e)), ps, by rw [upd_ne (ne a _ e)]; exact e, t⟩
theorem wos_less (h : ∀ b, S b → S' b) : Ge (wos S' H) (wos S H) := wos_mono (fun a o z e _ => ⟨fun q => z (h a q), e⟩) fun a z t => ⟨fun q => z (h a q), t⟩
theorem wos_upd {D : Addr} {o : HO} (h : S D) : wos S (upd H D o) = wos S H := by
  funext b
  by_cases z : S b
  · rw [wos_in z, wos_in z]
  · rw [wos_ne z, wos_ne z, upd_ne fun q => z (by rw [q]; exact h)]
theorem rd_w {a : Addr} {u : HO} (h : Rd H a u) (n : ¬ S a) : Rd (wos S H) a u := by
  rcases h with h | ⟨o, h⟩
  · exact Or.inl (by rw [wos_ne n]; exact h)
  · exact Or.inr ⟨o, by rw [wos_ne n]; exact h⟩
theorem rd_of_w {a : Addr} {u : HO} (h : Rd (wos S H) a u) : Rd H a u ∧ ¬ S a := by
  have n : ¬ S a := fun z => by rcases h with h | ⟨o, h⟩ <;> rw [wos_in z] at h <;> cases h
  rcases h with h | ⟨o, h⟩ <;> rw [wos_ne n] at h
  · exact ⟨Or.inl h, n⟩
  · exact ⟨Or.inr ⟨o, h⟩, n⟩
theorem w_da (h : Da K (wos S H) v d) : Da K H v d := wos_ge.da h
variable {cc : Addr} {a b : Nat} {H0 : Hp} {σ : L2.St}
theorem Wd.gp (w : Wd p cc S H a) (g : GeP p H H') (hp : PenAt H' p cc b) : Wd p cc S H' b := ⟨hp, w.sp, fun c hc => by
  obtain ⟨xs, h⟩ := w.al c hc
  by_cases z : c = p
  · rw [z]; exact hp.lst
  · exact ⟨xs, g.1 c _ z h (fun ps z => by cases z)⟩⟩
theorem Wd.ge (w : Wd p cc S H a) (g : Ge H H') : Wd p cc S H' a := w.gp (GeP.of g) (w.pen.ge g)
theorem Wd.mono (w : Wd p cc S H a) (h : a ≤ b) : Wd p cc S H b := ⟨w.pen.mono h, w.sp, w.al⟩
theorem Wd.new (w : Wd p cc S H a) {q : Addr} (hq : H q = none) : ¬ S q := fun z => by
  obtain ⟨xs, h⟩ := w.al q z
  rw [hq] at h
  cases h
theorem Wd.tup (w : Wd p cc S H a) {c : Addr} {xs : List V} (h : Rd H c (.tup xs)) : ¬ S c := fun z => by
  obtain ⟨ys, e⟩ := w.al c z
  have := rd_one (fun o w z => by cases z) (fun o w z => by cases z) h (Or.inl e)
  cases this
theorem Wd.dct (w : Wd p cc S H a) {c : Addr} {xs : List (Key × V)} (h : Rd H c (.dK xs)) : ¬ S c := fun z => by
  obtain ⟨ys, e⟩ := w.al c z
  have := rd_one (fun o w z => by cases z) (fun o w z => by cases z) h (Or.inl e)
  cases this
/-- no list within: nothing that changes is in it -/
theorem Wd.da (w : Wd p cc S H a) (n : noL d = true) (h : Da K H v d) : Da K (wos S H) v d :=
  da_mapN (fun c ys r => rd_w r (w.tup r)) (fun c ys r => rd_w r (w.dct r)) d v n h
theorem Wd.daAll (w : Wd p cc S H a) (n : noLAll ds = true) (h : DaAll K H vs ds) : DaAll K (wos S H) vs ds :=
  daAll_mapN (fun c ys r => rd_w r (w.tup r)) (fun c ys r => rd_w r (w.dct r)) ds vs n h
theorem Wd.more (w : Wd p cc S H a) {D : Addr} {xs : List V} (hD : H D = none) : Wd p cc (fun b => S b ∨ b = D) (upd H D (.lst xs)) a :=
  ⟨w.pen.ge (Ge.new hD), Or.inl w.sp, fun b hb => by
    by_cases z : b = D
    · rw [z]; exact ⟨xs, upd_same⟩
    · obtain ⟨ys, h⟩ := w.al b (hb.resolve_right z)
      exact ⟨ys, by rw [upd_ne z]; exact h⟩⟩
/-! ### expressions that give data -/
def DO (K : PySem.W.Frag) (p : Addr) (S : Addr → Prop) (cc : Addr) (H0 : Hp) (σ : L2.St) (k : Nat) (t : TE) (P : PyData → Prop) : Prop :=
  ∀ (H : Hp) (a : Nat) (Q : VK), GeP p H0 H → Wd p cc S H a → a + k ≤ 90000 → (∀ v d H', GeP p H H' → Wd p cc S H' (a + k) → Da K (wos S H') v d → P d → Q v H') → t σ H Q
def AO (K : PySem.W.Frag) (p : Addr) (S : Addr → Prop) (cc : Addr) (H0 : Hp) (σ : L2.St) (k : Nat) (t : TA) (P : List PyData → Prop) : Prop :=
  ∀ (H : Hp) (a : Nat) (Q : List V → Hp → Prop), GeP p H0 H → Wd p cc S H a → a + k ≤ 90000 → (∀ vs ds H', GeP p H H' → Wd p cc S H' (a + k) → DaAll K (wos S H') vs ds → P ds → Q vs H') → t σ H Q
theorem do_c {v : V} {d : PyData} {P : PyData → Prop} (h : ∀ H, Da K H v d) (hP : P d) : DO K p S cc H0 σ 0 (tC v) P := fun H a Q g hp ha q => q v d H GeP.refl hp (h _) hP
theorem do_int {i : Int} (h : i.natAbs < 10 ^ 40) : DO K p S cc H0 σ 0 (tC (.int i)) (Good true 50 0) := do_c (fun _ => .int i) (Good.int h)
theorem do_bl {b : Bool} : DO K p S cc H0 σ 0 (tC (.bl b)) (Good true 5 0) := do_c (fun _ => .bl b) Good.bool
theorem do_non : DO K p S cc H0 σ 0 (tC .non) (Good true 5 0) := do_c (fun _ => .non) Good.none
theorem do_str {x : Str} (h : (x.cps.toList.all fun c => decide (c < 128)) = true) : DO K p S cc H0 σ 0 (tC (.str x)) (Good true (10 * x.length + 2) 0) := do_c (fun _ => .str x) (Good.str (fun c hc => of_decide_eq_true (List.all_eq_true.mp h c hc)) (Nat.le_refl _))
theorem do_var {i : Nat} {P : PyData → Prop} (e : σ[i]? = some (some v)) (h : Da K (wos S H0) v d) (hP : P d) : DO K p S cc H0 σ 0 (tVar i) P := fun H a Q g hp ha q => ⟨v, e, q v d H GeP.refl hp ((g.w hp.sp).da h) hP⟩
theorem do_varC {i : Nat} {P : PyData → Prop} (e : σ[i]? = some (some v)) (h : ∀ H, Da K H v d) (hP : P d) : DO K p S cc H0 σ 0 (tVar i) P := do_var e (h _) hP
theorem DO.to {k k' : Nat} {t : TE} {P P' : PyData → Prop} (h : DO K p S cc H0 σ k t P) (hk : k ≤ k') (hP : ∀ d, P d → P' d) : DO K p S cc H0 σ k' t P' := fun H a Q g hp ha q => h H a Q g hp (by omega) fun v d H' g' hp' hd z => q v d H' g' (hp'.mono (by omega)) hd (hP d z)
theorem DO.good {k : Nat} {t : TE} {g g' : Bool} {W W' n n' : Nat} (h : DO K p S cc H0 σ k t (Good g W n)) (hW : W ≤ W') (hn : n ≤ n') (hg : g' = true → g = true) : DO K p S cc H0 σ k t (Good g' W' n') := h.to (Nat.le_refl _) fun _ z => z.mono hW hn hg
theorem ao_nil : AO K p S cc H0 σ 0 tNil (GoodA true 0 0) := fun H a Q g hp ha q => q [] [] H GeP.refl hp .nil Good.nil
theorem ao_cons {k1 k2 : Nat} {t1 : TE} {t2 : TA} {g1 g2 : Bool} {W1 W2 n1 n2 : Nat} (h1 : DO K p S cc H0 σ k1 t1 (Good g1 W1 n1)) (h2 : AO K p S cc H0 σ k2 t2 (GoodA g2 W2 n2)) : AO K p S cc H0 σ (k1 + k2) (tCons t1 t2) (GoodA (g1 && g2) (W1 + 2 + W2) (max n1 n2)) := fun H a Q g hp ha q =>
  h1 H a _ g hp (by omega) fun v d H1 gg1 hp1 hd1 z1 => h2 H1 (a + k1) _ (g.trans gg1) hp1 (by omega) fun vs ds H2 gg2 hp2 hd2 z2 => q (v :: vs) (d :: ds) H2 (gg1.trans gg2) (hp2.mono (by omega)) (.cons ((gg2.w hp1.sp).da hd1) hd2) (z1.cons z2)
theorem w_new {q : Addr} {o : HO} {a : Nat} (hp : Wd p cc S H a) (hq : H q = none) : wos S (upd H q o) q = some o := by rw [wos_ne (hp.new hq)]; exact upd_same
theorem do_tup {k : Nat} {t : TA} {g : Bool} {W n : Nat} (h : AO K p S cc H0 σ k t (GoodA g W n)) (hW : W ≤ 10000000 := by decide) : DO K p S cc H0 σ k (tTup t) (Good g (W + 4) (n + 1)) := fun H a Q gg hp ha q =>
  h H a _ gg hp ha fun vs ds H1 g1 hp1 hd z => ⟨Nat.le_trans (Nat.le_trans (by rw [← daAll_len hd]; exact len_wgA ds) (Nat.le_trans z.w hW)) (by decide), fun r hr => q (.ref r) (.tuple ds) _ (g1.trans (GeP.of (Ge.new hr))) (hp1.ge (Ge.new hr)) (.tup (Or.inl (w_new hp1 hr)) ((geW (Ge.new hr)).daAll hd)) (Good.tup z)⟩
theorem do_lst {k : Nat} {t : TA} {g : Bool} {W n : Nat} (h : AO K p S cc H0 σ k t (GoodA g W n)) (hW : W ≤ 10000000 := by decide) : DO K p S cc H0 σ k (tLst t) (Good g (W + 4) (n + 1)) := fun H a Q gg hp ha q =>
  h H a _ gg hp ha fun vs ds H1 g1 hp1 hd z => ⟨Nat.le_trans (Nat.le_trans (by rw [← daAll_len hd]; exact len_wgA ds) (Nat.le_trans z.w hW)) (by decide), fun r hr => q (.ref r) (.list ds) _ (g1.trans (GeP.of (Ge.new hr))) (hp1.ge (Ge.new hr)) (.lst (Or.inl (w_new hp1 hr)) ((geW (Ge.new hr)).daAll hd)) (Good.lst z)⟩
theorem do_dict0 : DO K p S cc H0 σ 0 tDNewK (Good false 4 1) := fun H a Q gg hp ha q r hr => q (.ref r) (.dict []) _ (GeP.of (Ge.new hr)) (hp.ge (Ge.new hr)) (.dct (kvs := []) (Or.inl (w_new hp hr)) List.nodup_nil .nil) ⟨rfl, Nat.le_refl _, by simp [PyData.depth, PyData.depthKv], fun z => by cases z⟩
/-! ### lists of candidates -/
/-- at l a list of at most m values, each data with G -/
def CandAt (K : PySem.W.Frag) (S : Addr → Prop) (H : Hp) (l : Addr) (m : Nat) (G : PyData → Prop) : Prop := ∃ vs ds, H l = some (.lst vs) ∧ ¬ S l ∧ vs.length = m ∧ DaAll K (wos S H) vs ds ∧ ∀ d ∈ ds, G d
theorem CandAt.gp {l : Addr} {m : Nat} {G : PyData → Prop} (h : CandAt K S H l m G) (g : GeP p H H') (hS : S p) : CandAt K S H' l m G := let ⟨vs, ds, h1, h2, h3, h4, h5⟩ := h; ⟨vs, ds, g.1 l _ (fun z => h2 (z ▸ hS)) h1 (fun ps z => by cases z), h2, h3, (g.w hS).daAll h4, h5⟩
def GO (K : PySem.W.Frag) (p : Addr) (S : Addr → Prop) (cc : Addr) (H0 : Hp) (σ : L2.St) (k m : Nat) (t : TA) (G : PyData → Prop) : Prop :=
  ∀ (H : Hp) (a : Nat) (Q : List V → Hp → Prop), GeP p H0 H → Wd p cc S H a → a + k ≤ 90000 → (∀ vs ds H', GeP p H H' → Wd p cc S H' (a + k) → vs.length = m → DaAll K (wos S H') vs ds → (∀ d ∈ ds, G d) → Q vs H') → t σ H Q
def CO (K : PySem.W.Frag) (p : Addr) (S : Addr → Prop) (cc : Addr) (H0 : Hp) (σ : L2.St) (k m : Nat) (t : TE) (G : PyData → Prop) : Prop :=
  ∀ (H : Hp) (a : Nat) (Q : VK), GeP p H0 H → Wd p cc S H a → a + k ≤ 90000 → (∀ l H', GeP p H H' → Wd p cc S H' (a + k) → CandAt K S H' l m G → Q (.ref l) H') → t σ H Q
variable {G : PyData → Prop} {k k1 k2 m m1 m2 : Nat}
theorem go_nil : GO K p S cc H0 σ 0 0 tNil G := fun H a Q g hp ha q => q [] [] H GeP.refl hp rfl .nil (fun _ z => by cases z)
theorem go_cons {t1 : TE} {t2 : TA} (h1 : DO K p S cc H0 σ k1 t1 G) (h2 : GO K p S cc H0 σ k2 m t2 G) : GO K p S cc H0 σ (k1 + k2) (m + 1) (tCons t1 t2) G := fun H a Q g hp ha q =>
  h1 H a _ g hp (by omega) fun v d H1 gg1 hp1 hd1 z1 => h2 H1 (a + k1) _ (g.trans gg1) hp1 (by omega) fun vs ds H2 gg2 hp2 hl hd2 z2 => q (v :: vs) (d :: ds) H2 (gg1.trans gg2) (hp2.mono (by omega)) (by rw [List.length_cons, hl]) (.cons ((gg2.w hp1.sp).da hd1) hd2) fun x hx => by
    rcases List.mem_cons.mp hx with rfl | hx
    · exact z1
    · exact z2 x hx
theorem co_lst {t : TA} (h : GO K p S cc H0 σ k m t G) (hm : m ≤ 10000 := by decide) : CO K p S cc H0 σ k m (tLst t) G := fun H a Q gg hp ha q =>
  h H a _ gg hp ha fun vs ds H1 g1 hp1 hl hd z => ⟨by rw [hl]; exact Nat.le_trans hm (by decide), fun r hr => q r _ (g1.trans (GeP.of (Ge.new hr))) (hp1.ge (Ge.new hr)) ⟨vs, ds, upd_same, (hp1.new hr), hl, (geW (Ge.new hr)).daAll hd, z⟩⟩
theorem co_var {i : Nat} {l : Addr} (e : σ[i]? = some (some (.ref l))) (h : CandAt K S H0 l m G) : CO K p S cc H0 σ 0 m (tVar i) G := fun H a Q g hp ha q => ⟨_, e, q l H GeP.refl hp (h.gp g hp.sp)⟩
theorem daAll_appU {vs vs' : List V} {ds ds' : List PyData} (h : DaAll K H vs ds) (h' : DaAll K H vs' ds') : DaAll K H (vs ++ vs') (ds ++ ds') := by
  induction vs generalizing ds with
  | nil => cases h; exact h'
  | cons x r ih =>
    cases h with
    | cons a b => exact .cons a (ih b)
theorem co_cat {t1 t2 : TE} (h1 : CO K p S cc H0 σ k1 m1 t1 G) (h2 : CO K p S cc H0 σ k2 m2 t2 G) (hm : m1 + m2 ≤ 10000 := by decide) : CO K p S cc H0 σ (k1 + k2) (m1 + m2) (tOp rCat t1 t2) G := fun H a Q g hp ha q =>
  h1 H a _ g hp (by omega) fun l1 H1 g1 hp1 c1 => h2 H1 (a + k1) _ (g.trans g1) hp1 (by omega) fun l2 H2 g2 hp2 c2 => by
    obtain ⟨vs, ds, x1, x2, x3, x4, x5⟩ := c1.gp g2 hp.sp
    obtain ⟨us, es, y1, y2, y3, y4, y5⟩ := c2
    refine ⟨l1, l2, vs, us, rfl, rfl, x1, y1, by rw [x3, y3]; exact Nat.le_trans hm (by decide), fun r hr => ?_⟩
    refine q r _ ((g1.trans g2).trans (GeP.of (Ge.new hr))) ((hp2.mono (by omega)).ge (Ge.new hr)) ⟨vs ++ us, ds ++ es, upd_same, (hp2.new hr), by rw [List.length_append, x3, y3], (geW (Ge.new hr)).daAll (daAll_appU x4 y4), fun d hd => ?_⟩
    rcases List.mem_append.mp hd with hd | hd
    · exact x5 d hd
    · exact y5 d hd
theorem daAll_rep {vs : List V} {ds : List PyData} (h : DaAll K H vs ds) : ∀ n : Nat, DaAll K H (List.replicate n vs).flatten (List.replicate n ds).flatten
  | 0 => .nil
  | n + 1 => by
    rw [List.replicate_succ, List.replicate_succ, List.flatten_cons, List.flatten_cons]
    exact daAll_appU h (daAll_rep h n)
theorem len_rep {α : Type} (xs : List α) (n : Nat) : (List.replicate n xs).flatten.length = xs.length * n := by
  induction n with
  | zero => rfl
  | succ n ih => rw [List.replicate_succ, List.flatten_cons, List.length_append, ih, Nat.mul_succ, Nat.add_comm]
theorem mem_rep {α : Type} {xs : List α} {x : α} : ∀ {n : Nat}, x ∈ (List.replicate n xs).flatten → x ∈ xs
  | 0, h => by cases h
  | n + 1, h => by
    rw [List.replicate_succ, List.flatten_cons] at h
    rcases List.mem_append.mp h with h | h
    · exact h
    · exact mem_rep h
theorem co_rep {t1 : TE} {c : Nat} (h1 : CO K p S cc H0 σ k m t1 G) (hm : m * c ≤ 10000 := by decide) (hc : c ≤ 10000 := by decide) : CO K p S cc H0 σ k (m * c) (tOp rRep t1 (tC (.int c))) G := fun H a Q g hp ha q =>
  h1 H a _ g hp ha fun l1 H1 g1 hp1 c1 => by
    obtain ⟨vs, ds, x1, x2, x3, x4, x5⟩ := c1
    have e : ((c : Int)).toNat = c := rfl
    refine ⟨l1, c, vs, rfl, rfl, x1, by omega, by omega, by rw [x3, e]; exact Nat.le_trans hm (by decide), fun r hr => ?_⟩
    rw [e]
    exact q r _ (g1.trans (GeP.of (Ge.new hr))) (hp1.ge (Ge.new hr)) ⟨_, _, upd_same, (hp1.new hr), by rw [len_rep, x3], (geW (Ge.new hr)).daAll (daAll_rep x4 c), fun d hd => x5 d (mem_rep hd)⟩
end
end Pr
set_option maxRecDepth 100000
set_option maxHeartbeats 4000000
/-! the Reader: what its methods do -/
namespace Pr
open PySem PySem.Spec PyProof.Rows L2 GxR Gx Rp Dl Pd Tx Zq
theorem ix_tupKX {X : Cx} {K : PySem.W.Frag} (h : X.K = K) : IxR X (rIxT K) := h ▸ ix_tup
structure FunM (K : PySem.W.Frag) (x qn : Str) (st : Stmt) (f : Addr) (fd : FuncData) (c : Addr) : Prop where
  ex : ∃ (oc : Value) (od : Option Addr) (kV doc pm : Value) (an : Option Addr) (ct : Value) (osl : Array (Option Value)),
    fd = PySem.W.fnOf x qn (defArgs st) (defBody st) (defScope st) .none kV doc pm an (.ref c) ct ∧ K.lookup f = some ⟨oc, od, .func fd, osl⟩ ∧ PySem.W.codeIn K (.ref c) qn = true
  kp : PySem.W.keepIn K (.ref f) = true
/-- a method as it is called -/
structure MtP (P : Program) (w : World) (K : PySem.W.Frag) (mg : Str → Option Value) (base : Heap) (k : Nat) (C : Addr) (m : Str) (ps : List Str) (sp : Sp) : Prop where
  ex : ∃ f fd, Meth K C m f ∧ Binds K fd ps [] ∧ FnOk P w K mg base CX0 k f fd ps sp
section
variable {P : Program} {w : World} {K : PySem.W.Frag} {mg : Str → Option Value} {base : Heap}
theorem FunM.ok {x qn : Str} {st : Stmt} {f c : Addr} {fd : FuncData} {N ps : List Str} {k : Nat} {sp : Sp} (F : FunM K x qn st f fd c) (S : FnScope N ps (defScope st)) (len : ∀ vs H Q E, sp vs H Q E → vs.length = ps.length)
    (hbody : ∀ (A : Around) (outer : List Env) (s : Shared) (H : Hp) (vs : List V) (Q : VK) (E : XK), Room k (A.deeper (envOfC qn (defScope st) s.heap.objs.size f (.ref c))) → sp vs H Q E →
      ∃ t, PSs (cxOf CX0 P w K mg base N qn (defScope st) f (.ref c) A outer s H E).nox (defBody st) t ∧ t { nx := fun _ H' => Q .non H', rt := Q } (start N vs) H) : FnOk P w K mg base CX0 (k + 1) f fd ps sp := by
  obtain ⟨oc, od, kV, doc, pm, an, ct, osl, rfl, lk, hcd⟩ := F.ex
  refine fn_of lk hcd S len fun A outer s H vs Q E hr hsp => ?_
  obtain ⟨t, ht, hq⟩ := hbody A outer s H vs Q E hr hsp
  exact ⟨t, ht.nox, hq⟩
theorem FunM.binds {x qn : Str} {st : Stmt} {f c : Addr} {fd : FuncData} {ps : List Str} (F : FunM K x qn st f fd c)
    (h : ∀ (kV doc pm : Value) (an : Option Addr) (cdv ct : Value) (us : List Value), us.length = ps.length → bindArgs (PySem.W.fnOf x qn (defArgs st) (defBody st) (defScope st) .none kV doc pm an cdv ct) ⟨us, []⟩ = pure (ps.zip us)) : Binds K fd ps [] := by
  obtain ⟨oc, od, kV, doc, pm, an, ct, osl, rfl, lk, hcd⟩ := F.ex
  exact .all (h kV doc pm an _ ct)
end
def tMt (C : Addr) (m : Str) (sp : Sp) (E : XK) (ta : TE) (t : TA) : TE := fun σ H Q => ta σ H fun x H1 => ∃ a dx fs, x = .ref a ∧ H1 a = some (.ins C dx fs) ∧ fs.lookup m = none ∧ t σ H1 fun vs H2 => sp (x :: vs) H2 Q E
section
variable {X : Cx} {k : Nat} {C : Addr} {m : Str} {ps : List Str} {sp : Sp} {o e : Expr} {es : List Expr} {ta : TE} {t : TA} {apos pos : Pos} {pl : Sem Bool}
theorem pmeth (D : MtP X.prog X.w X.K X.mg X.base k C m ps sp) (cl : Cls X.K C) (hr : Room k X.A) (he : PE X o ta) (ha : PA X (e :: es) t)
    (hst : starEach (e :: es) X.env = (false, eval e X.env) :: starEach es X.env := by rfl) (hpl : (backTo pos (starEach es X.env)).any (·.1) = false := by rfl)
    (ht : eval (.Call (.Attribute o m apos) (e :: es) [] pos) X.env = (do
      let ov ← eval o X.env
      standAt apos.atName
      let (f, first) ← holding [ov] (getMethod ov m pl)
      callWith pos f first (backTo pos (starEach (e :: es) X.env)) (backToKw pos (keywordEach [] X.env))) := by rfl) : PE X (.Call (.Attribute o m apos) (e :: es) [] pos) (tMt C m sp E0 ta t) := by
  obtain ⟨f, fd, hm, hb, F⟩ := D.ex
  have h := pe_meth (dvs := []) (ds := []) (pos := pos) (apos := apos) he cl hm F hr hb .nil pass0 ha hst hpl ht
  refine ⟨fun pins s σ H Q I q => h.run pins s σ H Q I ?_⟩
  have e1 : ∀ x : V, (fun vs H1 => sp (x :: (vs ++ [])) H1 Q E0) = fun vs H1 => sp (x :: vs) H1 Q E0 := fun x => by
    funext vs H1
    rw [List.append_nil]
  show ta σ H fun x H1 => ∃ a dx fs, x = .ref a ∧ H1 a = some (.ins C dx fs) ∧ fs.lookup m = none ∧ t σ H1 fun vs H2 => sp (x :: (vs ++ [])) H2 Q E0
  have e2 : (fun (x : V) (H1 : Hp) => ∃ a dx fs, x = .ref a ∧ H1 a = some (.ins C dx fs) ∧ fs.lookup m = none ∧ t σ H1 fun vs H2 => sp (x :: (vs ++ [])) H2 Q E0) = fun x H1 => ∃ a dx fs, x = .ref a ∧ H1 a = some (.ins C dx fs) ∧ fs.lookup m = none ∧ t σ H1 fun vs H2 => sp (x :: vs) H2 Q E0 := by
    funext x H1
    rw [e1 x]
  rw [e2]
  exact q
theorem pmeth0 (D : MtP X.prog X.w X.K X.mg X.base k C m ps sp) (cl : Cls X.K C) (hr : Room k X.A) (he : PE X o ta)
    (ht : eval (.Call (.Attribute o m apos) [] [] pos) X.env = (do
      let ov ← eval o X.env
      standAt apos.atName
      let (f, first) ← holding [ov] (getMethod ov m pl)
      callWith pos f first (backTo pos (starEach [] X.env)) (backToKw pos (keywordEach [] X.env))) := by rfl) : PE X (.Call (.Attribute o m apos) [] [] pos) (tMt C m sp E0 ta tNil) := by
  obtain ⟨f, fd, hm, hb, F⟩ := D.ex
  exact pe_meth0 (dvs := []) (ds := []) (pos := pos) (apos := apos) he cl hm F hr hb .nil pass0 ht
end
/-- sum(.. for x in events) -/
theorem rd_sumL {K : PySem.W.Frag} {P a : Addr} {σ : L2.St} {H : Hp} {Q : VK} {te : TE} {i j : Nat} {vs : List Nat} {xs : List V} {es : List Ev} (hi : σ[i]? = some (some (.ref a))) (hx : H a = some (.lst xs)) (hz : xs.length ≤ 1000) (hd : Paired (EvAt H) xs es) (ht : TabG H P) (h4 : ∀ e ∈ es, e.len ≤ 400) (hw : ∀ x, wipe ((wipe σ vs).set j (some x)) vs = wipe σ vs)
    (he : ∀ x e H', e ∈ es → Ge H H' → EvAt H' x e → ∀ R : VK, (∀ H4, Ge H' H4 → R (.int (e.len : Nat)) H4) → te ((wipe σ vs).set j (some x)) H' R)
    (hQ : ∀ H', Ge H H' → Q (.int ((es.map Ev.len).sum : Nat)) H') : tSumX P (iList K (tVar i)) (gName j) tYes te vs σ H Q := by
  refine ⟨.ref a, hi, a, rfl, ⟨xs, SqL.of hx⟩, ht, fun H2 t2 => ?_⟩
  have g2 := Ge.tab ht t2
  have hl := Paired.length hd
  have esum : ∀ ds : List Ev, ((List.range ds.length).map fun k => (ds[k]?.map Ev.len).getD 0) = ds.map Ev.len := by
    intro ds
    apply List.ext_getElem
    · simp
    · intro k h1 h2
      simp at h1 h2
      simp [h1]
  refine turns_sum (n := es.length) (Y := YAt xs) (Walk.mono (hl ▸ walk_list (K := K) (a := a) (xs := xs)) (fun H' g => SqL.of ((g2.trans g).1 a _ hx (fun ps z => by cases z))) fun _ _ _ _ _ _ y => y) (fun k => (es[k]?.map Ev.len).getD 0) (fun k => ?_) (by omega) (fun k x H' H'' hk g y R hR => ?_) gName_mono fun H' g => by rw [esum]; exact hQ H' (g2.trans g)
  · cases e : es[k]? with
    | none => exact Nat.zero_le _
    | some d => exact Nat.le_trans (h4 d (List.mem_of_getElem? e)) (by decide)
  obtain ⟨rfl, hx'⟩ := y
  obtain ⟨d, e1, e2⟩ := paired_at hd hx'
  refine ⟨hw x, he x d H'' (List.mem_of_getElem? e1) (g2.trans g) (e2.ge (g2.trans g)) R fun H4 g4 => ?_⟩
  have e3 : (es[k]?.map Ev.len).getD 0 = d.len := by rw [e1]; rfl
  have z := hR H4 (g.trans g4)
  rw [e3] at z
  exact z
def rdF (km st : V) (ks : List Nat) (la gr us : Int) (q : Addr) : List (Str × V) := [("_keymap", km), ("_state", st), ("_held", .str (mkS ks)), ("_last", .int la), ("_greatest", .int gr), ("_used", .int us), ("_past", .ref q)]
theorem rdF_km (km st : V) (ks : List Nat) (la gr us : Int) (q : Addr) : (rdF km st ks la gr us q).lookup ("_keymap" : Str) = some (km : V) := by rfl
theorem rdF_st (km st : V) (ks : List Nat) (la gr us : Int) (q : Addr) : (rdF km st ks la gr us q).lookup ("_state" : Str) = some (st : V) := by rfl
theorem rdF_hd (km st : V) (ks : List Nat) (la gr us : Int) (q : Addr) : (rdF km st ks la gr us q).lookup ("_held" : Str) = some (.str (mkS ks) : V) := by rfl
theorem rdF_la (km st : V) (ks : List Nat) (la gr us : Int) (q : Addr) : (rdF km st ks la gr us q).lookup ("_last" : Str) = some (.int la : V) := by rfl
theorem rdF_gr (km st : V) (ks : List Nat) (la gr us : Int) (q : Addr) : (rdF km st ks la gr us q).lookup ("_greatest" : Str) = some (.int gr : V) := by rfl
theorem rdF_us (km st : V) (ks : List Nat) (la gr us : Int) (q : Addr) : (rdF km st ks la gr us q).lookup ("_used" : Str) = some (.int us : V) := by rfl
theorem rdF_pa (km st : V) (ks : List Nat) (la gr us : Int) (q : Addr) : (rdF km st ks la gr us q).lookup ("_past" : Str) = some (.ref q : V) := by rfl
theorem rdF_none (km st : V) (ks : List Nat) (la gr us : Int) (q : Addr) {m : Str} (h : m ∉ (["_keymap", "_state", "_held", "_last", "_greatest", "_used", "_past"] : List Str)) : (rdF km st ks la gr us q).lookup m = none := by
  simp only [List.mem_cons, List.not_mem_nil, or_false, not_or] at h
  obtain ⟨h1, h2, h3, h4, h5, h6, h7⟩ := h
  simp only [rdF, List.lookup, beq_eq_false_iff_ne.mpr h1, beq_eq_false_iff_ne.mpr h2, beq_eq_false_iff_ne.mpr h3, beq_eq_false_iff_ne.mpr h4, beq_eq_false_iff_ne.mpr h5, beq_eq_false_iff_ne.mpr h6, beq_eq_false_iff_ne.mpr h7]
theorem putF_st (km st : V) (ks : List Nat) (la gr us : Int) (q : Addr) (x : V) : putF "_state" (x) (rdF km st ks la gr us q) = rdF km x ks la gr us q := by rfl
theorem putF_hd (km st : V) (ks : List Nat) (la gr us : Int) (q : Addr) (x : List Nat) : putF "_held" (.str (mkS x)) (rdF km st ks la gr us q) = rdF km st x la gr us q := by rfl
theorem putF_la (km st : V) (ks : List Nat) (la gr us : Int) (q : Addr) (x : Int) : putF "_last" (.int x) (rdF km st ks la gr us q) = rdF km st ks x gr us q := by rfl
theorem putF_gr (km st : V) (ks : List Nat) (la gr us : Int) (q : Addr) (x : Int) : putF "_greatest" (.int x) (rdF km st ks la gr us q) = rdF km st ks la x us q := by rfl
theorem putF_us (km st : V) (ks : List Nat) (la gr us : Int) (q : Addr) (x : Int) : putF "_used" (.int x) (rdF km st ks la gr us q) = rdF km st ks la gr x q := by rfl
theorem putF_km (km st : V) (ks : List Nat) (la gr us : Int) (q : Addr) (x : V) : putF "_keymap" (x) (rdF km st ks la gr us q) = rdF x st ks la gr us q := by rfl
/-- what stands of the class -/
structure RdC (K : PySem.W.Frag) (C : Addr) : Prop where
  cl : Cls K C
  nkm : NoAttr K C "_keymap"
  nst : NoAttr K C "_state"
  nhd : NoAttr K C "_held"
  nla : NoAttr K C "_last"
  ngr : NoAttr K C "_greatest"
  nus : NoAttr K C "_used"
  npa : NoAttr K C "_past"
/-- a Reader at r, its past calls at q -/
structure RdAt (C : Addr) (H : Hp) (r q m s : Addr) (ks : List Nat) (la gr us : Int) (n : Nat) : Prop where
  ob : ∃ dx, H r = some (.ins C dx (rdF (.ref m) (.ref s) ks la gr us q))
  pl : ∃ xs, H q = some (.lst xs) ∧ xs.length = n
def rq (r q : Addr) : Addr → Prop := fun b => b = r ∨ b = q
theorem RdAt.ne {C : Addr} {H : Hp} {r q m s : Addr} {ks : List Nat} {la gr us : Int} {n : Nat} (h : RdAt C H r q m s ks la gr us n) : r ≠ q := fun z => by
  obtain ⟨⟨dx, h1⟩, ⟨xs, h2, _⟩⟩ := h
  rw [z, h2] at h1
  cases h1
theorem RdAt.ge {C : Addr} {H H' : Hp} {r q m s : Addr} {ks : List Nat} {la gr us : Int} {n : Nat} (h : RdAt C H r q m s ks la gr us n) (g : Ge H H') : RdAt C H' r q m s ks la gr us n := by
  obtain ⟨⟨dx, h1⟩, ⟨xs, h2, h3⟩⟩ := h
  exact ⟨⟨dx, g.1 r _ h1 (fun ps z => by cases z)⟩, xs, g.1 q _ h2 (fun ps z => by cases z), h3⟩
/-- the object written anew -/
theorem RdAt.put {C : Addr} {H : Hp} {r q m s m' s' : Addr} {ks ks' : List Nat} {la gr us la' gr' us' : Int} {n : Nat} {dx : Addr} {fs : List (Str × V)} (h : RdAt C H r q m s ks la gr us n) (e : fs = rdF (.ref m') (.ref s') ks' la' gr' us' q) : RdAt C (upd H r (.ins C dx fs)) r q m' s' ks' la' gr' us' n := by
  obtain ⟨_, ⟨xs, h2, h3⟩⟩ := id h
  exact ⟨⟨dx, by rw [upd_same, e]⟩, xs, by rw [upd_ne h.ne.symm]; exact h2, h3⟩
theorem ev_len_atI (e : Ev) : ∃ x : Str, atI e.vs (-1) = some (.str x) ∧ x.length = e.len := by
  cases e with
  | text c => exact ⟨_, rfl, rfl⟩
  | act n ks => exact ⟨_, rfl, mkS_len ks⟩
def evSum (es : List Ev) : Nat := (es.map Ev.len).sum
theorem evSum_cons (e : Ev) (r : List Ev) : evSum (e :: r) = e.len + evSum r := by simp [evSum]
theorem burst_evs {fl : List Str} {bss : List (List BI)} {eks : Str → List (Key × V)} : ∀ {n : Nat} {ks : List Nat} {bs : List Bool}, ks.length ≤ n → (∀ e ∈ (burstR fl bss eks n ks bs).1, e.len ≤ 4) ∧ evSum (burstR fl bss eks n ks bs).1 = ks.length
  | 0, ks, bs, h => by
    have : ks = [] := List.eq_nil_of_length_eq_zero (by omega)
    subst this
    exact ⟨(fun e he => by cases he), rfl⟩
  | n + 1, ks, bs, h => by
    by_cases hk : ks = []
    · subst hk
      rw [burst_nil]
      exact ⟨(fun e he => by cases he), rfl⟩
    · rw [burst_step hk]
      obtain ⟨l1, l2⟩ := first_len (C := cmdOf (factsK fl bs) bss) hk
      have l3 : (firstEv (cmdOf (factsK fl bs) bss) ks).len ≤ ks.length := by
        rcases first_kind (cmdOf (factsK fl bs) bss) ks with ⟨c, e, _⟩ | ⟨nm, mm, e, _, _, _⟩
        · rw [e]
          exact List.length_pos_iff.mpr hk
        · rw [e]
          show (ks.take mm).length ≤ ks.length
          rw [List.length_take]
          omega
      obtain ⟨q1, q2⟩ := burst_evs (bss := bss) (eks := eks) (n := n) (ks := ks.drop (firstEv (cmdOf (factsK fl bs) bss) ks).len) (bs := nextB fl eks (firstEv (cmdOf (factsK fl bs) bss) ks) bs) (by rw [List.length_drop]; omega)
      refine ⟨fun e he => ?_, ?_⟩
      · rcases List.mem_cons.mp he with rfl | he
        · exact l2
        · exact q1 e he
      · dsimp only
        rw [evSum_cons, q2, List.length_drop]
        omega
theorem setl_evs {fl : List Str} {bss : List (List BI)} {eks : Str → List (Key × V)} : ∀ {n : Nat} {ks : List Nat} {bs : List Bool}, (∀ e ∈ (setlF fl bss eks n ks bs).1, e.len ≤ 4) ∧ evSum (setlF fl bss eks n ks bs).1 + (setlF fl bss eks n ks bs).2.2.length = ks.length
  | 0, ks, bs => ⟨(fun e he => by cases he), (by show 0 + ks.length = ks.length; omega)⟩
  | n + 1, ks, bs => by
    by_cases hk : ks = [] ∨ lngB (boundK (factsK fl bs) bss) ks = true
    · rw [setl_stop hk]
      exact ⟨(fun e he => by cases he), (by show 0 + ks.length = ks.length; omega)⟩
    · rw [setl_step hk]
      have hk0 : ks ≠ [] := fun z => hk (Or.inl z)
      obtain ⟨l1, l2⟩ := first_len (C := cmdOf (factsK fl bs) bss) hk0
      have l3 : (firstEv (cmdOf (factsK fl bs) bss) ks).len ≤ ks.length := by
        rcases first_kind (cmdOf (factsK fl bs) bss) ks with ⟨c, e, _⟩ | ⟨nm, mm, e, _, _, _⟩
        · rw [e]
          exact List.length_pos_iff.mpr hk0
        · rw [e]
          show (ks.take mm).length ≤ ks.length
          rw [List.length_take]
          omega
      obtain ⟨q1, q2⟩ := setl_evs (bss := bss) (eks := eks) (n := n) (ks := ks.drop (firstEv (cmdOf (factsK fl bs) bss) ks).len) (bs := nextB fl eks (firstEv (cmdOf (factsK fl bs) bss) ks) bs)
      refine ⟨fun e he => ?_, ?_⟩
      · rcases List.mem_cons.mp he with rfl | he
        · exact l2
        · exact q1 e he
      · rw [List.length_drop] at q2
        dsimp only
        rw [evSum_cons]
        omega
theorem setl2_evs {fl : List Str} {bss : List (List BI)} {eks : Str → List (Key × V)} {sil : Bool} {ks : List Nat} {bs : List Bool} : (∀ e ∈ (setl2 fl bss eks sil ks bs).1, e.len ≤ 4) ∧ evSum (setl2 fl bss eks sil ks bs).1 + (setl2 fl bss eks sil ks bs).2.2.length = ks.length := by
  unfold setl2
  cases sil with
  | true =>
    obtain ⟨a, b⟩ := burst_evs (fl := fl) (bss := bss) (eks := eks) (bs := bs) (Nat.le_refl ks.length)
    exact ⟨a, by show evSum (burstR fl bss eks ks.length ks bs).1 + ([] : List Nat).length = ks.length; rw [b]; rfl⟩
  | false => exact setl_evs
theorem setl2_len {fl : List Str} {bss : List (List BI)} {eks : Str → List (Key × V)} {sil : Bool} {ks : List Nat} {bs : List Bool} (h : bs.length = fl.length) : (setl2 fl bss eks sil ks bs).2.1.length = fl.length ∧ (setl2 fl bss eks sil ks bs).1.length ≤ ks.length := by
  unfold setl2
  cases sil with
  | true => exact burstR_len h
  | false =>
    obtain ⟨a, b⟩ := setl_len (bss := bss) (eks := eks) (n := ks.length) (ks := ks) h
    exact ⟨a, by show (setlF fl bss eks ks.length ks bs).1.length ≤ _; omega⟩
section
variable {P : Program} {w : World} {K : PySem.W.Frag} {mg : Str → Option Value} {base : Heap} {T : List Addr} {C : Addr}
def spMSet (K : PySem.W.Frag) (T : List Addr) (C : Addr) : Sp := fun vs H Q _ => ∃ r q m t o cd ly s fl bss bs wt cks eks ks la gr us n ks' sil, vs = [.ref r, .str (mkS ks'), .bl sil] ∧ RdAt C H r q m s ks la gr us n ∧ KS K T (wos (rq r q) H) (.ref m) (.ref s) m t o cd ly s fl bss bs wt ∧ bss.flatten.length ≤ 100 ∧ CAt (wos (rq r q) H) fl cd cks eks ∧ CmOk bss cks ∧ ks'.length ≤ 400 ∧
  ∀ (H' : Hp) (l s' : Addr) (xs : List V), Ge (wos (rq r q) H) (wos (rq r q) H') → RdAt C H' r q m s' (setl2 fl bss eks sil ks' bs).2.2 la gr (us + (evSum (setl2 fl bss eks sil ks' bs).1 : Nat)) n → Rd (wos (rq r q) H') s' (.tup ((setl2 fl bss eks sil ks' bs).2.1.map V.bl)) → wos (rq r q) H' l = some (.lst xs) → Nw H l → Paired (EvAt (wos (rq r q) H')) xs (setl2 fl bss eks sil ks' bs).1 → Q (.ref l) H'
abbrev nMSet : List Str := ["self", "keys", "silence", "events", "event"]
end
end Pr
set_option maxRecDepth 100000
set_option maxHeartbeats 4000000
/-! the Reader: its methods -/
namespace Pr
open PySem PySem.Spec PyProof.Rows L2 GxR Gx Rp Dl Pd Tx Zq
def Ctx (K : PySem.W.Frag) (T : List Addr) (W : Hp) (m t o cd ly s : Addr) (fl : List Str) (bss : List (List BI)) (bs : List Bool) (wt : Int) (cks : List (Key × V)) (eks : Str → List (Key × V)) : Prop := KS K T W (.ref m) (.ref s) m t o cd ly s fl bss bs wt ∧ bss.flatten.length ≤ 100 ∧ CAt W fl cd cks eks ∧ CmOk bss cks
theorem Ctx.ge {K : PySem.W.Frag} {T : List Addr} {W W' : Hp} {m t o cd ly s : Addr} {fl : List Str} {bss : List (List BI)} {bs : List Bool} {wt : Int} {cks : List (Key × V)} {eks : Str → List (Key × V)} (h : Ctx K T W m t o cd ly s fl bss bs wt cks eks) (g : Ge W W') : Ctx K T W' m t o cd ly s fl bss bs wt cks eks := ⟨h.1.ge g, h.2.1, h.2.2.1.ge g, h.2.2.2⟩
theorem Ctx.st {K : PySem.W.Frag} {T : List Addr} {W W' : Hp} {m t o cd ly s s' : Addr} {fl : List Str} {bss : List (List BI)} {bs bs' : List Bool} {wt : Int} {cks : List (Key × V)} {eks : Str → List (Key × V)} (h : Ctx K T W m t o cd ly s fl bss bs wt cks eks) (g : Ge W W') (hs : Rd W' s' (.tup (bs'.map V.bl))) (hl : bs'.length = fl.length) : Ctx K T W' m t o cd ly s' fl bss bs' wt cks eks := ⟨h.1.st g hs hl, h.2.1, h.2.2.1.ge g, h.2.2.2⟩
/-- a Reader, its keymap and its state -/
structure RdOk (K : PySem.W.Frag) (T : List Addr) (C : Addr) (H : Hp) (r q m t o cd ly s : Addr) (fl : List Str) (bss : List (List BI)) (bs : List Bool) (wt : Int) (cks : List (Key × V)) (eks : Str → List (Key × V)) (ks : List Nat) (la gr us : Int) (n : Nat) : Prop where
  rd : RdAt C H r q m s ks la gr us n
  cx : Ctx K T (wos (rq r q) H) m t o cd ly s fl bss bs wt cks eks
theorem RdOk.ge {K : PySem.W.Frag} {T : List Addr} {C : Addr} {H H' : Hp} {r q m t o cd ly s : Addr} {fl : List Str} {bss : List (List BI)} {bs : List Bool} {wt : Int} {cks : List (Key × V)} {eks : Str → List (Key × V)} {ks : List Nat} {la gr us : Int} {n : Nat} (h : RdOk K T C H r q m t o cd ly s fl bss bs wt cks eks ks la gr us n) (g : Ge H H') : RdOk K T C H' r q m t o cd ly s fl bss bs wt cks eks ks la gr us n := ⟨h.rd.ge g, h.cx.ge (geW g)⟩
theorem RdOk.put {K : PySem.W.Frag} {T : List Addr} {C : Addr} {H : Hp} {r q m t o cd ly s : Addr} {fl : List Str} {bss : List (List BI)} {bs : List Bool} {wt : Int} {cks : List (Key × V)} {eks : Str → List (Key × V)} {ks : List Nat} {la gr us la' gr' : Int} {n : Nat} {dx : Addr} {fs : List (Str × V)} (h : RdOk K T C H r q m t o cd ly s fl bss bs wt cks eks ks la gr us n) (e : fs = rdF (.ref m) (.ref s) ks la' gr' us q) : RdOk K T C (upd H r (.ins C dx fs)) r q m t o cd ly s fl bss bs wt cks eks ks la' gr' us n ∧ wos (rq r q) (upd H r (.ins C dx fs)) = wos (rq r q) H := by
  have ew : wos (rq r q) (upd H r (.ins C dx fs)) = wos (rq r q) H := wos_upd (Or.inl rfl)
  exact ⟨⟨h.rd.put e, by rw [ew]; exact h.cx⟩, ew⟩
theorem nw_of {K : PySem.W.Frag} {H H' : Hp} {r q l : Addr} (g : Ge (wos (rq r q) H) (wos (rq r q) H')) (n : ¬ rq r q l) (h : Nw H' l) (hq : ∀ o, H l = some o → (∀ ps, o ≠ .tbl ps) → H' l = some o) : Nw H l := by
  refine ⟨fun o e => ?_, fun tg => ?_⟩
  · cases o with
    | tbl ps => exact ⟨ps, rfl⟩
    | _ =>
      obtain ⟨ps, z⟩ := h.1 _ (hq _ e (fun ps z => by cases z))
      cases z
  · have t1 : TabG (wos (rq r q) H) l := by
      obtain ⟨ps, e, ok⟩ := tg
      exact ⟨ps, by rw [wos_ne n]; exact e, ok⟩
    obtain ⟨ps, e, ok⟩ := g.2 l t1
    exact h.2 ⟨ps, by rw [wos_ne n] at e; exact e, ok⟩
def reachM (fl : List Str) (bss : List (List BI)) (eks : Str → List (Key × V)) (wt : Int) (ks : List Nat) (la t : Int) (bs : List Bool) : List Ev × List Bool × List Nat := if la + wt < t then ((burstR fl bss eks ks.length ks bs).1, (burstR fl bss eks ks.length ks bs).2, []) else ([], bs, ks)
def keyM (fl : List Str) (bss : List (List BI)) (eks : Str → List (Key × V)) (wt : Int) (ks : List Nat) (la t : Int) (bs : List Bool) (c : Nat) : List Ev × List Bool × List Nat :=
  ((reachM fl bss eks wt ks la t bs).1 ++ (setlF fl bss eks ((reachM fl bss eks wt ks la t bs).2.2 ++ [c]).length ((reachM fl bss eks wt ks la t bs).2.2 ++ [c]) (reachM fl bss eks wt ks la t bs).2.1).1, (setlF fl bss eks ((reachM fl bss eks wt ks la t bs).2.2 ++ [c]).length ((reachM fl bss eks wt ks la t bs).2.2 ++ [c]) (reachM fl bss eks wt ks la t bs).2.1).2)
theorem reach_len {fl : List Str} {bss : List (List BI)} {eks : Str → List (Key × V)} {wt : Int} {ks : List Nat} {la t : Int} {bs : List Bool} (h : bs.length = fl.length) : (reachM fl bss eks wt ks la t bs).2.1.length = fl.length ∧ (reachM fl bss eks wt ks la t bs).2.2.length ≤ ks.length ∧ (reachM fl bss eks wt ks la t bs).1.length ≤ ks.length := by
  unfold reachM
  obtain ⟨a, b⟩ := burstR_len (bss := bss) (eks := eks) (n := ks.length) (ks := ks) h
  split
  · exact ⟨a, Nat.zero_le _, b⟩
  · exact ⟨h, Nat.le_refl _, Nat.zero_le _⟩
theorem iteFy {c : Bool} {a b : Prop} (h : c = false) (hb : b) : if c = true then a else b := by rw [if_neg (by rw [h]; exact Bool.false_ne_true)]; exact hb
theorem iteTy {c : Bool} {a b : Prop} (h : c = true) (ha : a) : if c = true then a else b := by rw [if_pos h]; exact ha
theorem evSum_app (a b : List Ev) : evSum (a ++ b) = evSum a + evSum b := by simp [evSum, List.sum_append]
section
variable {P : Program} {w : World} {K : PySem.W.Frag} {mg : Str → Option Value} {base : Heap} {T : List Addr} {C : Addr}
def spMEnd (K : PySem.W.Frag) (T : List Addr) (C : Addr) : Sp := fun vs H Q _ => ∃ r q m t o cd ly s fl bss bs wt cks eks ks la gr us n, vs = [.ref r] ∧ RdOk K T C H r q m t o cd ly s fl bss bs wt cks eks ks la gr us n ∧ ks.length ≤ 400 ∧ ∀ (H' : Hp) (l s' : Addr) (xs : List V), Ge (wos (rq r q) H) (wos (rq r q) H') → RdOk K T C H' r q m t o cd ly s' fl bss (burstR fl bss eks ks.length ks bs).2 wt cks eks [] la gr (us + (evSum (burstR fl bss eks ks.length ks bs).1 : Nat)) n → wos (rq r q) H' l = some (.lst xs) → Nw (wos (rq r q) H) l → Paired (EvAt (wos (rq r q) H')) xs (burstR fl bss eks ks.length ks bs).1 → Q (.ref l) H'
abbrev nMEnd : List Str := ["self"]
def spMRea (K : PySem.W.Frag) (T : List Addr) (C : Addr) : Sp := fun vs H Q _ => ∃ r q m t o cd ly s fl bss bs wt cks eks ks la gr us n tm, vs = [.ref r, .int tm] ∧ RdOk K T C H r q m t o cd ly s fl bss bs wt cks eks ks la gr us n ∧ ks.length ≤ 400 ∧ ∀ (H' : Hp) (l s' : Addr) (xs : List V), Ge (wos (rq r q) H) (wos (rq r q) H') → RdOk K T C H' r q m t o cd ly s' fl bss (reachM fl bss eks wt ks la tm bs).2.1 wt cks eks (reachM fl bss eks wt ks la tm bs).2.2 la tm (us + (evSum (reachM fl bss eks wt ks la tm bs).1 : Nat)) n → wos (rq r q) H' l = some (.lst xs) → Nw (wos (rq r q) H) l → Paired (EvAt (wos (rq r q) H')) xs (reachM fl bss eks wt ks la tm bs).1 → Q (.ref l) H'
abbrev nMRea : List Str := ["self", "time"]
def spMChk (K : PySem.W.Frag) (T : List Addr) (C : Addr) : Sp := fun vs H Q _ => ∃ r q m s ks la gr us n tm, vs = [.ref r, .int tm] ∧ RdAt C H r q m s ks la gr us n ∧ Tb T H ∧ gr ≤ tm ∧ tm ≤ 1000000000 ∧ ∀ H', Ge H H' → Q .non H'
abbrev nMChk : List Str := ["self", "time"]
def spMBeg (K : PySem.W.Frag) (T : List Addr) (C : Addr) : Sp := fun vs H Q _ => ∃ r q m t o cd ly s fl bss bs wt cks eks ks la gr us n, vs = [.ref r] ∧ RdOk K T C H r q m t o cd ly s fl bss bs wt cks eks ks la gr us n ∧ n < 100000 ∧ ∀ H', Ge (wos (rq r q) H) (wos (rq r q) H') → RdOk K T C H' r q m t o cd ly s fl bss bs wt cks eks ks la gr us (n + 1) → (∀ l, Nw (wos (rq r q) H') l → Nw (wos (rq r q) H) l) → Q .non H'
abbrev nMBeg : List Str := ["self"]
def spMHel (C : Addr) : Sp := fun vs H Q _ => ∃ r q m s ks la gr us n, vs = [.ref r] ∧ RdAt C H r q m s ks la gr us n ∧ Q (.str (mkS ks)) H
abbrev nMHel : List Str := ["self"]
def spMSta (C : Addr) : Sp := fun vs H Q _ => ∃ r q m s ks la gr us n, vs = [.ref r] ∧ RdAt C H r q m s ks la gr us n ∧ Q (.ref s) H
abbrev nMSta : List Str := ["self"]
def spMUse (C : Addr) : Sp := fun vs H Q _ => ∃ r q m s ks la gr us n, vs = [.ref r] ∧ RdAt C H r q m s ks la gr us n ∧ Q (.int us) H
abbrev nMUse : List Str := ["self"]
def spMKey (K : PySem.W.Frag) (T : List Addr) (C : Addr) : Sp := fun vs H Q _ => ∃ r q m t o cd ly s fl bss bs wt cks eks ks la gr us n c tm, vs = [.ref r, .str ⟨#[c]⟩, .int tm] ∧ RdOk K T C H r q m t o cd ly s fl bss bs wt cks eks ks la gr us n ∧ isL c ∧ gr ≤ tm ∧ tm ≤ 1000000000 ∧ ks.length < 400 ∧ n < 100000 ∧ ∀ (H' : Hp) (l s' : Addr) (xs : List V), Ge (wos (rq r q) H) (wos (rq r q) H') → RdOk K T C H' r q m t o cd ly s' fl bss (keyM fl bss eks wt ks la tm bs c).2.1 wt cks eks (keyM fl bss eks wt ks la tm bs c).2.2 tm tm (us + (evSum (keyM fl bss eks wt ks la tm bs c).1 : Nat)) (n + 1) → wos (rq r q) H' l = some (.lst xs) → Nw (wos (rq r q) H) l → Paired (EvAt (wos (rq r q) H')) xs (keyM fl bss eks wt ks la tm bs c).1 → Q (.ref l) H'
abbrev nMKey : List Str := ["self", "letter", "time", "events"]
def spMChg (K : PySem.W.Frag) (T : List Addr) (C : Addr) : Sp := fun vs H Q _ => ∃ r q m t o cd ly s fl bss bs wt cks eks ks la gr us n f b tm, ∃ ol : List Str, vs = [.ref r, .str f, .bl b, .int tm] ∧ RdOk K T C H r q m t o cd ly s fl bss bs wt cks eks ks la gr us n ∧ Rd (wos (rq r q) H) o (.tup (ol.map V.str)) ∧ f ∈ ol ∧ f ∈ fl ∧ gr ≤ tm ∧ tm ≤ 1000000000 ∧ ks.length ≤ 400 ∧ n < 100000 ∧ ∀ (H' : Hp) (l s' : Addr) (xs : List V), Ge (wos (rq r q) H) (wos (rq r q) H') → RdOk K T C H' r q m t o cd ly s' fl bss (bsAfter fl (burstR fl bss eks ks.length ks bs).2 (setK (some (f, b)))) wt cks eks [] la tm (us + (evSum (burstR fl bss eks ks.length ks bs).1 : Nat)) (n + 1) → wos (rq r q) H' l = some (.lst xs) → Nw (wos (rq r q) H) l → Paired (EvAt (wos (rq r q) H')) xs (burstR fl bss eks ks.length ks bs).1 → Q (.ref l) H'
abbrev nMChg : List Str := ["self", "flag", "value", "time", "events"]
end
end Pr
set_option maxRecDepth 100000
set_option maxHeartbeats 4000000
/-! what a Reader tells early is what reading gives -/
namespace Pr
open PySem PySem.Spec PyProof.Rows L2 GxR Gx Rp Dl Pd Tx Zq
theorem try_dup {C : Str → Option Str} {ks : List Nat} {a b : Nat} {k : Ev} (h : ks.take a = ks.take b) : tryAt C ks a (tryAt C ks b k) = tryAt C ks b k := by
  unfold tryAt
  rw [h]
  cases C (mkS (ks.take b)) <;> rfl
theorem try_eq {C : Str → Option Str} {l ks : List Nat} {m : Nat} {k k' : Ev} (h : l.take m = ks.take m) (hk : k = k') : tryAt C l m k = tryAt C ks m k' := by
  unfold tryAt
  rw [h, hk]
theorem try_skip {C : Str → Option Str} {l ks : List Nat} {m j : Nat} {k k' : Ev} (h : C (mkS (l.take m)) = none) (he : ks.take m = ks.take j) (hk : k = tryAt C ks j k') : tryAt C l m k = tryAt C ks m (tryAt C ks j k') := by
  rw [try_none h, try_dup he, hk]
/-- no bound sequence goes on behind the keys: what follows them changes nothing of the first event -/
theorem first_prefix {C : Str → Option Str} {l ks : List Nat} (h0 : ks ≠ []) (hp : ∃ r, l = ks ++ r) (h : ∀ m, ks.length < m → m ≤ 4 → C (mkS (l.take m)) = none ∨ l = ks) : firstEv C l = firstEv C ks := by
  obtain ⟨r, rfl⟩ := hp
  by_cases hr : r = []
  · rw [hr, List.append_nil]
  have h : ∀ m, ks.length < m → m ≤ 4 → C (mkS ((ks ++ r).take m)) = none := fun m a b => (h m a b).elim id fun z => absurd z (by simpa using hr)
  have hl : 0 < ks.length := List.length_pos_iff.mpr h0
  have tk : ∀ m, m ≤ ks.length → (ks ++ r).take m = ks.take m := fun m hm => by rw [List.take_append_of_le_length hm]
  have full : ∀ m, ks.length ≤ m → ks.take m = ks := fun m hm => List.take_of_length_le hm
  have hd : (ks ++ r).headD 0 = ks.headD 0 := by
    cases ks with
    | nil => exact absurd rfl h0
    | cons a t => rfl
  unfold firstEv
  rw [hd]
  have e1 : tryAt C (ks ++ r) 1 (.text (ks.headD 0)) = tryAt C ks 1 (.text (ks.headD 0)) := try_eq (tk 1 (by omega)) rfl
  have e2 : tryAt C (ks ++ r) 2 (tryAt C (ks ++ r) 1 (.text (ks.headD 0))) = tryAt C ks 2 (tryAt C ks 1 (.text (ks.headD 0))) := by
    by_cases z : 2 ≤ ks.length
    · exact try_eq (tk 2 z) e1
    · exact try_skip (h 2 (by omega) (by omega)) (by rw [full 2 (by omega), full 1 (by omega)]) e1
  have e3 : tryAt C (ks ++ r) 3 (tryAt C (ks ++ r) 2 (tryAt C (ks ++ r) 1 (.text (ks.headD 0)))) = tryAt C ks 3 (tryAt C ks 2 (tryAt C ks 1 (.text (ks.headD 0)))) := by
    by_cases z : 3 ≤ ks.length
    · exact try_eq (tk 3 z) e2
    · exact try_skip (h 3 (by omega) (by omega)) (by rw [full 3 (by omega), full 2 (by omega)]) e2
  by_cases z : 4 ≤ ks.length
  · exact try_eq (tk 4 z) e3
  · exact try_skip (h 4 (by omega) (by omega)) (by rw [full 4 (by omega), full 3 (by omega)]) e3
theorem first_le {C : Str → Option Str} {ks : List Nat} (h : ks ≠ []) : (firstEv C ks).len ≤ ks.length := by
  rcases first_kind C ks with ⟨c, e, _⟩ | ⟨nm, mm, e, _, _, _⟩
  · rw [e]
    exact List.length_pos_iff.mpr h
  · rw [e]
    show (ks.take mm).length ≤ ks.length
    rw [List.length_take]
    omega
section
variable {fl : List Str} {bss : List (List BI)} {eks : Str → List (Key × V)} {wt : Int}
theorem first_more {bs : List Bool} {cks : List (Key × V)} (cm : CmOk bss cks) {ks : List Nat} (h0 : ks ≠ []) (hg : lngB (boundK (factsK fl bs) bss) ks = false) (more : List Nat) : firstEv (cmdOf (factsK fl bs) bss) (ks ++ more) = firstEv (cmdOf (factsK fl bs) bss) ks := by
  refine first_prefix h0 ⟨more, rfl⟩ fun m h1 h2 => ?_
  by_cases hm : more = []
  · exact Or.inr (by rw [hm, List.append_nil])
  left
  cases e : cmdOf (factsK fl bs) bss (mkS ((ks ++ more).take m)) with
  | none => rfl
  | some n =>
    have z := bound_cmd (F := factsK fl bs) cm (mkS ((ks ++ more).take m))
    rw [e] at z
    have hin := valV_in (show valV (boundK (factsK fl bs) bss) (Sum.inr (mkS ((ks ++ more).take m)) : Key) = some (.str n) from z)
    obtain ⟨qq, hq, eq⟩ := List.mem_map.mp hin
    have hgo : goesOn (mkS ((ks ++ more).take m)) (mkS ks) = true := by
      refine goes_on.mpr ⟨more.take (m - ks.length), fun w => ?_, ?_⟩
      · have := congrArg List.length w
        rw [List.length_take] at this
        have hl := List.length_pos_iff.mpr hm
        simp only [List.length_nil] at this
        omega
      · rw [List.take_append, List.take_of_length_le (by omega)]
    have hmem : mkS ((ks ++ more).take m) ∈ lonL (boundK (factsK fl bs) bss) (mkS ks) := by
      unfold lonL
      refine List.mem_filter.mpr ⟨List.mem_map.mpr ⟨qq, hq, ?_⟩, hgo⟩
      rw [eq]
      rfl
    unfold lngB at hg
    cases e2 : lonL (boundK (factsK fl bs) bss) (mkS ks) with
    | nil => rw [e2] at hmem; cases hmem
    | cons a b => rw [e2] at hg; cases hg
theorem burst_fuel : ∀ {n n' : Nat} {ks : List Nat} {bs : List Bool}, ks.length ≤ n → ks.length ≤ n' → burstR fl bss eks n ks bs = burstR fl bss eks n' ks bs
  | n, n', [], bs, _, _ => by rw [burst_nil, burst_nil]
  | 0, _, _ :: _, _, h, _ => absurd h (by simp)
  | _, 0, _ :: _, _, _, h => absurd h (by simp)
  | n + 1, n' + 1, c :: r, bs, h, h' => by
    obtain ⟨l1, _⟩ := first_len (C := cmdOf (factsK fl bs) bss) (ks := c :: r) (by simp)
    rw [burst_step (by simp), burst_step (by simp), burst_fuel (n := n) (n' := n') (by rw [List.length_drop]; omega) (by rw [List.length_drop]; omega)]
/-- the first event, wherever the reading goes on -/
theorem law_first {C : Str → Option Str} {bs : List Bool} {e : Ev} (hC : C = cmdOf (factsK fl bs) bss) : ∀ (rest : List RE) (ks : List Nat) (last : Int), ks ≠ [] → e.len ≤ ks.length → (∀ more, firstEv C (ks ++ more) = e) →
    lawR fl bss eks wt rest ks last bs = (e :: (lawR fl bss eks wt rest (ks.drop e.len) last (nextB fl eks e bs)).1, (lawR fl bss eks wt rest (ks.drop e.len) last (nextB fl eks e bs)).2)
  | rest, ks, last, h0, hle, hm => by
    have e0 : firstEv (cmdOf (factsK fl bs) bss) ks = e := by
      have z := hm []
      rw [List.append_nil, hC] at z
      exact z
    obtain ⟨l1, _⟩ := first_len (C := cmdOf (factsK fl bs) bss) h0
    rw [e0] at l1
    have hb : burstR fl bss eks ks.length ks bs = (e :: (burstR fl bss eks (ks.drop e.len).length (ks.drop e.len) (nextB fl eks e bs)).1, (burstR fl bss eks (ks.drop e.len).length (ks.drop e.len) (nextB fl eks e bs)).2) := by
      obtain ⟨n, hn⟩ : ∃ n, ks.length = n + 1 := ⟨ks.length - 1, by have := List.length_pos_iff.mpr h0; omega⟩
      rw [hn, burst_step h0, e0, burst_fuel (n := n) (n' := (ks.drop e.len).length) (by rw [List.length_drop]; omega) (Nat.le_refl _)]
    match rest with
    | [] => exact hb
    | .set f b t :: r =>
      show ((burstR fl bss eks ks.length ks bs).1 ++ _, _) = (e :: ((burstR fl bss eks (ks.drop e.len).length (ks.drop e.len) (nextB fl eks e bs)).1 ++ _), _)
      rw [hb]
      rfl
    | .key c t :: r =>
      show (if last + wt < t then _ else lawR fl bss eks wt r (ks ++ [c]) t bs) = (e :: (if last + wt < t then _ else lawR fl bss eks wt r (ks.drop e.len ++ [c]) t (nextB fl eks e bs)).1, (if last + wt < t then _ else lawR fl bss eks wt r (ks.drop e.len ++ [c]) t (nextB fl eks e bs)).2)
      by_cases hlt : last + wt < t
      · rw [if_pos hlt, if_pos hlt, hb]
        rfl
      · rw [if_neg hlt, if_neg hlt]
        have ih := law_first (e := e) hC r (ks ++ [c]) t (by simp) (by rw [List.length_append]; omega) (fun more => by rw [List.append_assoc]; exact hm _)
        rw [List.drop_append_of_le_length hle] at ih
        exact ih
/-- what is settled early is what reading gives -/
theorem law_settle {cks : List (Key × V)} (cm : CmOk bss cks) (rest : List RE) : ∀ (n : Nat) (ks : List Nat) (bs : List Bool) (last : Int), lawR fl bss eks wt rest ks last bs = ((setlF fl bss eks n ks bs).1 ++ (lawR fl bss eks wt rest (setlF fl bss eks n ks bs).2.2 last (setlF fl bss eks n ks bs).2.1).1, (lawR fl bss eks wt rest (setlF fl bss eks n ks bs).2.2 last (setlF fl bss eks n ks bs).2.1).2)
  | 0, ks, bs, last => rfl
  | n + 1, ks, bs, last => by
    by_cases hk : ks = [] ∨ lngB (boundK (factsK fl bs) bss) ks = true
    · rw [setl_stop hk]
      rfl
    · rw [setl_step hk]
      have hk0 : ks ≠ [] := fun z => hk (Or.inl z)
      have hg : lngB (boundK (factsK fl bs) bss) ks = false := by
        cases e : lngB (boundK (factsK fl bs) bss) ks with
        | false => rfl
        | true => exact absurd (Or.inr e) hk
      rw [law_first (e := firstEv (cmdOf (factsK fl bs) bss) ks) rfl rest ks last hk0 (first_le hk0) (first_more cm hk0 hg)]
      rw [law_settle cm rest n (ks.drop (firstEv (cmdOf (factsK fl bs) bss) ks).len) (nextB fl eks (firstEv (cmdOf (factsK fl bs) bss) ks) bs) last]
      rfl
theorem setl_held : ∀ {n : Nat} {ks : List Nat} {bs : List Bool}, ks.length ≤ n → (setlF fl bss eks n ks bs).2.2 ≠ [] → lngB (boundK (factsK fl (setlF fl bss eks n ks bs).2.1) bss) (setlF fl bss eks n ks bs).2.2 = true
  | 0, ks, bs, h, hn => absurd (List.eq_nil_of_length_eq_zero (Nat.le_zero.mp h)) hn
  | n + 1, ks, bs, h, hn => by
    by_cases hk : ks = [] ∨ lngB (boundK (factsK fl bs) bss) ks = true
    · rw [setl_stop hk] at hn ⊢
      exact hk.resolve_left hn
    · rw [setl_step hk] at hn ⊢
      have hk0 : ks ≠ [] := fun z => hk (Or.inl z)
      obtain ⟨l1, _⟩ := first_len (C := cmdOf (factsK fl bs) bss) hk0
      exact setl_held (n := n) (by rw [List.length_drop]; omega) hn
/-! ### a Reader fed with a row -/
structure Lv where
  ev : List Ev
  ks : List Nat
  bs : List Bool
  la : Int
  gr : Int
def feed1 (fl : List Str) (bss : List (List BI)) (eks : Str → List (Key × V)) (wt : Int) (L : Lv) : RE → Lv
  | .key c t => ⟨L.ev ++ (keyM fl bss eks wt L.ks L.la t L.bs c).1, (keyM fl bss eks wt L.ks L.la t L.bs c).2.2, (keyM fl bss eks wt L.ks L.la t L.bs c).2.1, t, t⟩
  | .set f b t => ⟨L.ev ++ (burstR fl bss eks L.ks.length L.ks L.bs).1, [], bsAfter fl (burstR fl bss eks L.ks.length L.ks L.bs).2 (setK (some (f, b))), L.la, t⟩
def feed (fl : List Str) (bss : List (List BI)) (eks : Str → List (Key × V)) (wt : Int) (bs : List Bool) (es : List RE) : Lv := es.foldl (feed1 fl bss eks wt) ⟨[], [], bs, 0, 0⟩
theorem feed_snoc {bs : List Bool} {es : List RE} {e : RE} : feed fl bss eks wt bs (es ++ [e]) = feed1 fl bss eks wt (feed fl bss eks wt bs es) e := by
  unfold feed
  rw [List.foldl_append]
  rfl
theorem feed1_law {cks : List (Key × V)} (cm : CmOk bss cks) (L : Lv) (e : RE) (more : List RE) : (L.ev ++ (lawR fl bss eks wt (e :: more) L.ks L.la L.bs).1, (lawR fl bss eks wt (e :: more) L.ks L.la L.bs).2) = ((feed1 fl bss eks wt L e).ev ++ (lawR fl bss eks wt more (feed1 fl bss eks wt L e).ks (feed1 fl bss eks wt L e).la (feed1 fl bss eks wt L e).bs).1, (lawR fl bss eks wt more (feed1 fl bss eks wt L e).ks (feed1 fl bss eks wt L e).la (feed1 fl bss eks wt L e).bs).2) := by
  cases e with
  | set f b t =>
    show (L.ev ++ ((burstR fl bss eks L.ks.length L.ks L.bs).1 ++ _), _) = ((L.ev ++ _) ++ _, _)
    rw [List.append_assoc]
    rfl
  | key c t =>
    show (L.ev ++ (if L.la + wt < t then ((burstR fl bss eks L.ks.length L.ks L.bs).1 ++ (lawR fl bss eks wt more [c] t (burstR fl bss eks L.ks.length L.ks L.bs).2).1, (lawR fl bss eks wt more [c] t (burstR fl bss eks L.ks.length L.ks L.bs).2).2) else lawR fl bss eks wt more (L.ks ++ [c]) t L.bs).1, (if L.la + wt < t then ((burstR fl bss eks L.ks.length L.ks L.bs).1 ++ (lawR fl bss eks wt more [c] t (burstR fl bss eks L.ks.length L.ks L.bs).2).1, (lawR fl bss eks wt more [c] t (burstR fl bss eks L.ks.length L.ks L.bs).2).2) else lawR fl bss eks wt more (L.ks ++ [c]) t L.bs).2) = _
    unfold feed1 keyM reachM
    by_cases hlt : L.la + wt < t
    · simp only [if_pos hlt]
      rw [law_settle cm more ([] ++ [c]).length [c] (burstR fl bss eks L.ks.length L.ks L.bs).2 t, List.append_assoc, List.append_assoc]
      rfl
    · simp only [if_neg hlt]
      rw [law_settle cm more (L.ks ++ [c]).length (L.ks ++ [c]) L.bs t, List.nil_append, List.append_assoc]
theorem feed_law {cks : List (Key × V)} (cm : CmOk bss cks) (bs : List Bool) : ∀ (es more : List RE) (L : Lv), (L.ev ++ (lawR fl bss eks wt (es ++ more) L.ks L.la L.bs).1, (lawR fl bss eks wt (es ++ more) L.ks L.la L.bs).2) = ((es.foldl (feed1 fl bss eks wt) L).ev ++ (lawR fl bss eks wt more (es.foldl (feed1 fl bss eks wt) L).ks (es.foldl (feed1 fl bss eks wt) L).la (es.foldl (feed1 fl bss eks wt) L).bs).1, (lawR fl bss eks wt more (es.foldl (feed1 fl bss eks wt) L).ks (es.foldl (feed1 fl bss eks wt) L).la (es.foldl (feed1 fl bss eks wt) L).bs).2)
  | [], more, L => rfl
  | e :: r, more, L => by
    show (L.ev ++ (lawR fl bss eks wt (e :: (r ++ more)) L.ks L.la L.bs).1, (lawR fl bss eks wt (e :: (r ++ more)) L.ks L.la L.bs).2) = _
    rw [feed1_law cm L e (r ++ more)]
    exact feed_law cm bs r more (feed1 fl bss eks wt L e)
/-- what is told begins what is read -/
theorem told_begins {cks : List (Key × V)} (cm : CmOk bss cks) (bs : List Bool) (es more : List RE) : (lawR fl bss eks wt (es ++ more) [] 0 bs).1 = (feed fl bss eks wt bs es).ev ++ (lawR fl bss eks wt more (feed fl bss eks wt bs es).ks (feed fl bss eks wt bs es).la (feed fl bss eks wt bs es).bs).1 := by
  have z := feed_law (fl := fl) (bss := bss) (eks := eks) (wt := wt) cm bs es more ⟨[], [], bs, 0, 0⟩
  exact congrArg Prod.fst z
def isKey : RE → Bool
  | .key _ _ => true
  | .set _ _ _ => false
/-- what holds of a Reader that was fed -/
structure LvOk (fl : List Str) (bss : List (List BI)) (L : Lv) (es : List RE) : Prop where
  lb : L.bs.length = fl.length
  cnt : evSum L.ev + L.ks.length = (es.filter isKey).length
  el : L.ev.length + L.ks.length ≤ (es.filter isKey).length
  held : L.ks ≠ [] → lngB (boundK (factsK fl L.bs) bss) L.ks = true ∧ L.la = L.gr ∧ es ≠ []
  gr : L.gr = endT es
theorem snoc_ind {α : Type} {P : List α → Prop} (h0 : P []) (h1 : ∀ es e, P es → P (es ++ [e])) (es : List α) : P es := by
  have h : ∀ l : List α, P l.reverse := fun l => by
    induction l with
    | nil => exact h0
    | cons a r ih =>
      rw [List.reverse_cons]
      exact h1 _ _ ih
  have z := h es.reverse
  rw [List.reverse_reverse] at z
  exact z
theorem reach_evs {ks : List Nat} {la t : Int} {bs : List Bool} (hb : bs.length = fl.length) : evSum (reachM fl bss eks wt ks la t bs).1 + (reachM fl bss eks wt ks la t bs).2.2.length = ks.length ∧ (reachM fl bss eks wt ks la t bs).1.length + (reachM fl bss eks wt ks la t bs).2.2.length ≤ ks.length := by
  unfold reachM
  split
  · obtain ⟨_, b2⟩ := burst_evs (fl := fl) (bss := bss) (eks := eks) (bs := bs) (Nat.le_refl ks.length)
    have b3 := burstR_len (bss := bss) (eks := eks) (n := ks.length) (ks := ks) hb
    exact ⟨by show evSum (burstR fl bss eks ks.length ks bs).1 + 0 = _; omega, by show (burstR fl bss eks ks.length ks bs).1.length + 0 ≤ _; omega⟩
  · exact ⟨by show 0 + ks.length = _; omega, by show 0 + ks.length ≤ _; omega⟩
theorem feed_ok {bs : List Bool} (hb : bs.length = fl.length) (es : List RE) : LvOk fl bss (feed fl bss eks wt bs es) es := by
  refine snoc_ind (P := fun es => LvOk fl bss (feed fl bss eks wt bs es) es) ⟨hb, rfl, Nat.le_refl _, fun h => absurd rfl h, rfl⟩ (fun es e ih => ?_) es
  rw [feed_snoc]
  generalize feed fl bss eks wt bs es = L at *
  have hend : endT (es ++ [e]) = e.t := by
    unfold endT
    rw [List.getLast?_append]
    rfl
  have c := ih.cnt
  have l := ih.el
  cases e with
  | set f b t =>
    obtain ⟨b1, b2⟩ := burst_evs (fl := fl) (bss := bss) (eks := eks) (bs := L.bs) (Nat.le_refl L.ks.length)
    have b3 := burstR_len (bss := bss) (eks := eks) (n := L.ks.length) (ks := L.ks) ih.lb
    have ef : (es ++ [RE.set f b t]).filter isKey = es.filter isKey := by
      rw [List.filter_append]
      exact List.append_nil _
    refine ⟨bsAfter_len, ?_, ?_, fun h => absurd rfl h, hend.symm⟩
    · rw [ef]
      show evSum (L.ev ++ (burstR fl bss eks L.ks.length L.ks L.bs).1) + 0 = _
      rw [evSum_app, b2]
      omega
    · rw [ef]
      show (L.ev ++ (burstR fl bss eks L.ks.length L.ks L.bs).1).length + 0 ≤ _
      rw [List.length_append]
      have := b3.2
      omega
  | key cc t =>
    have ef : ((es ++ [RE.key cc t]).filter isKey).length = (es.filter isKey).length + 1 := by
      rw [List.filter_append, List.length_append]
      rfl
    obtain ⟨r1, r2⟩ := reach_evs (fl := fl) (bss := bss) (eks := eks) (wt := wt) (ks := L.ks) (la := L.la) (t := t) ih.lb
    obtain ⟨rl, _, _⟩ := reach_len (bss := bss) (eks := eks) (wt := wt) (ks := L.ks) (la := L.la) (t := t) ih.lb
    generalize hR : reachM fl bss eks wt L.ks L.la t L.bs = R at *
    obtain ⟨s1, s2⟩ := setl_evs (fl := fl) (bss := bss) (eks := eks) (n := (R.2.2 ++ [cc]).length) (ks := R.2.2 ++ [cc]) (bs := R.2.1)
    obtain ⟨s3, s4⟩ := setl_len (bss := bss) (eks := eks) (n := (R.2.2 ++ [cc]).length) (ks := R.2.2 ++ [cc]) rl
    have s5 := setl_held (fl := fl) (bss := bss) (eks := eks) (n := (R.2.2 ++ [cc]).length) (ks := R.2.2 ++ [cc]) (bs := R.2.1) (Nat.le_refl _)
    have lc : (R.2.2 ++ [cc]).length = R.2.2.length + 1 := by rw [List.length_append]; rfl
    have eF : feed1 fl bss eks wt L (.key cc t) = ⟨L.ev ++ (R.1 ++ (setlF fl bss eks (R.2.2 ++ [cc]).length (R.2.2 ++ [cc]) R.2.1).1), (setlF fl bss eks (R.2.2 ++ [cc]).length (R.2.2 ++ [cc]) R.2.1).2.2, (setlF fl bss eks (R.2.2 ++ [cc]).length (R.2.2 ++ [cc]) R.2.1).2.1, t, t⟩ := by
      show (⟨L.ev ++ (keyM fl bss eks wt L.ks L.la t L.bs cc).1, (keyM fl bss eks wt L.ks L.la t L.bs cc).2.2, (keyM fl bss eks wt L.ks L.la t L.bs cc).2.1, t, t⟩ : Lv) = _
      unfold keyM
      rw [hR]
    rw [eF]
    generalize setlF fl bss eks (R.2.2 ++ [cc]).length (R.2.2 ++ [cc]) R.2.1 = S at *
    refine ⟨s3, ?_, ?_, fun h => ⟨s5 h, rfl, by simp⟩, hend.symm⟩
    · rw [ef]
      show evSum (L.ev ++ (R.1 ++ S.1)) + S.2.2.length = _
      rw [evSum_app, evSum_app]
      omega
    · rw [ef]
      show (L.ev ++ (R.1 ++ S.1)).length + S.2.2.length ≤ _
      rw [List.length_append, List.length_append]
      omega
end
end Pr
set_option maxRecDepth 100000
set_option maxHeartbeats 4000000
/-! the Reader made; splits -/
namespace Pr
open PySem PySem.Spec PyProof.Rows L2 GxR Gx Rp Dl Pd Tx Zq
theorem mkS_app2 (xs ys : List Nat) : mkS xs ++ mkS ys = mkS (xs ++ ys) := by
  show (⟨xs.toArray ++ ys.toArray⟩ : Str) = ⟨(xs ++ ys).toArray⟩
  simp
theorem eqv_strs (a b : Str) : PyData.eqv (.str a) (.str b) = decide (a = b) := by
  have h : PyData.eqv (.str a) (.str b) = (a == b) := by simp [PyData.eqv]
  rw [h]
  by_cases e : a = b
  · rw [e, decide_eq_true rfl]; exact beq_self_eq_true b
  · rw [decide_eq_false e]; exact beq_eq_false_iff_ne.mpr e
noncomputable instance evDec : DecidableEq Ev := fun a b => Classical.propDecidable (a = b)
theorem sg_inj {a b : Nat} (h : sg a = sg b) : a = b := by
  have h : (⟨#[a]⟩ : Str) = ⟨#[b]⟩ := h
  simpa using congrArg (fun s : Str => s.cps.toList) h
theorem mkS_inj {a b : List Nat} (h : mkS a = mkS b) : a = b := congrArg (fun s : Str => s.cps.toList) h
theorem eqv_ev2 (e f : Ev) : PyData.eqv e.d f.d = decide (e = f) := by
  have nil : PyData.eqvAll [] [] = true := by rw [PyData.eqvAll]
  have tup : ∀ xs ys : List PyData, PyData.eqv (.tuple xs) (.tuple ys) = PyData.eqvAll xs ys := fun xs ys => by rw [PyData.eqv]
  cases e with
  | text c =>
    cases f with
    | text c' =>
      show PyData.eqv (.tuple [.str "text", .str (sg c)]) (.tuple [.str "text", .str (sg c')]) = _
      rw [tup, PySem.W.eqv_all_cons, PySem.W.eqv_all_cons, nil, eqv_strs, eqv_strs, decide_eq_true rfl, Bool.true_and, Bool.and_true]
      exact decide_eq_decide.mpr ⟨fun z => by rw [sg_inj z], fun z => by rw [Ev.text.inj z]⟩
    | act n ks =>
      rw [decide_eq_false (fun z => by cases z)]
      show PyData.eqv (.tuple [.str "text", .str (sg c)]) (.tuple [.str "do", .str n, .str (mkS ks)]) = false
      simp [PyData.eqv, PyData.eqvAll]
  | act n ks =>
    cases f with
    | text c' =>
      rw [decide_eq_false (fun z => by cases z)]
      show PyData.eqv (.tuple [.str "do", .str n, .str (mkS ks)]) (.tuple [.str "text", .str (sg c')]) = false
      simp [PyData.eqv, PyData.eqvAll]
    | act n' ks' =>
      show PyData.eqv (.tuple [.str "do", .str n, .str (mkS ks)]) (.tuple [.str "do", .str n', .str (mkS ks')]) = _
      rw [tup, PySem.W.eqv_all_cons, PySem.W.eqv_all_cons, PySem.W.eqv_all_cons, nil, eqv_strs, eqv_strs, eqv_strs, decide_eq_true rfl, Bool.true_and, Bool.and_true, ← Bool.decide_and]
      exact decide_eq_decide.mpr ⟨fun z => by rw [z.1, mkS_inj z.2], fun z => by cases z; exact ⟨rfl, rfl⟩⟩
theorem eqv_evs2 : ∀ (es fs : List Ev), PyData.eqvAll (es.map Ev.d) (fs.map Ev.d) = decide (es = fs)
  | [], [] => by simp [PyData.eqvAll]
  | [], c :: r => by simp [PyData.eqvAll]
  | e :: r, [] => by simp [PyData.eqvAll]
  | e :: r, c :: q => by
    rw [List.map_cons, List.map_cons, PySem.W.eqv_all_cons, eqv_ev2, eqv_evs2 r q]
    by_cases h1 : e = c <;> by_cases h2 : r = q <;> simp [h1, h2]
theorem ev_dp {K : PySem.W.Frag} {H : Hp} {v : V} {e : Ev} (h : EvAt H v e) : Dp K H v e.d := by
  obtain ⟨a, rfl, h2⟩ := h
  cases e with
  | text c => exact .tup (SqT.of h2) (.cons (.str _) (.cons (.str _) .nil))
  | act n ks => exact .tup (SqT.of h2) (.cons (.str _) (.cons (.str _) (.cons (.str _) .nil)))
theorem lay_ev {ns : List Str} {e : Ev} (ok : EvOk ns e) (hn : ∀ n ∈ ns, NmOk n) : PyData.canLay0 e.d = true := by
  have lit1 : PyData.strOk "text" = true := by decide +kernel
  have lit2 : PyData.strOk "do" = true := by decide +kernel
  cases e with
  | text c =>
    have h1 : PyData.strOk (sg c) = true := mk_ok (ks := [c]) fun x hx => by rw [List.mem_singleton.mp hx]; exact ok
    simp only [Ev.d, PyData.canLay0, PyData.canLayAll0, h1, lit1, Bool.and_true]
  | act n ks =>
    have h1 := mk_ok ok.2.2
    have h2 := nm_strOk (hn n ok.1)
    simp only [Ev.d, PyData.canLay0, PyData.canLayAll0, h1, h2, lit2, Bool.and_true]
theorem sh_ev1 {ns : List Str} {e : Ev} (ok : EvOk ns e) (hn : ∀ n ∈ ns, NmOk n) : SeqAt.shaped e.d = true := by
  have l := lay_ev ok hn
  cases e with
  | text c =>
    refine sh_tup (n := 1) ?_ (by simp [PyData.depthAll, PyData.depth]) (by decide)
    simpa only [Ev.d, PyData.canLay0] using l
  | act n ks =>
    refine sh_tup (n := 1) ?_ (by simp [PyData.depthAll, PyData.depth]) (by decide)
    simpa only [Ev.d, PyData.canLay0] using l
theorem sh_evs2 {ns : List Str} {es : List Ev} (h : ∀ e ∈ es, EvOk ns e) (hn : ∀ n ∈ ns, NmOk n) : SeqAt.shaped (.list (es.map Ev.d)) = true :=
  sh_list (n := 1) (lay_all fun e he => lay_ev (h e he) hn) (dep_all fun e he => (sz_ev (h e he) hn).2.2) (by decide)
theorem first_evok {ns : List Str} {F : List (Key × V)} {bss : List (List BI)} (cn : CmNs bss ns) {ks : List Nat} (hk : ∀ c ∈ ks, isL c) (h0 : ks ≠ []) : EvOk ns (firstEv (cmdOf F bss) ks) := by
  rcases first_kind (cmdOf F bss) ks with ⟨c, e, ec⟩ | ⟨nm, mm, e, h1, h2, h3⟩
  · rw [e]
    show isL c
    rw [ec]
    cases ks with
    | nil => exact absurd rfl h0
    | cons a r => exact hk a List.mem_cons_self
  · rw [e]
    refine ⟨cmd_ns cn h3, ?_, fun c hc => hk c (List.mem_of_mem_take hc)⟩
    rw [List.length_take]
    omega
def isx (x : Addr) : Addr → Prop := fun b => b = x
section
variable {K : PySem.W.Frag} {H : Hp} {x C dx : Addr} {fs : List (Str × V)}
theorem gi_at (hx : H x = some (.ins C dx fs)) {a : Addr} {o : HO} (h : H a = some o) (n : ∀ C dx fs, o ≠ .ins C dx fs) : wos (isx x) H a = some o := by
  rw [wos_ne (fun z => by rw [z, hx] at h; cases h; exact n _ _ _ rfl)]
  exact h
theorem gi_rd (hx : H x = some (.ins C dx fs)) {a : Addr} {u : HO} (n : ∀ C dx fs, u ≠ .ins C dx fs) (h : Rd H a u) : Rd (wos (isx x) H) a u := h.elim (fun e => Or.inl (gi_at hx e n)) fun ⟨o, e⟩ => Or.inr ⟨o, gi_at hx e fun _ _ _ z => by cases z⟩
theorem gi_da (hx : H x = some (.ins C dx fs)) {v : V} {d : PyData} (h : Da K H v d) : Da K (wos (isx x) H) v d := da_map (fun _ _ => gi_rd hx (fun _ _ _ q => by cases q)) (fun _ _ => gi_rd hx (fun _ _ _ q => by cases q)) d v h fun _ _ _ q _ _ => gi_rd hx (fun _ _ _ q => by cases q) q
theorem gi_k (hx : H x = some (.ins C dx fs)) {fl : List Str} {ly : Addr} {bss : List (List BI)} (h : KAt H fl ly bss) : KAt (wos (isx x) H) fl ly bss := by
  obtain ⟨es, h1, h2⟩ := h
  refine ⟨es, gi_at hx h1 (fun _ _ _ q => by cases q), Paired.imp (fun e l ⟨a, vs, e1, e2, e3⟩ => ⟨a, vs, e1, gi_at hx e2 (fun _ _ _ q => by cases q), Paired.imp (fun v b ⟨c, d, f1, f2, f3, f4⟩ => ⟨c, d, f1, gi_at hx f2 (fun _ _ _ q => by cases q), gi_at hx f3 (fun _ _ _ q => by cases q), f4⟩) e3⟩) h2⟩
theorem gi_map (hx : H x = some (.ins C dx fs)) {m t o cd ly : Addr} {fl ns : List Str} {bss : List (List BI)} {wt : Int} {cks : List (Key × V)} {eks : Str → List (Key × V)} {d : PyData} (k : MapK K H m t o cd ly fl ns bss wt cks eks d) : MapK K (wos (isx x) H) m t o cd ly fl ns bss wt cks eks d :=
  ⟨gi_at hx k.hm (fun _ _ _ q => by cases q), gi_rd hx (fun _ _ _ q => by cases q) k.ht, k.nd, k.l3, gi_k hx k.hk, gi_da hx k.da, k.dm, k.dl, gi_at hx k.hcd (fun _ _ _ q => by cases q), ⟨gi_rd hx (fun _ _ _ q => by cases q) k.ca.1, k.ca.2.1, fun q hq => let ⟨n, c, h1, h2, h3⟩ := k.ca.2.2 q hq; ⟨n, c, h1, ⟨gi_at hx h2.1 (fun _ _ _ q => by cases q), h2.2⟩, h3⟩⟩, k.e3, k.bo, k.n4, k.n16, k.sn⟩
theorem gi_tb (hx : H x = some (.ins C dx fs)) {T : List Addr} (h : Tb T H) : Tb T (wos (isx x) H) := fun P hP => by
  obtain ⟨ps, e, ok⟩ := h P hP
  exact ⟨ps, gi_at hx e (fun _ _ _ q => by cases q), ok⟩
end
section
variable {P : Program} {w : World} {K : PySem.W.Frag} {mg : Str → Option Value} {base : Heap} {T : List Addr} {C : Addr}
def spMIni (K : PySem.W.Frag) (T : List Addr) (C : Addr) : Sp := fun vs H Q _ => ∃ x dx m t o cd ly s fl ns bss bs wt cks eks d, vs = [.ref x, .ref m, .ref s] ∧ H x = some (.ins C dx []) ∧ MapK K H m t o cd ly fl ns bss wt cks eks d ∧ H s = some (.tup (bs.map V.bl)) ∧ bs.length = fl.length ∧ Tb T H ∧ cks.length ≤ 100 ∧ CmOk bss cks ∧ ∀ H' q m' cd' ly' cks', Nw H q → Ge (wos (rq x q) H) (wos (rq x q) H') → RdOk K T C H' x q m' t o cd' ly' s fl bss bs wt cks' eks [] 0 0 0 0 → Q .non H'
abbrev nMIni : List Str := ["self", "keymap", "state"]
def spChH (K : PySem.W.Frag) (T : List Addr) : Sp := fun vs H Q _ => ∃ u v m t o cd ly s fl bs wt x, vs = [u, v, .str x] ∧ KS0 K T H u v m t o cd ly s fl bs wt ∧ isWord 3 (.str x) = true ∧ x.length ≤ 100 ∧ ∀ H', Ge H H' → Q .non H'
abbrev nChH : List Str := ["keymap", "state", "held"]
theorem scChH : FnScope nChH ["keymap", "state", "held"] (defScope s_check_held) := ⟨rfl, rfl, rfl, by decide +kernel, rfl, by decide +kernel, by decide +kernel⟩
theorem ok_check_held {f c : Addr} {fd : FuncData} (F : FunC K "check_held" s_check_held f fd c) (D1 : DfP P w K mg base 9 "check_state" ["keymap", "state"] (spCheckS K T)) (D2 : DfP P w K mg base 2 "is_word" ["thing", "most"] (spW K T)) {tk : Tok} (hc : mg "MOST_HELD" = some (.int 3 tk)) : FnOk P w K mg base CX0 10 f fd ["keymap", "state", "held"] (spChH K T) := by
  refine F.ok scChH (fun vs H Q E ⟨_, _, _, _, _, _, _, _, _, _, _, _, h, _⟩ => by rw [h]; rfl) (fun A outer s0 H vs Q E hr h => ?_)
  obtain ⟨u, v, m, t, o, cd, ly, s, fl, bs, wt, x, rfl, k, hw, hx, q⟩ := h
  refine ⟨_, pss_cons (ps_expr (pcall D1 hr pass0 rfl (pa_cons (pv 0) (pa_cons (pv 1) pa_nil))))
    (pss_one (ps_if (pt_not (pt_val (pcall D2 (hr.mono (by decide)) pass0 rfl (pa_cons (pv 2) (pa_cons (pe_glob (v := .int 3) rfl hc ⟨_, rfl⟩) pa_nil))))) (pss_one ps_never) pss_nil)), ?_⟩
  refine ⟨u, rfl, v, rfl, u, v, m, t, o, cd, ly, s, fl, bs, wt, rfl, k, fun H1 g1 => ?_⟩
  have hs : small (.str x) = true := decide_eq_true (show x.length ≤ 100000 by omega)
  refine ⟨_, rfl, .str x, .str x, 3, rfl, .str x, hs, g1.tb k.tb, fun H2 g2 => ⟨_, rfl, ?_⟩⟩
  rw [hw]
  exact iteF (q H2 (g1.trans g2))
def spIsF (K : PySem.W.Frag) (T : List Addr) : Sp := fun vs H Q _ => ∃ x, vs = [.str x] ∧ (x = "" ∨ isWord 4 (.str x) = true) ∧ x.length ≤ 100 ∧ Tb T H ∧ ∀ H', Ge H H' → Q (.bl true) H'
abbrev nIsF : List Str := ["thing"]
theorem scIsF : FnScope nIsF ["thing"] (defScope s_is_future) := ⟨rfl, rfl, rfl, by decide +kernel, rfl, by decide +kernel, by decide +kernel⟩
theorem ok_is_future {f c : Addr} {fd : FuncData} (F : FunC K "is_future" s_is_future f fd c) (D2 : DfP P w K mg base 2 "is_word" ["thing", "most"] (spW K T)) {tk : Tok} (hc : mg "MOST_KEYS" = some (.int 4 tk)) : FnOk P w K mg base CX0 3 f fd ["thing"] (spIsF K T) := by
  refine F.ok scIsF (fun vs H Q E ⟨_, h, _⟩ => by rw [h]; rfl) (fun A outer s0 H vs Q E hr h => ?_)
  obtain ⟨x, rfl, hw, hx, tb, q⟩ := h
  refine ⟨_, pss_one (ps_ret (pe_or (pe_cmpR op_eq (pv 0) pe_str (nomark _)) (pe_one (pcall D2 hr pass0 rfl (pa_cons (pv 0) (pa_cons (pe_glob (v := .int 4) rfl hc ⟨_, rfl⟩) pa_nil)))))), ?_⟩
  refine ⟨_, rfl, rfl, _, rfl, ?_⟩
  by_cases e : x = ""
  · rw [decide_eq_true (show V.str x = V.str "" by rw [e])]
    exact iteT (q H (Ge.refl H))
  · rw [decide_eq_false (fun z => e (V.str.inj z))]
    have hw := hw.resolve_left e
    have hs : small (.str x) = true := decide_eq_true (show x.length ≤ 100000 by omega)
    refine iteF ⟨_, rfl, .str x, .str x, 4, rfl, .str x, hs, tb, fun H2 g2 => ?_⟩
    rw [hw]
    exact q H2 g2
def spFut (K : PySem.W.Frag) (T : List Addr) : Sp := fun vs H Q _ => ∃ m t o cd ly s fl bss bs wt, ∃ ks : List Nat, vs = [.ref m, .ref s, .str (mkS ks)] ∧ KS K T H (.ref m) (.ref s) m t o cd ly s fl bss bs wt ∧ bss.flatten.length ≤ 100 ∧ isWord 3 (.str (mkS ks)) = true ∧ ks.length ≤ 100 ∧ (∀ y ∈ lonL (boundK (factsK fl bs) bss) (mkS ks), y.length ≤ 100) ∧ (lonL (boundK (factsK fl bs) bss) (mkS ks) = [] → ∀ H', Ge H H' → Q .non H') ∧
  ∀ H' p y r, Ge H H' → lonL (boundK (factsK fl bs) bss) (mkS ks) = y :: r → H' p = some (.tup [.str "", .str (cutS y (some ((ks.length : Nat) : Int)) none)]) → Q (.ref p) H'
abbrev nFut : List Str := ["keymap", "state", "held", "longer"]
def spSpl (K : PySem.W.Frag) (T : List Addr) : Sp := fun vs H Q _ => ∃ m t o cd ly s fl bss bs wt cks p ns, ∃ ks ra rb : List Nat, vs = [.ref m, .ref s, .str (mkS ks), .ref p] ∧ KS K T H (.ref m) (.ref s) m t o cd ly s fl bss bs wt ∧ bss.flatten.length ≤ 100 ∧ CmOk bss cks ∧ CmNs bss ns ∧ (∀ n ∈ ns, NmOk n) ∧ (∀ c ∈ ks ++ ra, isL c) ∧ (∀ c ∈ ks ++ rb, isL c) ∧ isWord 3 (.str (mkS ks)) = true ∧ ks ≠ [] ∧ ks.length ≤ 100 ∧ H p = some (.tup [.str (mkS ra), .str (mkS rb)]) ∧ (ra = [] ∨ isWord 4 (.str (mkS ra)) = true) ∧ (rb = [] ∨ isWord 4 (.str (mkS rb)) = true) ∧ ra.length ≤ 100 ∧ rb.length ≤ 100 ∧
  ∀ H', Ge H H' → Q (.bl (!decide (firstEv (cmdOf (factsK fl bs) bss) (ks ++ ra) = firstEv (cmdOf (factsK fl bs) bss) (ks ++ rb)))) H'
abbrev nSpl : List Str := ["keymap", "state", "held", "thing", "table", "letters"]
theorem scSpl : FnScope nSpl ["keymap", "state", "held", "thing"] (defScope s_is_split) := ⟨rfl, rfl, rfl, by decide +kernel, rfl, by decide +kernel, by decide +kernel⟩
theorem ok_is_split {f c Pt : Addr} {fd : FuncData} (F : FunC K "is_split" s_is_split f fd c) (B : Bn mg) (TB : TabB base mg c Pt) (hPt : Pt ∈ T) (D1 : DfP P w K mg base 10 "check_held" ["keymap", "state", "held"] (spChH K T)) (D2 : DfP P w K mg base 3 "bound_in" ["keymap", "state"] (spBoundIn K T)) (D3 : DfP P w K mg base 3 "is_future" ["thing"] (spIsF K T)) (D4 : DfP P w K mg base 1 "first_event" ["table", "rest"] spFirst) : FnOk P w K mg base CX0 11 f fd ["keymap", "state", "held", "thing"] (spSpl K T) := by
  refine F.ok scSpl (fun vs H Q E ⟨_, _, _, _, _, _, _, _, _, _, _, _, _, _, _, _, h, _⟩ => by rw [h]; rfl) (fun A outer s0 H vs Q E hr h => ?_)
  have hu2 := hr.units
  obtain ⟨m, t, o, cd, ly, s, fl, bss, bs, wt, cks, p, ns, ks, ra, rb, rfl, k, h100, cm, cn, nmo, la, lb, hw, h0, hl, hp, wa, wb, l1, l2, q⟩ := h
  refine ⟨_, pss_cons (ps_expr (pcall D1 (hr.mono (by decide)) pass0 rfl (pa_cons (pv 0) (pa_cons (pv 1) (pa_cons (pv 2) pa_nil)))))
    (pss_cons (ps_if (PW.pt (pw_or (pt_not (pt_val (pe_isi (pv 3) rfl B.isinstance rfl B.tuple bt_tuple))) (pw_or1 (pt_cmpR op_ne (pe_callB call_len_seq rfl B.len PySem.boot_len (pa_cons (pv 3) pa_nil)) pe_int (nomark _))))) (pss_one (ps_ret pe_bl)) pss_nil)
    (pss_cons (ps_if (pt_not (pt_val (pe_allX (k := 3) (own := [("letters", 5)]) (hr.mono (by decide)) rfl B.all TB rfl scSpl.nd (gxs (N := nSpl) (sc := defScope s_is_split) (by decide +kernel) rfl (by decide +kernel) rfl) (pi_tup (pv 3)) (fun _ _ _ _ _ _ _ _ _ => pg_name (i := 5) scSpl.nd rfl (Or.inl rfl)) (fun _ _ _ _ _ _ _ _ _ => pts_nil) (fun _ _ _ _ _ _ _ _ r => pcall D3 (r.mono (by decide)) pass0 rfl (pa_cons (pv 5) pa_nil))))) (pss_one (ps_ret pe_bl)) pss_nil)
    (pss_cons (ps_asg (pcall D2 (hr.mono (by decide)) pass0 rfl (pa_cons (pv 0) (pa_cons (pv 1) pa_nil))) (pg_name (i := 4) scSpl.nd rfl (Or.inl rfl)))
    (pss_one (ps_ret (pe_cmpR (op_neD hu2) (pcall D4 (hr.mono (by decide)) pass0 rfl (pa_cons (pv 4) (pa_cons (pe_op op_add_str (pv 2) (pe_ix ix_tup (pv 3) pe_int (fun _ _ => rfl))) pa_nil))) (pcall D4 (hr.mono (by decide)) pass0 rfl (pa_cons (pv 4) (pa_cons (pe_op op_add_str (pv 2) (pe_ix ix_tup (pv 3) pe_int (fun _ _ => rfl))) pa_nil))) (nomark _))))))), ?_⟩
  have small : ∀ n : Nat, n ≤ 10000 → n ≤ sizeLine := fun n hn => Nat.le_trans hn (by decide)
  refine ⟨_, rfl, _, rfl, _, rfl, .ref m, .ref s, m, t, o, cd, ly, s, fl, bs, wt, mkS ks, rfl, k.toKS0, hw, by rw [mkS_len]; exact hl, fun H1 g1 => ?_⟩
  have hp1 := g1.1 p _ hp (fun ps z => by cases z)
  have da1 : Da K H1 (.ref p) (.tuple [.str (mkS ra), .str (mkS rb)]) := .tup (Or.inl hp1) (.cons (.str _) (.cons (.str _) .nil))
  refine rd_tIsi rfl da1 ⟨_, rfl, ?_⟩
  refine iteF ⟨_, rfl, p, _, rfl, Or.inr (SqT.of hp1), rfl, _, rfl, ?_⟩
  rw [decide_eq_true (show V.int (([V.str (mkS ra), V.str (mkS rb)].length : Nat) : Int) = V.int 2 from rfl)]
  refine iteF ?_
  refine rd_allT (fun _ => true) rfl (Or.inl hp1) (.cons (.str (mkS ra)) (.cons (.str (mkS rb)) .nil)) ((g1.tb k.tb) Pt hPt) (fun _ => rfl) (fun x d H' hm g hd' R hR => ?_) fun H2 g2 => ⟨_, rfl, ?_⟩
  · have tb' : Tb T H' := g.tb (g1.tb k.tb)
    have e0 : mkS [] = "" := rfl
    rcases List.mem_cons.mp hm with rfl | hm
    · cases hd'
      exact ⟨_, rfl, mkS ra, rfl, wa.imp (fun z => by rw [z]; rfl) id, by rw [mkS_len]; exact l1, tb', hR⟩
    · rw [List.mem_singleton.mp hm] at hd'
      cases hd'
      exact ⟨_, rfl, mkS rb, rfl, wb.imp (fun z => by rw [z]; rfl) id, by rw [mkS_len]; exact l2, tb', hR⟩
  refine iteF ⟨_, rfl, _, rfl, .ref m, .ref s, m, t, o, cd, ly, s, fl, bss, bs, wt, rfl, k.ge (g1.trans g2), h100, fun H3 tb g3 _ htb => ?_⟩
  dsimp only [gName]
  have hp3 := (g2.trans g3).1 p _ hp1 (fun ps z => by cases z)
  have ha0 : ks ++ ra ≠ [] := fun z => h0 (List.append_eq_nil_iff.mp z).1
  have hb0 : ks ++ rb ≠ [] := fun z => h0 (List.append_eq_nil_iff.mp z).1
  refine ⟨_, rfl, _, rfl, _, rfl, p, _, _, _, rfl, rfl, SqT.of hp3, atI_nat (j := 0) rfl, _, _, rfl, rfl, (by rw [mkS_len, mkS_len]; exact small _ (by omega)), ?_⟩
  rw [mkS_app2]
  refine ⟨tb, _, cmdOf (factsK fl bs) bss, ks ++ ra, rfl, htb, fun x => bound_cmd cm x, ha0, (by rw [List.length_append]; omega), fun H4 pa g4 hpa => ?_⟩
  have hp4 := g4.1 p _ hp3 (fun ps z => by cases z)
  refine ⟨_, rfl, _, rfl, _, rfl, p, _, _, _, rfl, rfl, SqT.of hp4, atI_nat (j := 1) rfl, _, _, rfl, rfl, (by rw [mkS_len, mkS_len]; exact small _ (by omega)), ?_⟩
  rw [mkS_app2]
  refine ⟨tb, _, cmdOf (factsK fl bs) bss, ks ++ rb, rfl, g4.dk htb, fun x => bound_cmd cm x, hb0, (by rw [List.length_append]; omega), fun H5 pb g5 hpb => ?_⟩
  have ok1 := first_evok cn la ha0 (F := factsK fl bs)
  have ok2 := first_evok cn lb hb0 (F := factsK fl bs)
  have gA : Ge H H5 := (((g1.trans g2).trans g3).trans g4).trans g5
  refine ⟨(firstEv (cmdOf (factsK fl bs) bss) (ks ++ ra)).d, (firstEv (cmdOf (factsK fl bs) bss) (ks ++ rb)).d, ev_dp ⟨pa, rfl, g5.1 pa _ hpa (fun ps z => by cases z)⟩, ev_dp ⟨pb, rfl, hpb⟩, sh_ev1 ok1 nmo, sh_ev1 ok2 nmo, ?_⟩
  rw [eqv_ev2]
  exact q H5 gA
end
end Pr
set_option maxRecDepth 100000
set_option maxHeartbeats 2000000
/-! a head by facts: a law over it, with classes and code tables -/
namespace Pr
open PySem PySem.Spec PyProof.Rows L2 GxR Gx Rp Dl Pd Tx
theorem walkX {l : PySem.W.OpenLaw} {n k : Nat} {q : Program} {loose : List Str} {XP : (Str → Option Value) → Heap → Prop} {YP : World → Heap → Prop} {d : DefRec} {x : Str}
    (h1 : l.most = some n) (h2 : n ≤ sizeLine) (h3 : d.params.defaults = []) (h4 : Room k callerA)
    (F : ∀ (w : World) (mg : Str → Option Value) (fa : Addr) (h : Heap), YP w h → h.Ns mainGlobals mg → mg d.name = some (.ref fa) → ∃ K : PySem.W.Frag, K.In h ∧ Lw.LawAtG l w K CX0 k n x mg fa h) :
    PySem.W.WalkO q loose XP YP l.row.toRowW d [] (fun f vs => PySem.call f vs) := by
  refine Att.attach_callB h1 h3 fun w s₀ s₁ mg mb fa o pm cd doc a vs ns G Y ho hd hcd hmg hobj hints hlen hbits hg => ?_
  obtain ⟨K, hK, fd, cs, sp, t1, t2, t3, t4, t5, t6⟩ := F w mg fa _ Y G.T.g hmg
  exact Lw.law_callG (CX := CX0) hK G.T.g G.T.b G.T.builtins G.T.nolimit hg t1 t2 t3 G.T.bmain hobj hints (Nat.le_trans hlen h2) h4 t6 t4 (fun H y1 y2 => t5 H a ns hlen hbits y1 y2) fun H e s' z => z
theorem dfl_nil {K : PySem.W.Frag} {dV : Value} (h : DflV K dV []) : dV = .none := by
  rcases h with ⟨_, z⟩ | ⟨z, _⟩
  · exact z
  · exact absurd rfl z
/-- a def told by its name -/
theorem def_told {K : PySem.W.Frag} {x : Str} {st : Stmt} {fd : FuncData} (g : (He.Fa.glo x).ok K = true) (F : FunD K x x (defArgs st) (defBody st) (defScope st) [] [] (He.fAd K (x, none)) fd) : ∃ c, DefAt K x st (He.ga K x) c fd ∧ He.codeOf K (x, none) = c := by
  obtain ⟨⟨oc, od, dV, kV, doc, pm, an, cdv, ct, osl, e, lk, hc, hd, _⟩, kp⟩ := F
  obtain ⟨c, rfl⟩ := He.codeIn_ref hc
  have z := dfl_nil hd
  subst z
  exact ⟨c, ⟨He.eqO_ok g, ⟨oc, od, kV, doc, pm, an, ct, osl, e, lk⟩, hc, kp⟩, He.codeOf_eq lk (by rw [e])⟩
/-- a method told by its class's name and its own -/
theorem met_told {K : PySem.W.Frag} {X m qn : Str} {st : Stmt} {fd : FuncData} (F : FunD K m qn (defArgs st) (defBody st) (defScope st) [] [] (He.fAd K (X, some m)) fd) : ∃ c, FunM K m qn st (He.ma K (He.ga K X) m) fd c ∧ He.codeOf K (X, some m) = c := by
  obtain ⟨⟨oc, od, dV, kV, doc, pm, an, cdv, ct, osl, e, lk, hc, hd, _⟩, kp⟩ := F
  obtain ⟨c, rfl⟩ := He.codeIn_ref hc
  have z := dfl_nil hd
  subst z
  exact ⟨c, ⟨⟨oc, od, kV, doc, pm, an, ct, osl, e, lk, hc⟩, kp⟩, He.codeOf_eq lk (by rw [e])⟩
/-- an empty code table at the head's end -/
structure TbX (K : PySem.W.Frag) (h : Heap) (c P : Addr) : Prop where
  e : h.get? P = some { cls := .none, data := .fields #[] }
  n : K.lookup P = none
  hd : PySem.W.CodeHd h c P
theorem tab_told {fa : List He.Fa} {fn : List He.DefD} {ts : List He.Tab} {tf : List He.Defn} {ex : PySem.W.Frag → Bool} {w : World} {h : Heap} {K : PySem.W.Frag} (X : K.In h) (S : He.SaysX fa fn ts tf ex w h K) {p : He.Defn} (hp : p ∈ tf) {c : Addr} (e : He.codeOf K p = c) : ∃ Pt, TbX K h c Pt := by
  refine ⟨(He.cT K p).2, S.empty p hp, S.out p hp, ?_⟩
  have z := PySem.W.codeHd_of_K X (S.hd p hp)
  rw [← e]
  exact z
section
variable {P : Program} {w : World} {K : PySem.W.Frag} {mg : Str → Option Value} {base : Heap} {C f c : Addr} {fd : FuncData} {k : Nat} {m x qn : Str} {st : Stmt} {ps : List Str} {sp : Sp}
theorem met_p (hm : Meth K C m f) (F : FunM K m qn st f fd c) (ok : FnOk P w K mg base CX0 k f fd ps sp)
    (hb : ∀ (kV doc pm : Value) (an : Option Addr) (cdv ct : Value) (us : List Value), us.length = ps.length → bindArgs (PySem.W.fnOf m qn (defArgs st) (defBody st) (defScope st) .none kV doc pm an cdv ct) ⟨us, []⟩ = pure (ps.zip us)) : MtP P w K mg base k C m ps sp := ⟨f, fd, hm, F.binds hb, ok⟩
end
end Pr
set_option maxRecDepth 100000
set_option maxHeartbeats 2000000
/-! what the head tells -/
namespace HX
open PySem PySem.W PyProof.Rows L2 Tx
def nm0 : List PySem.Str := ["__name__", "KeywaitError", "NoMap", "NoState", "NoKeys", "LONGEST_NAME", "MOST_KEYS", "is_integer", "is_boolean", "is_within", "is_word", "is_name", "is_keys", "is_ascending", "MOST_FLAGS", "MOST_COMMANDS", "MOST_LAYERS", "MOST_BINDINGS", "LONGEST_WAIT", "is_map", "check_map", "check_state", "fits_state", "bound_in", "facts_of", "holds", "are_flags", "are_outside", "are_names", "are_settings"]
def nm1 : List PySem.Str := ["are_commands", "are_layers", "is_binding", "first_event", "MOST_HELD", "is_split", "check_held", "is_future", "_law_wrong_sign", "_law_spoilt", "_law_open", "_law_spread", "_law_take", "_law_same", "_law_one_of", "_law_draw_condition", "_law_draw_keys", "_law_draw_map", "_law_draw_state", "_law_holds", "_law_winners", "_law_table", "_law_event", "_law_is_more", "_law_draw_more", "_law_draw_value"]
def names : List PySem.Str := nm0 ++ nm1
abbrev fa0 : List He.Fa := [.glo "is_boolean", .glo "is_integer", .glo "is_word", .glo "is_name", .glo "is_keys", .glo "is_within", .glo "is_ascending", .glo "are_names", .glo "are_flags", .glo "are_outside", .glo "are_settings", .glo "are_commands", .glo "is_binding", .glo "are_layers", .glo "is_map", .glo "check_map", .glo "fits_state", .glo "check_state", .glo "facts_of", .glo "holds", .glo "bound_in", .glo "check_held", .glo "is_future", .glo "first_event", .glo "is_split"]
abbrev fa1 : List He.Fa := [.glo "_law_spread", .glo "_law_open", .glo "_law_take", .glo "_law_one_of", .glo "_law_draw_condition", .glo "_law_draw_keys", .glo "_law_draw_map", .glo "_law_draw_state", .glo "_law_holds", .glo "_law_winners", .glo "_law_table", .glo "_law_wrong_sign", .glo "_law_spoilt", .glo "_law_is_more", .glo "_law_draw_more", .glo "_law_draw_value", .glo "_law_same", .glo "_law_event", .glo "law", .int "LONGEST_NAME" 8, .int "MOST_KEYS" 4, .int "MOST_FLAGS" 3, .int "MOST_COMMANDS" 8, .int "MOST_LAYERS" 4, .int "MOST_BINDINGS" 16]
abbrev fa2 : List He.Fa := [.int "LONGEST_WAIT" 1000, .int "MOST_HELD" 3, .free "isinstance", .free "len", .free "all", .free "sum", .free "zip", .free "range", .free "repr", .free "enumerate", .free "tuple", .free "list", .free "dict", .free "str", .free "int", .free "bool", .free "sorted", .free "min"]
abbrev fa : List He.Fa := fa0 ++ fa1 ++ fa2
abbrev dd0 : He.DefD := ⟨("is_boolean", none), "is_boolean", "is_boolean", defArgs s_is_boolean, defBody s_is_boolean, defScope s_is_boolean, [], []⟩
abbrev dd1 : He.DefD := ⟨("is_integer", none), "is_integer", "is_integer", defArgs s_is_integer, defBody s_is_integer, defScope s_is_integer, [], []⟩
abbrev dd2 : He.DefD := ⟨("is_word", none), "is_word", "is_word", defArgs s_is_word, defBody s_is_word, defScope s_is_word, [], []⟩
abbrev dd3 : He.DefD := ⟨("is_name", none), "is_name", "is_name", defArgs s_is_name, defBody s_is_name, defScope s_is_name, [], []⟩
abbrev dd4 : He.DefD := ⟨("is_keys", none), "is_keys", "is_keys", defArgs s_is_keys, defBody s_is_keys, defScope s_is_keys, [], []⟩
abbrev dd5 : He.DefD := ⟨("is_within", none), "is_within", "is_within", defArgs s_is_within, defBody s_is_within, defScope s_is_within, [], []⟩
abbrev dd6 : He.DefD := ⟨("is_ascending", none), "is_ascending", "is_ascending", defArgs s_is_ascending, defBody s_is_ascending, defScope s_is_ascending, [], []⟩
abbrev dd7 : He.DefD := ⟨("are_names", none), "are_names", "are_names", defArgs s_are_names, defBody s_are_names, defScope s_are_names, [], []⟩
abbrev dd8 : He.DefD := ⟨("are_flags", none), "are_flags", "are_flags", defArgs s_are_flags, defBody s_are_flags, defScope s_are_flags, [], []⟩
abbrev dd9 : He.DefD := ⟨("are_outside", none), "are_outside", "are_outside", defArgs s_are_outside, defBody s_are_outside, defScope s_are_outside, [], []⟩
abbrev dd10 : He.DefD := ⟨("are_settings", none), "are_settings", "are_settings", defArgs s_are_settings, defBody s_are_settings, defScope s_are_settings, [], []⟩
abbrev dd11 : He.DefD := ⟨("are_commands", none), "are_commands", "are_commands", defArgs s_are_commands, defBody s_are_commands, defScope s_are_commands, [], []⟩
abbrev dd12 : He.DefD := ⟨("is_binding", none), "is_binding", "is_binding", defArgs s_is_binding, defBody s_is_binding, defScope s_is_binding, [], []⟩
abbrev dd13 : He.DefD := ⟨("are_layers", none), "are_layers", "are_layers", defArgs s_are_layers, defBody s_are_layers, defScope s_are_layers, [], []⟩
abbrev dd14 : He.DefD := ⟨("is_map", none), "is_map", "is_map", defArgs s_is_map, defBody s_is_map, defScope s_is_map, [], []⟩
abbrev dd15 : He.DefD := ⟨("check_map", none), "check_map", "check_map", defArgs s_check_map, defBody s_check_map, defScope s_check_map, [], []⟩
abbrev dd16 : He.DefD := ⟨("fits_state", none), "fits_state", "fits_state", defArgs s_fits_state, defBody s_fits_state, defScope s_fits_state, [], []⟩
abbrev dd17 : He.DefD := ⟨("check_state", none), "check_state", "check_state", defArgs s_check_state, defBody s_check_state, defScope s_check_state, [], []⟩
abbrev dd18 : He.DefD := ⟨("facts_of", none), "facts_of", "facts_of", defArgs s_facts_of, defBody s_facts_of, defScope s_facts_of, [], []⟩
abbrev dd19 : He.DefD := ⟨("holds", none), "holds", "holds", defArgs s_holds, defBody s_holds, defScope s_holds, [], []⟩
abbrev dd20 : He.DefD := ⟨("bound_in", none), "bound_in", "bound_in", defArgs s_bound_in, defBody s_bound_in, defScope s_bound_in, [], []⟩
abbrev dd21 : He.DefD := ⟨("check_held", none), "check_held", "check_held", defArgs s_check_held, defBody s_check_held, defScope s_check_held, [], []⟩
abbrev dd22 : He.DefD := ⟨("is_future", none), "is_future", "is_future", defArgs s_is_future, defBody s_is_future, defScope s_is_future, [], []⟩
abbrev dd23 : He.DefD := ⟨("first_event", none), "first_event", "first_event", defArgs s_first_event, defBody s_first_event, defScope s_first_event, [], []⟩
abbrev dd24 : He.DefD := ⟨("is_split", none), "is_split", "is_split", defArgs s_is_split, defBody s_is_split, defScope s_is_split, [], []⟩
abbrev dd25 : He.DefD := ⟨("_law_spread", none), "_law_spread", "_law_spread", defArgs s_law_spread, defBody s_law_spread, defScope s_law_spread, [], []⟩
abbrev dd26 : He.DefD := ⟨("_law_open", none), "_law_open", "_law_open", defArgs s_law_open, defBody s_law_open, defScope s_law_open, [], []⟩
abbrev dd27 : He.DefD := ⟨("_law_take", none), "_law_take", "_law_take", defArgs s_law_take, defBody s_law_take, defScope s_law_take, [], []⟩
abbrev dd28 : He.DefD := ⟨("_law_one_of", none), "_law_one_of", "_law_one_of", defArgs s_law_one_of, defBody s_law_one_of, defScope s_law_one_of, [], []⟩
abbrev dd29 : He.DefD := ⟨("_law_draw_condition", none), "_law_draw_condition", "_law_draw_condition", defArgs s_law_draw_condition, defBody s_law_draw_condition, defScope s_law_draw_condition, [], []⟩
abbrev dd30 : He.DefD := ⟨("_law_draw_keys", none), "_law_draw_keys", "_law_draw_keys", defArgs s_law_draw_keys, defBody s_law_draw_keys, defScope s_law_draw_keys, [], []⟩
abbrev dd31 : He.DefD := ⟨("_law_draw_map", none), "_law_draw_map", "_law_draw_map", defArgs s_law_draw_map, defBody s_law_draw_map, defScope s_law_draw_map, [], []⟩
abbrev dd32 : He.DefD := ⟨("_law_draw_state", none), "_law_draw_state", "_law_draw_state", defArgs s_law_draw_state, defBody s_law_draw_state, defScope s_law_draw_state, [], []⟩
abbrev dd33 : He.DefD := ⟨("_law_holds", none), "_law_holds", "_law_holds", defArgs s_law_holds, defBody s_law_holds, defScope s_law_holds, [], []⟩
abbrev dd34 : He.DefD := ⟨("_law_winners", none), "_law_winners", "_law_winners", defArgs s_law_winners, defBody s_law_winners, defScope s_law_winners, [], []⟩
abbrev dd35 : He.DefD := ⟨("_law_table", none), "_law_table", "_law_table", defArgs s_law_table, defBody s_law_table, defScope s_law_table, [], []⟩
abbrev dd36 : He.DefD := ⟨("_law_wrong_sign", none), "_law_wrong_sign", "_law_wrong_sign", defArgs s_law_wrong_sign, defBody s_law_wrong_sign, defScope s_law_wrong_sign, [], []⟩
abbrev dd37 : He.DefD := ⟨("_law_spoilt", none), "_law_spoilt", "_law_spoilt", defArgs s_law_spoilt, defBody s_law_spoilt, defScope s_law_spoilt, [], []⟩
abbrev dd38 : He.DefD := ⟨("_law_is_more", none), "_law_is_more", "_law_is_more", defArgs s_law_is_more, defBody s_law_is_more, defScope s_law_is_more, [], []⟩
abbrev dd39 : He.DefD := ⟨("_law_draw_more", none), "_law_draw_more", "_law_draw_more", defArgs s_law_draw_more, defBody s_law_draw_more, defScope s_law_draw_more, [], []⟩
abbrev dd40 : He.DefD := ⟨("_law_draw_value", none), "_law_draw_value", "_law_draw_value", defArgs s_law_draw_value, defBody s_law_draw_value, defScope s_law_draw_value, [], []⟩
abbrev dd41 : He.DefD := ⟨("_law_same", none), "_law_same", "_law_same", defArgs s_law_same, defBody s_law_same, defScope s_law_same, [], []⟩
abbrev dd42 : He.DefD := ⟨("_law_event", none), "_law_event", "_law_event", defArgs s_law_event, defBody s_law_event, defScope s_law_event, [], []⟩
abbrev dd43 : He.DefD := ⟨("law", none), "law", "law", defArgs s_law, defBody s_law, defScope s_law, [], []⟩
abbrev fn0 : List He.DefD := [dd0, dd1, dd2, dd3, dd4, dd5, dd6, dd7, dd8, dd9, dd10, dd11, dd12, dd13, dd14, dd15, dd16, dd17, dd18, dd19, dd20, dd21, dd22, dd23, dd24]
abbrev fn1 : List He.DefD := [dd25, dd26, dd27, dd28, dd29, dd30, dd31, dd32, dd33, dd34, dd35, dd36, dd37, dd38, dd39, dd40, dd41, dd42, dd43]
abbrev fn : List He.DefD := fn0 ++ fn1
abbrev tf : List He.Defn := [("is_word", none), ("are_names", none), ("are_outside", none), ("are_settings", none), ("are_commands", none), ("are_layers", none), ("fits_state", none), ("holds", none), ("is_split", none), ("_law_event", none)]
def exf : PySem.W.Frag → Bool := fun K => ([("is_word", none), ("are_names", none), ("are_outside", none), ("are_settings", none), ("are_commands", none), ("are_layers", none), ("fits_state", none), ("holds", none), ("is_split", none)] : List He.Defn).all fun p => decide ((He.cT K p).2 ≠ (He.cT K ("_law_event", none)).2)
end HX
set_option maxRecDepth 100000
set_option maxHeartbeats 0
namespace HX
open PySem PySem.W PySem.Calls PyProof.Rows
abbrev R : OpenRow := OpenLaw.row PySem.Challenge.rw_keywait_k22_splits_recognized
abbrev hk : Hook := He.hookX 4 fa fn [] tf exf
def ob (s : SharedT) : He.AlX := He.obsX 4 fa fn [] tf exf (HandSHeadRun.getT s)
theorem ob_eq (s : SharedT) : ob s = hk.obs s.abs := He.obsX_eq (HandSHeadRun.getT_eq s)
theorem run (w : World) : HandSHeadRun.RunEq R (view R.prog [61]) hk ob 20000 names w := by
  intro os
  kernel_rfl
end HX
set_option maxRecDepth 100000
set_option maxHeartbeats 2000000
/-! any data == a text -/
namespace PySem.SeqAt
open AutoSeq1 (wpAny_loadPart')
open MeetsSeq
theorem dict_eq_declines_str (l : Addr) (es : Array DictEntry) (n : Nat) (dd : Option Addr) (sl : Array (Option Value)) (b : Str) (u : Tok) :
    Meets (Builtin.«dict.__eq__» ⟨[.ref l, .str b u], []⟩) (fun _ R s => s.heap.get? l = some { cls := .type "dict", dict := dd, data := .dict es n, slots := sl } ∧ R (.ok (.ret .notImplemented)) s) :=
  .of_wp fun prog w A R s h => by obtain ⟨hp, g, d, tk, os⟩ := s; obtain ⟨hl, h⟩ := h; have f1 := F.sub_str_dict; wp_walk using wpAny_loadPart' hl; exact ⟨_, rfl, h⟩
theorem str_eq_declines_dict (b : Str) (u : Tok) (l : Addr) (c : Value) (es : Array DictEntry) (n : Nat) (dd : Option Addr) (sl : Array (Option Value)) :
    Meets (Builtin.«str.__eq__» ⟨[.str b u, .ref l], []⟩) (fun _ R s => s.heap.get? l = some { cls := c, dict := dd, data := .dict es n, slots := sl } ∧ R (.ok (.ret .notImplemented)) s) :=
  .of_wp fun prog w A R s h => by obtain ⟨hp, g, d, tk, os⟩ := s; obtain ⟨hl, h⟩ := h; wp_walk using wpAny_loadPart' hl, wpAny_load hl; exact ⟨_, rfl, h⟩
section
variable {A : Around} {s : Shared}
theorem RcAt.dict_str {l : Addr} {o : Obj} {es : Array DictEntry} {n : Nat} (b : Str) (u : Tok) (hl : s.heap.get? l = some o) (hc : o.cls = .type "dict") (hd : o.data = .dict es n) (hu : A.units < cLine) : RcAt A s (.ref l) (.str b u) false := fun prog w E Q h => by
  obtain ⟨cls, dd, data, sl⟩ := o
  simp only at hc hd
  subst hc hd
  exact rc_eq_decline_or (k := false) ⟨_, hl, rfl⟩ (typeIs_str s b u) (by decide) F.sub_str_dict F.slot_dict_eq F.slot_str_eq_refl
    (fun _ hq => call_meets F.slot_dict_eq ⟨_, hl, rfl⟩ F.entry_dict_eq (F.args_dict_eq_2 _ _) (dict_eq_declines_str l es n dd sl b u) ⟨hl, hq⟩)
    (fun _ hq => call_meets F.slot_str_eq_refl (typeIs_str s b u) F.entry_str_eq (F.args_str_eq_2 _ _) (str_eq_declines_dict b u l (.type "dict") es n dd sl) ⟨hl, hq⟩)
    (fun _ hq => wpAny_of_eq (rfl : isSame (.ref l) (.str b u) = pure false) hq) (.inr hu) h
end
end PySem.SeqAt
namespace Pr
open PySem PySem.Spec PyProof.Rows L2 GxR Gx Rp Dl
/-- whether data is just this text -/
def eqT : PyData → Str → Bool
  | .str x, z => x == z
  | _, _ => false
section
variable {X : Cx}
def rEqT (K : PySem.W.Frag) : R2 := fun x y H Q => ∃ d z, Da K H x d ∧ y = .str z ∧ Q (.bl (eqT d z)) H
theorem op_eqT (hu : X.A.units + 64 < cLine) : OpR X (compareOp .Eq) (rEqT X.K) := by
  intro pins s σ H x y v u Q I rx ry h
  obtain ⟨d, z, hd, rfl, q⟩ := h
  obtain ⟨t, rfl⟩ := ry
  obtain ⟨as, r, _⟩ := Da.reads I d x v hd rx
  have hu' : X.A.units < cLine := by omega
  suffices hh : SeqAt.RcAt X.A s v (.str z t) (eqT d z) from hh X.prog X.w _ _ ⟨.bl _, H, I, rfl, q⟩
  cases r with
  | none => exact SeqAt.RcAt.none_str z t
  | bool b => exact SeqAt.RcAt.bool_str b z t
  | int i t' => exact SeqAt.RcAt.int_str i t' z t
  | str x' t' => exact SeqAt.RcAt.str_str x' t' z t
  | list k1 k2 k3 k4 => exact SeqAt.RcAt.list_str z t ⟨_, k1, k2, _, k3⟩ hu'
  | tuple k1 k2 k3 k4 => exact SeqAt.RcAt.tuple_str z t ⟨_, k1, k2, _, k3⟩ hu'
  | dict k1 k2 k3 k4 k5 => exact SeqAt.RcAt.dict_str z t k1 k2 k3 hu'
end
end Pr
set_option maxRecDepth 100000
set_option maxHeartbeats 4000000
/-! is_future and is_split over any data -/
namespace Pr
open PySem PySem.Spec PyProof.Rows L2 GxR Gx Rp Dl Pd Tx Zq
def futD (d : PyData) : Bool := eqT d "" || isWord 4 d
theorem fut_str {d : PyData} (h : futD d = true) : ∃ ra : List Nat, d = .str (mkS ra) ∧ ra.length ≤ 4 ∧ ∀ c ∈ ra, isL c := by
  unfold futD at h
  cases d with
  | str x =>
    refine ⟨x.cps.toList, rfl, ?_⟩
    rw [Bool.or_eq_true] at h
    rcases h with h | h
    · have e : x = "" := eq_of_beq h
      subst e
      exact ⟨by decide, fun c hc => by cases hc⟩
    · have z : (decide (1 ≤ (x.length : Int)) && decide ((x.length : Int) ≤ 4) && letters x) = true := h
      rw [Bool.and_eq_true, Bool.and_eq_true] at z
      have l4 := of_decide_eq_true z.1.2
      have e : x.length = x.cps.toList.length := rfl
      refine ⟨by omega, fun c hc => ?_⟩
      have y := List.all_eq_true.mp z.2 c hc
      rw [Bool.and_eq_true] at y
      exact ⟨of_decide_eq_true y.1, of_decide_eq_true y.2⟩
  | none => cases h
  | bool b => cases h
  | int i => cases h
  | list xs => cases h
  | tuple xs => cases h
  | dict kvs => cases h
/-- whether data is a split -/
noncomputable def splC (C : Str → Option Str) (ks : List Nat) : PyData → Bool
  | .tuple [.str a, .str b] => futD (.str a) && futD (.str b) && !decide (firstEv C (ks ++ a.cps.toList) = firstEv C (ks ++ b.cps.toList))
  | _ => false
theorem spl_two {C : Str → Option Str} {ks : List Nat} {d : PyData} (h : splC C ks d = true) : ∃ a b, d = .tuple [.str a, .str b] ∧ futD (.str a) = true ∧ futD (.str b) = true := by
  unfold splC at h
  split at h
  · rw [Bool.and_eq_true, Bool.and_eq_true] at h
    exact ⟨_, _, rfl, h.1.1, h.1.2⟩
  · cases h
theorem spl_no {C : Str → Option Str} {ks : List Nat} {d : PyData} (h : ∀ a b, d = .tuple [.str a, .str b] → futD (.str a) = true → futD (.str b) = true → False) : splC C ks d = false := by
  cases e : splC C ks d with
  | false => rfl
  | true =>
    obtain ⟨a, b, e1, e2, e3⟩ := spl_two e
    exact (h a b e1 e2 e3).elim
theorem small_at {ds : List PyData} (h : smallAll ds = true) {d : PyData} (hd : d ∈ ds) : small d = true := by
  induction ds with
  | nil => cases hd
  | cons x r ih =>
    have z : (small x && smallAll r) = true := by simpa only [smallAll] using h
    rw [Bool.and_eq_true] at z
    rcases List.mem_cons.mp hd with rfl | hd
    · exact z.1
    · exact ih z.2 hd
section
variable {P : Program} {w : World} {K : PySem.W.Frag} {mg : Str → Option Value} {base : Heap} {T : List Addr}
def spIsFA (K : PySem.W.Frag) (T : List Addr) : Sp := fun vs H Q _ => ∃ v d, vs = [v] ∧ Da K H v d ∧ small d = true ∧ Tb T H ∧ ∀ H', Ge H H' → Q (.bl (futD d)) H'
theorem ok_is_futureA {f c : Addr} {fd : FuncData} (F : FunC K "is_future" s_is_future f fd c) (D2 : DfP P w K mg base 2 "is_word" ["thing", "most"] (spW K T)) {tk : Tok} (hc : mg "MOST_KEYS" = some (.int 4 tk)) : FnOk P w K mg base CX0 3 f fd ["thing"] (spIsFA K T) := by
  refine F.ok scIsF (fun vs H Q E ⟨_, _, h, _⟩ => by rw [h]; rfl) (fun A outer s0 H vs Q E hr h => ?_)
  have hu2 := hr.units
  obtain ⟨x, d, rfl, hd, sm, tb, q⟩ := h
  refine ⟨_, pss_one (ps_ret (pe_or (pe_cmpR (op_eqT hu2) (pv 0) pe_str (nomark _)) (pe_one (pcall D2 hr pass0 rfl (pa_cons (pv 0) (pa_cons (pe_glob (v := .int 4) rfl hc ⟨_, rfl⟩) pa_nil)))))), ?_⟩
  refine ⟨_, rfl, d, "", hd, rfl, _, rfl, ?_⟩
  cases e : eqT d "" with
  | true =>
    have z := q H (Ge.refl H)
    unfold futD at z
    rw [e] at z
    exact iteT z
  | false =>
    refine iteF ⟨_, rfl, x, d, 4, rfl, hd, sm, tb, fun H2 g2 => ?_⟩
    have z := q H2 g2
    unfold futD at z
    rw [e] at z
    exact z
def spSplA (K : PySem.W.Frag) (T : List Addr) : Sp := fun vs H Q _ => ∃ m t o cd ly s fl bss bs wt cks v d ns, ∃ ks : List Nat, vs = [.ref m, .ref s, .str (mkS ks), v] ∧ KS K T H (.ref m) (.ref s) m t o cd ly s fl bss bs wt ∧ bss.flatten.length ≤ 100 ∧ CmOk bss cks ∧ CmNs bss ns ∧ (∀ n ∈ ns, NmOk n) ∧ (∀ c ∈ ks, isL c) ∧ isWord 3 (.str (mkS ks)) = true ∧ ks ≠ [] ∧ ks.length ≤ 100 ∧ Da K H v d ∧ small d = true ∧ ∀ H', Ge H H' → Q (.bl (splC (cmdOf (factsK fl bs) bss) ks d)) H'
theorem ok_is_splitA {f c Pt : Addr} {fd : FuncData} (F : FunC K "is_split" s_is_split f fd c) (B : Bn mg) (TB : TabB base mg c Pt) (hPt : Pt ∈ T) (D1 : DfP P w K mg base 10 "check_held" ["keymap", "state", "held"] (spChH K T)) (D2 : DfP P w K mg base 3 "bound_in" ["keymap", "state"] (spBoundIn K T)) (D3 : DfP P w K mg base 3 "is_future" ["thing"] (spIsFA K T)) (D4 : DfP P w K mg base 1 "first_event" ["table", "rest"] spFirst) : FnOk P w K mg base CX0 11 f fd ["keymap", "state", "held", "thing"] (spSplA K T) := by
  refine F.ok scSpl (fun vs H Q E ⟨_, _, _, _, _, _, _, _, _, _, _, _, _, _, _, h, _⟩ => by rw [h]; rfl) (fun A outer s0 H vs Q E hr h => ?_)
  have hu2 := hr.units
  obtain ⟨m, t, o, cd, ly, s, fl, bss, bs, wt, cks, v, d, ns, ks, rfl, k, h100, cm, cn, nmo, lks, hw, h0, hl, hd, sm, q⟩ := h
  refine ⟨_, pss_cons (ps_expr (pcall D1 (hr.mono (by decide)) pass0 rfl (pa_cons (pv 0) (pa_cons (pv 1) (pa_cons (pv 2) pa_nil)))))
    (pss_cons (ps_if (PW.pt (pw_or (pt_not (pt_val (pe_isi (pv 3) rfl B.isinstance rfl B.tuple bt_tuple))) (pw_or1 (pt_cmpR op_ne (pe_callB call_len_seq rfl B.len PySem.boot_len (pa_cons (pv 3) pa_nil)) pe_int (nomark _))))) (pss_one (ps_ret pe_bl)) pss_nil)
    (pss_cons (ps_if (pt_not (pt_val (pe_allX (k := 3) (own := [("letters", 5)]) (hr.mono (by decide)) rfl B.all TB rfl scSpl.nd (gxs (N := nSpl) (sc := defScope s_is_split) (by decide +kernel) rfl (by decide +kernel) rfl) (pi_tup (pv 3)) (fun _ _ _ _ _ _ _ _ _ => pg_name (i := 5) scSpl.nd rfl (Or.inl rfl)) (fun _ _ _ _ _ _ _ _ _ => pts_nil) (fun _ _ _ _ _ _ _ _ r => pcall D3 (r.mono (by decide)) pass0 rfl (pa_cons (pv 5) pa_nil))))) (pss_one (ps_ret pe_bl)) pss_nil)
    (pss_cons (ps_asg (pcall D2 (hr.mono (by decide)) pass0 rfl (pa_cons (pv 0) (pa_cons (pv 1) pa_nil))) (pg_name (i := 4) scSpl.nd rfl (Or.inl rfl)))
    (pss_one (ps_ret (pe_cmpR (op_neD hu2) (pcall D4 (hr.mono (by decide)) pass0 rfl (pa_cons (pv 4) (pa_cons (pe_op op_add_str (pv 2) (pe_ix ix_tup (pv 3) pe_int (fun _ _ => rfl))) pa_nil))) (pcall D4 (hr.mono (by decide)) pass0 rfl (pa_cons (pv 4) (pa_cons (pe_op op_add_str (pv 2) (pe_ix ix_tup (pv 3) pe_int (fun _ _ => rfl))) pa_nil))) (nomark _))))))), ?_⟩
  have small : ∀ n : Nat, n ≤ 10000 → n ≤ sizeLine := fun n hn => Nat.le_trans hn (by decide)
  refine ⟨_, rfl, _, rfl, _, rfl, .ref m, .ref s, m, t, o, cd, ly, s, fl, bs, wt, mkS ks, rfl, k.toKS0, hw, by rw [mkS_len]; exact hl, fun H1 g1 => ?_⟩
  have da1 := g1.da hd
  have no : (∀ a b, d = .tuple [.str a, .str b] → futD (.str a) = true → futD (.str b) = true → False) → ∀ H', Ge H1 H' → Q (.bl false) H' := fun h H' g => by
    have z := q H' (g1.trans g)
    rw [spl_no h] at z
    exact z
  refine rd_tIsi rfl da1 ⟨_, rfl, ?_⟩
  cases ety : isTy "tuple" d with
  | false => exact iteT (no (fun a b e _ _ => by rw [e] at ety; simp [isTy, tyName] at ety) H1 (Ge.refl _))
  | true =>
    obtain ⟨ds, rfl⟩ : ∃ ds, d = .tuple ds := by
      cases d with
      | tuple ds => exact ⟨ds, rfl⟩
      | _ => first | exact absurd ety (by decide) | (simp [isTy, tyName] at ety)
    obtain ⟨sm1, sm2⟩ := small_tup sm
    obtain ⟨p, xs, rfl, hp1, hds⟩ : ∃ p xs, v = .ref p ∧ Rd H1 p (.tup xs) ∧ DaAll K H1 xs ds := by
      cases da1 with
      | tup h1 h2 => exact ⟨_, _, rfl, h1, h2⟩
    have ll := daAll_len hds
    refine iteF ⟨_, rfl, p, _, rfl, Or.inr (Or.inl hp1), rfl, _, rfl, ?_⟩
    by_cases l2 : ds.length = 2
    case neg =>
      rw [decide_eq_false (show ¬ V.int ((xs.length : Nat) : Int) = V.int 2 from fun z => by have := V.int.inj z; omega)]
      exact iteT (no (fun a b e _ _ => l2 (by injection e with e; rw [e]; rfl)) H1 (Ge.refl _))
    case pos =>
    rw [decide_eq_true (show V.int ((xs.length : Nat) : Int) = V.int 2 by rw [← ll, l2]; rfl)]
    refine iteF ?_
    refine rd_allT futD rfl hp1 hds ((g1.tb k.tb) Pt hPt) (fun _ => rfl) (fun x d' H' hm g hd' R hR => ⟨_, rfl, x, d', rfl, hd', small_at sm2 hm, g.tb (g1.tb k.tb), hR⟩) fun H2 g2 => ⟨_, rfl, ?_⟩
    cases eal : ds.all futD with
    | false =>
      exact iteT (no (fun a b e f1 f2 => by
        injection e with e
        rw [e] at eal
        simp only [List.all_cons, List.all_nil, f1, f2] at eal
        cases eal) H2 g2)
    | true =>
    match ds, l2, hds, eal, q with
    | [d1, d2], _, hds, eal, q =>
    have f1 : futD d1 = true := List.all_eq_true.mp eal d1 List.mem_cons_self
    have f2 : futD d2 = true := List.all_eq_true.mp eal d2 (List.mem_cons_of_mem _ List.mem_cons_self)
    obtain ⟨ra, rfl, l1, la0⟩ := fut_str f1
    obtain ⟨rb, rfl, l2, lb0⟩ := fut_str f2
    cases hds with
    | cons h1 h2 =>
    cases h2 with
    | cons h2 h3 =>
    cases h1
    cases h2
    cases h3
    have la : ∀ c ∈ ks ++ ra, isL c := fun c hc => (List.mem_append.mp hc).elim (lks c) (la0 c)
    have lb : ∀ c ∈ ks ++ rb, isL c := fun c hc => (List.mem_append.mp hc).elim (lks c) (lb0 c)
    have fin : ∀ H', Ge H H' → Q (.bl (!decide (firstEv (cmdOf (factsK fl bs) bss) (ks ++ ra) = firstEv (cmdOf (factsK fl bs) bss) (ks ++ rb)))) H' := fun H' g => by
      have z := q H' g
      have e : splC (cmdOf (factsK fl bs) bss) ks (.tuple [.str (mkS ra), .str (mkS rb)]) = !decide (firstEv (cmdOf (factsK fl bs) bss) (ks ++ ra) = firstEv (cmdOf (factsK fl bs) bss) (ks ++ rb)) := by
        show (futD (.str (mkS ra)) && futD (.str (mkS rb)) && _) = _
        rw [f1, f2]
        rfl
      rw [e] at z
      exact z
    refine iteF ⟨_, rfl, _, rfl, .ref m, .ref s, m, t, o, cd, ly, s, fl, bss, bs, wt, rfl, k.ge (g1.trans g2), h100, fun H3 tb g3 _ htb => ?_⟩
    dsimp only [gName]
    have hp3 := (g2.trans g3).rd (fun ps z => by cases z) hp1
    have ha0 : ks ++ ra ≠ [] := fun z => h0 (List.append_eq_nil_iff.mp z).1
    have hb0 : ks ++ rb ≠ [] := fun z => h0 (List.append_eq_nil_iff.mp z).1
    refine ⟨_, rfl, _, rfl, _, rfl, p, _, _, _, rfl, rfl, Or.inl hp3, atI_nat (j := 0) rfl, _, _, rfl, rfl, (by rw [mkS_len, mkS_len]; exact small _ (by omega)), ?_⟩
    rw [mkS_app2]
    refine ⟨tb, _, cmdOf (factsK fl bs) bss, ks ++ ra, rfl, htb, fun x => bound_cmd cm x, ha0, (by rw [List.length_append]; omega), fun H4 pa g4 hpa => ?_⟩
    have hp4 := g4.rd (fun ps z => by cases z) hp3
    refine ⟨_, rfl, _, rfl, _, rfl, p, _, _, _, rfl, rfl, Or.inl hp4, atI_nat (j := 1) rfl, _, _, rfl, rfl, (by rw [mkS_len, mkS_len]; exact small _ (by omega)), ?_⟩
    rw [mkS_app2]
    refine ⟨tb, _, cmdOf (factsK fl bs) bss, ks ++ rb, rfl, g4.dk htb, fun x => bound_cmd cm x, hb0, (by rw [List.length_append]; omega), fun H5 pb g5 hpb => ?_⟩
    have ok1 := first_evok cn la ha0 (F := factsK fl bs)
    have ok2 := first_evok cn lb hb0 (F := factsK fl bs)
    have gA : Ge H H5 := (((g1.trans g2).trans g3).trans g4).trans g5
    refine ⟨(firstEv (cmdOf (factsK fl bs) bss) (ks ++ ra)).d, (firstEv (cmdOf (factsK fl bs) bss) (ks ++ rb)).d, ev_dp ⟨pa, rfl, g5.1 pa _ hpa (fun ps z => by cases z)⟩, ev_dp ⟨pb, rfl, hpb⟩, sh_ev1 ok1 nmo, sh_ev1 ok2 nmo, ?_⟩
    rw [eqv_ev2]
    exact fin H5 gA
end
end Pr
set_option maxRecDepth 100000
set_option maxHeartbeats 4000000
/-! the law of k22: what may come behind; spoilt words -/
namespace Pr
open PySem PySem.Spec PyProof.Rows L2 GxR Gx Rp Dl Pd Tx Zq Zs
def abcL : List V := sgn "abcdefghijklmnopqrstuvwxyz"
theorem abc_flat : abcL.all flatV = true := by decide +kernel
def isCh2 (c : Nat) : Bool := decide (97 ≤ c) && decide (c ≤ 122)
theorem in_signs (c : Nat) : ∀ ks : List Nat, inV (.str ⟨#[c]⟩) (ks.map fun k => V.str ⟨#[k]⟩) = ks.any fun k => decide (k = c)
  | [] => rfl
  | k :: r => by
    show (eqV (.str ⟨#[k]⟩) (.str ⟨#[c]⟩) || inV (.str ⟨#[c]⟩) (r.map fun k => V.str ⟨#[k]⟩)) = _
    rw [in_signs c r, List.any_cons]
    congr 1
    show ((⟨#[k]⟩ : Str) == ⟨#[c]⟩) = _
    by_cases e : k = c
    · subst e
      rw [decide_eq_true rfl]
      exact beq_self_eq_true _
    · rw [decide_eq_false e]
      refine beq_eq_false_iff_ne.mpr fun z => e ?_
      have := congrArg (fun s : Str => s.cps.toList) z
      simpa using this
theorem abc_in2 (c : Nat) : inV (.str ⟨#[c]⟩) abcL = isCh2 c := by
  have e : abcL = ((List.range 26).map fun k => 97 + k).map fun k => V.str ⟨#[k]⟩ := by decide +kernel
  rw [e, in_signs, Bool.eq_iff_iff]
  unfold isCh2
  rw [Bool.and_eq_true, decide_eq_true_iff, decide_eq_true_iff, List.any_eq_true]
  constructor
  · rintro ⟨k, hk, e⟩
    obtain ⟨j, hj, rfl⟩ := List.mem_map.mp hk
    have := List.mem_range.mp hj
    have := of_decide_eq_true e
    omega
  · rintro ⟨h1, h2⟩
    exact ⟨c, List.mem_map.mpr ⟨c - 97, List.mem_range.mpr (by omega), by omega⟩, decide_eq_true rfl⟩
def chL (cs : List Nat) : List V := cs.map fun c => V.bl (isCh2 c)
theorem ch_flat : ∀ cs : List Nat, (chL cs).all flatV = true
  | [] => rfl
  | c :: r => by
    show (flatV (V.bl _) && (chL r).all flatV) = true
    rw [ch_flat r]
    rfl
theorem ch_in : ∀ cs : List Nat, (!inV (.bl false) (chL cs)) = cs.all isCh2
  | [] => rfl
  | c :: r => by
    rw [List.all_cons, ← ch_in r]
    show (!(eqV (.bl (isCh2 c)) (.bl false) || inV (.bl false) (chL r))) = _
    cases isCh2 c <;> rfl
theorem fut_len {x : Str} (h : x.length ≤ 4) : futD (.str x) = letters x := by
  unfold futD
  show ((x == "") || (decide (1 ≤ (x.length : Int)) && decide ((x.length : Int) ≤ 4) && letters x)) = _
  rw [decide_eq_true (show (x.length : Int) ≤ 4 by omega)]
  by_cases e : x = ""
  · subst e
    rfl
  · have n : x.length ≠ 0 := fun z => e (by
      have e1 : x = mkS x.cps.toList := rfl
      have e2 : x.cps.toList = [] := List.eq_nil_of_length_eq_zero z
      rw [e1, e2]
      rfl)
    rw [show (x == "") = false from beq_eq_false_iff_ne.mpr e, decide_eq_true (show 1 ≤ (x.length : Int) by omega)]
    rfl
theorem fut_long {x : Str} (h : 4 < x.length) : futD (.str x) = false := by
  unfold futD
  show ((x == "") || (decide (1 ≤ (x.length : Int)) && decide ((x.length : Int) ≤ 4) && letters x)) = _
  rw [decide_eq_false (show ¬ (x.length : Int) ≤ 4 by omega), show (x == "") = false from beq_eq_false_iff_ne.mpr fun z => by
    rw [z] at h
    exact absurd h (by decide)]
  rw [Bool.and_false]
  rfl
section
variable {P : Program} {w : World} {K : PySem.W.Frag} {mg : Str → Option Value} {base : Heap} {T : List Addr}
def spMore (K : PySem.W.Frag) : Sp := fun vs H Q _ => ∃ v d, vs = [v] ∧ Da K H v d ∧ small d = true ∧ ∀ H', Ge H H' → Q (.bl (futD d)) H'
abbrev nIsM : List Str := ["_law_value", "_law_letter"]
theorem scIsM : FnScope nIsM ["_law_value"] (defScope s_law_is_more) := ⟨rfl, rfl, rfl, by decide +kernel, rfl, by decide +kernel, by decide +kernel⟩
theorem ok_law_is_more {f c : Addr} {fd : FuncData} (F : FunC K "_law_is_more" s_law_is_more f fd c) (B : Bn mg) : FnOk P w K mg base CX0 1 f fd ["_law_value"] (spMore K) := by
  refine F.ok scIsM (fun vs H Q E ⟨_, _, h, _⟩ => by rw [h]; rfl) (fun A outer s0 H vs Q E hr h => ?_)
  obtain ⟨v, d, rfl, hd, sm, q⟩ := h
  refine ⟨_, pss_cons (ps_if (PW.pt (pw_or (pt_not (pt_val (pe_isi (pv 0) rfl B.isinstance rfl B.str bt_str))) (pw_or1 (pt_cmpR op_gt (pe_callB call_len_str rfl B.len PySem.boot_len (pa_cons (pv 0) pa_nil)) pe_int (nomark _))))) (pss_one (ps_ret pe_bl)) pss_nil)
    (pss_one (ps_ret (pe_cmpR op_notIn_seq pe_bl (pe_lc (own := [("_law_letter", 1)]) (g := gName 1) (tt := tYes) rfl scIsM.nd (pi_str (pv 0)) (blkOk_by (N := nIsM) (sc := defScope s_law_is_more) (by decide +kernel)) (fun _ _ _ _ _ => (pg_name (i := 1) scIsM.nd rfl (Or.inl rfl))) (fun _ _ _ _ _ => pts_nil) (fun _ _ _ _ _ => (pe_cmpR (op_inK (K := K) rfl) (pv 1) (pe_callTy (call_list_tx rfl) rfl B.list bt_list (pa_cons pe_str pa_nil)) (by rfl)))) (by rfl)))), ?_⟩
  refine rd_tIsi rfl hd ⟨_, rfl, ?_⟩
  cases ety : isTy "str" d with
  | false =>
    have e : futD d = false := by
      cases d with
      | str x => exact absurd ety (by simp [isTy, tyName])
      | _ => rfl
    have z := q H (Ge.refl H)
    rw [e] at z
    exact iteT z
  | true =>
    obtain ⟨x, rfl⟩ : ∃ x, d = .str x := by
      cases d with
      | str x => exact ⟨x, rfl⟩
      | _ => first | exact absurd ety (by decide) | (simp [isTy, tyName] at ety)
    obtain rfl : v = .str x := by
      cases hd
      rfl
    have hx : x.length ≤ 100000 := of_decide_eq_true (show decide (x.length ≤ 100000) = true by simpa only [small] using sm)
    refine iteF ⟨_, rfl, x, rfl, Nat.le_trans hx (by decide), _, _, rfl, rfl, _, rfl, ?_⟩
    by_cases l4 : x.length ≤ 4
    case neg =>
      rw [decide_eq_true (show (4 : Int) < ((x.length : Nat) : Int) by omega)]
      have z := q H (Ge.refl H)
      rw [fut_long (by omega)] at z
      exact iteT z
    case pos =>
    rw [decide_eq_false (show ¬ (4 : Int) < ((x.length : Nat) : Int) by omega)]
    refine iteF ⟨_, rfl, x, rfl, fun D hD => ?_⟩
    have lx : x.length = x.cps.toList.length := rfl
    refine lc_it (n := x.cps.size) walk_str (fun i H' => i ≤ x.length ∧ Ge H H' ∧ H' D = some (.lst (chL (x.cps.toList.take i))))
      ⟨Nat.zero_le _, Ge.new hD, upd_same⟩ (fun _ _ _ _ => True.intro) ?_ ?_
    · rintro i v H5 H6 hi ⟨_, g5, h5⟩ ⟨rfl, c, hc, rfl⟩
      have hc : x.cps.toList[i]? = some c := by rw [Array.getElem?_toList]; exact hc
      have hi' : i < x.cps.toList.length := (List.getElem?_eq_some_iff.mp hc).1
      refine ⟨rfl, ?_⟩
      simp only [tYes, if_true]
      refine ⟨_, rfl, _, rfl, by decide +kernel, fun p9 hp9 => ?_⟩
      have n9 := Ge.new (o := .lst (sgn "abcdefghijklmnopqrstuvwxyz")) hp9
      refine ⟨p9, _, rfl, Or.inl (SqL.of upd_same), rfl, abc_flat, ?_⟩
      rw [if_neg Bool.false_ne_true, show inV (V.str ⟨#[c]⟩) (sgn "abcdefghijklmnopqrstuvwxyz") = isCh2 c from abc_in2 c]
      refine ⟨_, n9.1 D _ h5 (fun ps z => by cases z), by unfold chL; rw [List.length_map, List.length_take]; exact Nat.lt_of_le_of_lt (show _ ≤ 1000 by omega) (by decide), by omega, Ge.upd (g5.trans n9) hD, ?_⟩
      rw [upd_same, List.take_succ, hc]
      unfold chL
      rw [List.map_append]
      rfl
    · rintro H5 ⟨_, g5, h5⟩
      have e : x.cps.toList.take x.cps.size = x.cps.toList := by rw [← Array.length_toList, List.take_length]
      rw [e] at h5
      refine ⟨D, _, rfl, Or.inl (SqL.of h5), rfl, ch_flat _, ?_⟩
      rw [if_pos rfl, ch_in]
      have z := q H5 g5
      rw [fut_len l4] at z
      exact z
def spWsg : Sp := fun vs H Q _ => ∃ (p cc : Addr) (a : Nat), vs = [.ref p] ∧ PenAt H p cc a ∧ a ≤ 100000 ∧ ∀ H' c, GeP p H H' → PenAt H' p cc (a + 1) → c < 128 → Q (.str ⟨#[c]⟩) H'
abbrev nWsg : List Str := ["_law_pen"]
theorem scWsg : FnScope nWsg ["_law_pen"] (defScope s_law_wrong_sign) := ⟨rfl, rfl, rfl, by decide +kernel, rfl, by decide +kernel, by decide +kernel⟩
theorem ok_law_wrong_sign {f c : Addr} {fd : FuncData} (F : FunC K "_law_wrong_sign" s_law_wrong_sign f fd c) (D : DfP P w K mg base 3 "_law_one_of" ["_law_pen", "_law_some"] spPick) : FnOk P w K mg base CX0 4 f fd ["_law_pen"] spWsg := by
  refine F.ok scWsg (fun vs H Q E ⟨_, _, _, h, _⟩ => by rw [h]; rfl) (fun A outer s0 H vs Q E hr h => ?_)
  obtain ⟨p, cc, a, rfl, hp, ha, q⟩ := h
  refine ⟨_, pss_one (ps_ret (pcall D hr pass0 rfl (pa_cons (pv 0) (pa_cons pe_str pa_nil)))), ?_⟩
  refine ⟨_, rfl, p, cc, _, a, fun v => ∃ c, v = V.str ⟨#[c]⟩ ∧ c < 128, rfl, hp, ha, Or.inr ⟨_, rfl, by decide +kernel, by decide +kernel, ?_⟩, fun H' v g hp' ⟨c, e, hc⟩ => ?_⟩
  · have z : ∀ c ∈ (Str.ofString " !#$&'()*+,-./0123456789:;<=>?@ABCDEFGHIJKLMNOPQRSTUVWXYZ[]^_`{|}~").cps.toList, c < 128 := by decide +kernel
    exact fun c hc => ⟨c, rfl, z c hc⟩
  · subst e
    exact q H' c g hp' hc
def spSpo : Sp := fun vs H Q _ => ∃ (p cc : Addr) (a : Nat) (z : Str), vs = [.ref p, .str z] ∧ PenAt H p cc a ∧ a + 2 ≤ 100000 ∧ 1 ≤ z.length ∧ z.length ≤ 10 ∧ (∀ c ∈ z.cps.toList, c < 128) ∧ ∀ H' x, GeP p H H' → PenAt H' p cc (a + 2) → x.length ≤ 21 → (∀ c ∈ x.cps.toList, c < 128) → Q (.str x) H'
theorem cps_cat (x y : Str) : (x ++ y).cps.toList = x.cps.toList ++ y.cps.toList := by
  show (x.cps ++ y.cps).toList = _
  rw [Array.toList_append]
theorem cutS_sub {z : Str} {lo hi : Option Int} : (∀ c ∈ (cutS z lo hi).cps.toList, c ∈ z.cps.toList) ∧ (cutS z lo hi).length ≤ z.length := by
  have e : (cutS z lo hi).cps.toList = (z.cps.toList.drop (HT.sIx z.length 0 lo)).take (HT.sIx z.length z.length hi - HT.sIx z.length 0 lo) := by
    unfold cutS
    simp
  refine ⟨fun c hc => ?_, ?_⟩
  · rw [e] at hc
    exact List.mem_of_mem_drop (List.mem_of_mem_take hc)
  · show (cutS z lo hi).cps.size ≤ z.cps.size
    rw [← Array.length_toList, e, List.length_take, List.length_drop, Array.length_toList]
    omega
abbrev nSpo : List Str := ["_law_pen", "_law_word", "_law_spot"]
theorem scSpo : FnScope nSpo ["_law_pen", "_law_word"] (defScope s_law_spoilt) := ⟨rfl, rfl, rfl, by decide +kernel, rfl, by decide +kernel, by decide +kernel⟩
theorem ok_law_spoilt {f c : Addr} {fd : FuncData} (F : FunC K "_law_spoilt" s_law_spoilt f fd c) (B : Bn mg) (D1 : DfP P w K mg base 2 "_law_take" ["_law_pen", "_law_amount"] spTake) (D2 : DfP P w K mg base 4 "_law_wrong_sign" ["_law_pen"] spWsg) : FnOk P w K mg base CX0 5 f fd ["_law_pen", "_law_word"] spSpo := by
  refine F.ok scSpo (fun vs H Q E ⟨_, _, _, _, h, _⟩ => by rw [h]; rfl) (fun A outer s0 H vs Q E hr h => ?_)
  obtain ⟨p, cc, a, z, rfl, hp, ha, z1, z10, zc, q⟩ := h
  refine ⟨_, pss_cons (ps_asg (pcall D1 (hr.mono (by decide)) pass0 rfl (pa_cons (pv 0) (pa_cons (pe_callB call_len_str rfl B.len PySem.boot_len (pa_cons (pv 1) pa_nil)) pa_nil))) (pg_name (i := 2) scSpo.nd rfl (Or.inl rfl)))
    (pss_one (ps_ret (pe_op op_add_str (pe_op op_add_str (pe_slice sl_str (pv 1) po_none (po_some (pv 2))) (pcall D2 (hr.mono (by decide)) pass0 rfl (pa_cons (pv 0) pa_nil))) (pe_slice sl_str (pv 1) (po_some (pe_op op_add (pv 2) pe_int)) po_none)))), ?_⟩
  have hz : z.length ≤ sizeLine := Nat.le_trans z10 (by decide)
  refine ⟨_, rfl, _, rfl, z, rfl, hz, p, cc, _, a, rfl, hp, by omega, by omega, by omega, fun H1 r g1 hp1 r0 r1 => ?_⟩
  dsimp only [gName]
  refine ⟨_, rfl, _, rfl, r, rfl, z, rfl, hz, _, rfl, p, cc, a + 1, rfl, hp1, by omega, fun H2 c g2 hp2 hc => ?_⟩
  have c1 := @cutS_sub z none (some r)
  have c2 := @cutS_sub z (some (r + 1)) none
  have k1 : (⟨#[c]⟩ : Str).length = 1 := rfl
  refine ⟨_, _, rfl, rfl, Nat.le_trans (show _ ≤ 11 by omega) (by decide), _, rfl, _, rfl, r, 1, rfl, rfl, _, rfl, z, rfl, hz, _, _, rfl, rfl, ?_, ?_⟩
  · rw [strLen_append]
    exact Nat.le_trans (show _ ≤ 21 by omega) (by decide)
  · refine q H2 _ (g1.trans g2) (hp2.mono (by omega)) ?_ ?_
    · rw [strLen_append, strLen_append]
      omega
    · intro k hk
      rw [cps_cat, cps_cat] at hk
      rcases List.mem_append.mp hk with hk | hk
      · rcases List.mem_append.mp hk with hk | hk
        · exact zc k (c1.1 k hk)
        · have : k = c := by simpa using hk
          omega
      · exact zc k (c2.1 k hk)
end
end Pr
set_option maxRecDepth 100000
set_option maxHeartbeats 4000000
/-! the law of k22: a text that may come behind -/
namespace Pr
open PySem PySem.Spec PyProof.Rows L2 GxR Gx Rp Dl Pd Tx Zq Zs
theorem geP_unlock {p a : Addr} {od : Obj} {kvs : List (Key × V)} {H H1 : Hp} {px : List V} (hH : H a = some (.dK kvs)) (hp : H p = some (.lst px)) (g : GeP p (upd H a (.frz od (.dK kvs))) H1) : H1 a = some (.frz od (.dK kvs)) ∧ GeP p H (upd H1 a (.dK kvs)) := by
  have ap : a ≠ p := fun z => by
    rw [z, hp] at hH
    cases hH
  have h1 : H1 a = some (.frz od (.dK kvs)) := g.1 a _ ap upd_same (fun ps z => by cases z)
  refine ⟨h1, fun b o nb e n => ?_, fun b ⟨ps, e, t⟩ => ?_⟩
  · by_cases z : b = a
    · subst z
      rw [hH] at e
      cases e
      exact upd_same
    · rw [upd_ne z]
      exact g.1 b o nb (by rw [upd_ne z]; exact e) n
  · have z : b ≠ a := fun z => by
      rw [z, hH] at e
      cases e
    obtain ⟨qs, e2, t2⟩ := g.2 b ⟨ps, by rw [upd_ne z]; exact e, t⟩
    exact ⟨qs, by rw [upd_ne z]; exact e2, t2⟩
def M4 (x : Str) : Prop := x.length ≤ 4 ∧ letters x = true
theorem letters_of {x : Str} (h : ∀ c ∈ x.cps.toList, isL c) : letters x = true := List.all_eq_true.mpr fun c hc => by
  have z := h c hc
  rw [decide_eq_true z.1, decide_eq_true z.2]
  rfl
theorem m4_cut {x : Str} {lo hi : Option Int} (h : M4 x) : M4 (cutS x lo hi) := ⟨Nat.le_trans cutS_sub.2 h.1, letters_of fun c hc => letters_isL h.2 c (cutS_sub.1 c hc)⟩
theorem m4_add {x : Str} (h : M4 x) : M4 (cutS x none (some 3) ++ "a") := by
  have l3 : (cutS x none (some 3)).length ≤ 3 := by
    have e : cutS x none (some ((3 : Nat) : Int)) = mkS (x.cps.toList.take 3) := cut_take x.cps.toList 3
    rw [show (3 : Int) = ((3 : Nat) : Int) from rfl, e, mkS_len, List.length_take]
    omega
  have la : ("a" : Str).length = 1 := rfl
  refine ⟨by rw [strLen_append, la]; omega, letters_of fun c hc => ?_⟩
  rw [cps_cat] at hc
  rcases List.mem_append.mp hc with hc | hc
  · exact letters_isL (m4_cut h).2 c hc
  · have z : ∀ c ∈ ("a" : Str).cps.toList, 97 ≤ c ∧ c ≤ 122 := by decide +kernel
    exact z c hc
section
variable {P : Program} {w : World} {K : PySem.W.Frag} {mg : Str → Option Value} {base : Heap} {T : List Addr}
def spDMo : Sp := fun vs H Q _ => ∃ (p cc d : Addr) (a : Nat) (tbl : List (Key × V)) (held : Str), vs = [.ref p, .ref d, .str held] ∧ PenAt H p cc a ∧ a + 6 ≤ 100000 ∧ H d = some (.dK tbl) ∧ tbl.length ≤ 60 ∧ (∀ q ∈ tbl, ∃ y, q.1 = Sum.inr y ∧ 1 ≤ y.length ∧ y.length ≤ 4 ∧ letters y = true) ∧ held.length ≤ 3 ∧ ∀ H' x, GeP p H H' → PenAt H' p cc (a + 6) → M4 x → Q (.str x) H'
abbrev nDMo : List Str := ["_law_pen", "_law_table_here", "_law_held", "_law_some", "_law_keys"]
theorem scDMo : FnScope nDMo ["_law_pen", "_law_table_here", "_law_held"] (defScope s_law_draw_more) := ⟨rfl, rfl, rfl, by decide +kernel, rfl, by decide +kernel, by decide +kernel⟩
theorem ok_law_draw_more {f c : Addr} {fd : FuncData} (F : FunC K "_law_draw_more" s_law_draw_more f fd c) (B : Bn mg) (D1 : DfP P w K mg base 4 "_law_draw_keys" ["_law_pen", "_law_letters"] spKeys) (D2 : DfP P w K mg base 3 "_law_one_of" ["_law_pen", "_law_some"] spPick) : FnOk P w K mg base CX0 5 f fd ["_law_pen", "_law_table_here", "_law_held"] spDMo := by
  refine F.ok scDMo (fun vs H Q E ⟨_, _, _, _, _, _, h, _⟩ => by rw [h]; rfl) (fun A outer s H vs Q E hr h => ?_)
  obtain ⟨p, cc, d, a, tbl, held, rfl, hp, ha, hd, h60, hkey, h3, q⟩ := h
  refine ⟨_, pss_cons (ps_asg (pe_lst (pa_cons pe_str (pa_cons pe_str (pa_cons pe_str (pa_cons pe_str (pa_cons pe_str (pa_cons pe_str (pa_cons pe_str (pa_cons (pcall D1 hr pass0 rfl (pa_cons (pv 0) (pa_cons pe_str pa_nil))) pa_nil))))))))) (pg_name (i := 3) scDMo.nd rfl (Or.inl rfl)))
    (pss_cons (ps_lock (ps_for PassesOwn.never rfl (pi_keys (pv 1)) (pg_name (i := 4) scDMo.nd rfl (Or.inl rfl))
      (pss_one (ps_if (pt_cmpR op_eq (pe_slice sl_str (pv 4) po_none (po_some (pe_callB call_len_str rfl B.len PySem.boot_len (pa_cons (pv 2) pa_nil)))) (pv 2) (nomark _)) (pss_one (ps_asg (pe_op op_cat (pv 3) (pe_lst (pa_cons (pe_slice sl_str (pv 4) (po_some (pe_callB call_len_str rfl B.len PySem.boot_len (pa_cons (pv 2) pa_nil))) po_none) (pa_cons (pe_slice sl_str (pv 4) (po_some (pe_callB call_len_str rfl B.len PySem.boot_len (pa_cons (pv 2) pa_nil))) po_none) (pa_cons (pe_op op_add_str (pe_slice sl_str (pe_slice sl_str (pv 4) (po_some (pe_callB call_len_str rfl B.len PySem.boot_len (pa_cons (pv 2) pa_nil))) po_none) po_none (po_some pe_int)) pe_str) pa_nil))))) (pg_name (i := 3) scDMo.nd rfl (Or.inl rfl)))) pss_nil))))
    (pss_one (ps_ret (pcall D2 (hr.mono (by decide)) pass0 rfl (pa_cons (pv 0) (pa_cons (pv 3) pa_nil)))))), ?_⟩
  have small : ∀ n : Nat, n ≤ 10000 → n ≤ sizeLine := fun n hn => Nat.le_trans hn (by decide)
  refine ⟨_, rfl, p, cc, a, "abjkz", rfl, hp, by omega, ⟨by decide, by decide, by decide +kernel⟩, fun H1 x g1 hp1 x1 x4 xl => ?_⟩
  refine ⟨(by decide : 8 ≤ sizeLine), fun l0 h0 => ?_⟩
  obtain ⟨px, hpx⟩ := hp.lst
  have hdp : d ≠ p := fun z => by rw [z, hpx] at hd; cases hd
  have hd1 := g1.1 d _ hdp hd (fun ps z => by cases z)
  have ss0 : ∀ y ∈ (["", "a", "b", "jk", "zz", "abab", "q", x] : List Str), M4 y := fun y hy => by
    rcases List.mem_cons.mp hy with rfl | hy
    · exact ⟨by decide, rfl⟩
    rcases List.mem_cons.mp hy with rfl | hy
    · exact ⟨by decide, by decide +kernel⟩
    rcases List.mem_cons.mp hy with rfl | hy
    · exact ⟨by decide, by decide +kernel⟩
    rcases List.mem_cons.mp hy with rfl | hy
    · exact ⟨by decide, by decide +kernel⟩
    rcases List.mem_cons.mp hy with rfl | hy
    · exact ⟨by decide, by decide +kernel⟩
    rcases List.mem_cons.mp hy with rfl | hy
    · exact ⟨by decide, by decide +kernel⟩
    rcases List.mem_cons.mp hy with rfl | hy
    · exact ⟨by decide, by decide +kernel⟩
    · rw [List.mem_singleton.mp hy]
      exact ⟨x4, xl⟩
  have hlv : ([.str "", .str "a", .str "b", .str "jk", .str "zz", .str "abab", .str "q", .str x] : List V) = (["", "a", "b", "jk", "zz", "abab", "q", x] : List Str).map V.str := rfl
  have g2 := Ge.new (o := .lst ((["", "a", "b", "jk", "zz", "abab", "q", x] : List Str).map V.str)) h0
  have hl0 : upd H1 l0 (.lst ((["", "a", "b", "jk", "zz", "abab", "q", x] : List Str).map V.str)) l0 = some (.lst ((["", "a", "b", "jk", "zz", "abab", "q", x] : List Str).map V.str)) := upd_same
  have l8 : (["", "a", "b", "jk", "zz", "abab", "q", x] : List Str).length = 8 := rfl
  have hp2 := hp1.ge g2
  have hd2 := g2.dk hd1
  have lp : l0 ≠ p := (hp1.fresh h0).1
  have gg := g1.trans (GeP.of g2)
  dsimp only [gName]
  show tSeq _ _ _ _ (upd H1 l0 (.lst ((["", "a", "b", "jk", "zz", "abab", "q", x] : List Str).map V.str)))
  generalize (["", "a", "b", "jk", "zz", "abab", "q", x] : List Str) = ss1 at *
  generalize upd H1 l0 (.lst (ss1.map V.str)) = H9 at *
  refine ⟨d, .dK tbl, hd2, True.intro, fun od2 => ?_⟩
  obtain ⟨pz, hpz⟩ := hp2.lst
  have hp10 : PenAt (upd H9 d (.frz od2 (.dK tbl))) p cc (a + 5) := by
    refine hp2.upd hdp fun z => ?_
    obtain ⟨_, _, _, _, c2, _⟩ := hp2
    rw [z, c2] at hd2
    cases hd2
  have hpz2 : upd H9 d (.frz od2 (.dK tbl)) p = some (.lst pz) := by rw [upd_ne (Ne.symm hdp)]; exact hpz
  have l1d : l0 ≠ d := fun z => by rw [z, hd2] at hl0; cases hl0
  have hl10 : upd H9 d (.frz od2 (.dK tbl)) l0 = some (.lst (ss1.map V.str)) := by rw [upd_ne l1d]; exact hl0
  refine ⟨_, rfl, d, od2, rfl, Or.inl ⟨tbl, upd_same, ?_⟩⟩
  refine for_it (n := tbl.length) (walk_keys (d := d) (o := od2) (kvs := tbl)) (fun i σ H' => i ≤ tbl.length ∧ GeP p (upd H9 d (.frz od2 (.dK tbl))) H' ∧ PenAt H' p cc (a + 5) ∧ (∃ (L : Addr) (ss : List Str), H' L = some (.lst (ss.map V.str)) ∧ L ≠ p ∧ 8 ≤ ss.length ∧ ss.length ≤ 8 + 3 * i ∧ (∀ x ∈ ss, M4 x) ∧ ∃ x4, σ = [some (.ref p), some (.ref d), some (.str held), some (.ref L), x4]))
    ⟨Nat.zero_le _, GeP.refl, hp10, l0, ss1, hl10, lp, by omega, by omega, ss0, _, rfl⟩ (fun i σ H' _ z => z.2.1.1 d _ hdp upd_same (fun ps z => by cases z)) ?_ ?_
  · rintro i x σ H10 H11 hi ⟨_, g10, hp11, L, ss2, hL, Lp, l2a, l2, o2, x4', rfl⟩ ⟨rfl, key, val, ek, rfl⟩
    obtain ⟨y, ey, y1, y4, yl⟩ := hkey _ (List.mem_of_getElem? ek)
    have ey : key = Sum.inr y := ey
    subst ey
    have hy2 : y.length ≤ sizeLine := small _ (by omega)
    have hh2 : held.length ≤ sizeLine := small _ (by omega)
    have my : M4 y := ⟨y4, yl⟩
    refine ⟨_, rfl, _, rfl, held, rfl, hh2, _, rfl, y, rfl, hy2, _, rfl, rfl, _, rfl, ?_⟩
    by_cases e : V.str (cutS y none (some ((held.length : Nat) : Int))) = V.str held
    · rw [decide_eq_true e]
      refine iteT ?_
      have m1 := m4_cut (lo := some ((held.length : Nat) : Int)) (hi := none) my
      refine ⟨_, rfl, _, rfl, _, rfl, held, rfl, hh2, _, rfl, y, rfl, hy2, _, rfl, _, rfl, held, rfl, hh2, _, rfl, y, rfl, hy2, _, rfl, _, rfl, held, rfl, hh2, _, rfl, y, rfl, hy2, 3, rfl, _, rfl, Nat.le_trans m1.1 (show 4 ≤ sizeLine by decide), _, _, rfl, rfl, (by rw [← strLen_append]; exact Nat.le_trans (m4_add m1).1 (show 4 ≤ sizeLine by decide)), (by decide : 3 ≤ sizeLine), fun lx hlx => ?_⟩
      generalize cutS y (some ((held.length : Nat) : Int)) none = z1 at *
      have m2 := m4_add m1
      have gl := Ge.new (o := .lst [V.str z1, V.str z1, V.str (cutS z1 none (some 3) ++ "a")]) hlx
      have hlx' : upd H11 lx (.lst [V.str z1, V.str z1, V.str (cutS z1 none (some 3) ++ "a")]) lx = some (.lst (([z1, z1, cutS z1 none (some 3) ++ "a"] : List Str).map V.str)) := upd_same
      have hL13 := gl.1 L _ hL (fun ps z => by cases z)
      have hp13 := hp11.ge gl
      have gg13 := g10.trans (GeP.of gl)
      show rCat _ _ (upd H11 lx (.lst [V.str z1, V.str z1, V.str (cutS z1 none (some 3) ++ "a")])) _
      generalize upd H11 lx (.lst [V.str z1, V.str z1, V.str (cutS z1 none (some 3) ++ "a")]) = H13 at *
      refine ⟨L, lx, ss2.map V.str, ([z1, z1, cutS z1 none (some 3) ++ "a"] : List Str).map V.str, rfl, rfl, hL13, hlx', ?_, fun l3 hl3 => ?_⟩
      · rw [List.length_map]
        exact small _ (show ss2.length + 3 ≤ 10000 by omega)
      refine ⟨hi, gg13.trans (GeP.of (Ge.new hl3)), hp13.ge (Ge.new hl3), l3, ss2 ++ [z1, z1, cutS z1 none (some 3) ++ "a"], by rw [upd_same, List.map_append], (hp13.fresh hl3).1, by rw [List.length_append]; omega, by rw [List.length_append]; show _ + 3 ≤ _; omega, fun x hx => ?_, _, rfl⟩
      rcases List.mem_append.mp hx with hx | hx
      · exact o2 x hx
      · rcases List.mem_cons.mp hx with rfl | hx
        · exact m1
        · rcases List.mem_cons.mp hx with rfl | hx
          · exact m1
          · rw [List.mem_singleton.mp hx]
            exact m2
    · rw [decide_eq_false e]
      exact iteF ⟨hi, g10, hp11, L, ss2, hL, Lp, l2a, by omega, o2, _, rfl⟩
  · rintro σ H10 ⟨_, g10, hp11, L, ss2, hL, Lp, l2a, l2, o2, x4', rfl⟩
    obtain ⟨u1, u2⟩ := geP_unlock hd2 hpz g10
    refine ⟨u1, ?_⟩
    have Ld : L ≠ d := fun z => by rw [z, u1] at hL; cases hL
    have hL2 : upd H10 d (.dK tbl) L = some (.lst (ss2.map V.str)) := by rw [upd_ne Ld]; exact hL
    have hp12 : PenAt (upd H10 d (.dK tbl)) p cc (a + 5) := by
      refine hp11.upd hdp fun z => ?_
      obtain ⟨_, _, _, _, c2, _⟩ := hp11
      rw [z, c2] at u1
      cases u1
    refine ⟨_, rfl, _, rfl, p, cc, _, a + 5, fun v => ∃ x, v = .str x ∧ M4 x, rfl, hp12, by omega, Or.inl ⟨L, _, rfl, Lp, hL2, by rw [List.length_map]; omega, by rw [List.length_map]; omega, fun v hv => ?_⟩, fun H13 v g13 hp13 ⟨x, e, hx⟩ => ?_⟩
    · obtain ⟨x, hx, rfl⟩ := List.mem_map.mp hv
      exact ⟨x, rfl, o2 x hx⟩
    · subst e
      exact q _ x ((gg.trans u2).trans g13) hp13 hx
end
end Pr
set_option maxRecDepth 100000
set_option maxHeartbeats 2000000
/-! ints told by an expression; comprehensions, slices, choices over lists of candidates -/
namespace Pr
open PySem PySem.Spec PyProof.Rows L2 GxR Gx Rp Dl Pd Tx
section
variable {p cc : Addr} {S : Addr → Prop} {H H' H0 : Hp} {K : PySem.W.Frag} {v : V} {vs : List V} {d : PyData} {ds : List PyData} {xs : List V} {σ : L2.St} {G G1 : PyData → Prop} {k k1 k2 m m1 m2 : Nat}
/-- an expression that tells just this int -/
def IO (σ : L2.St) (t : TE) (i : Int) : Prop := ∀ (H : Hp) (Q : VK), Q (.int i) H → t σ H Q
theorem io_c {i : Int} : IO σ (tC (.int i)) i := fun H Q q => q
theorem io_var {n : Nat} {i : Int} (e : σ[n]? = some (some (.int i))) : IO σ (tVar n) i := fun H Q q => ⟨_, e, q⟩
theorem io_add {a b : TE} {i j : Int} (h : IO σ a i) (h' : IO σ b j) : IO σ (tOp (rI0 fun i j => .int (i + j)) a b) (i + j) := fun H Q q => h H _ (h' H _ ⟨i, j, rfl, rfl, q⟩)
theorem io_sub {a b : TE} {i j : Int} (h : IO σ a i) (h' : IO σ b j) : IO σ (tOp (rI0 fun i j => .int (i - j)) a b) (i - j) := fun H Q q => h H _ (h' H _ ⟨i, j, rfl, rfl, q⟩)
theorem io_neg {a : TE} {i : Int} (h : IO σ a i) : IO σ (tUn (rU fun i => .int (-i)) a) (-i) := fun H Q q => h H _ ⟨i, rfl, q⟩
theorem io_pow {a b : TE} {i j : Int} (h : IO σ a i) (h' : IO σ b j) (hc : 0 ≤ j ∧ j ≤ 1000000 ∧ i.natAbs < 2 ^ 64) : IO σ (tOp (rI CPow fun i j => .int (i ^ j.toNat)) a b) (i ^ j.toNat) := fun H Q q => h H _ (h' H _ ⟨i, j, rfl, rfl, hc, q⟩)
theorem do_io {t : TE} {i : Int} (h : IO σ t i) (hi : i.natAbs < 10 ^ 40) : DO K p S cc H0 σ 0 t (Good true 50 0) := fun H a Q g hp ha q => h H _ (q _ (.int i) H GeP.refl hp (.int i) (Good.int hi))
theorem daAll_mem {G : PyData → Prop} {i : Nat} (h : DaAll K H vs ds) (hG : ∀ d ∈ ds, G d) (e : vs[i]? = some v) : ∃ d, Da K H v d ∧ G d := by
  obtain ⟨d, h1, h2⟩ := daAll_get h e
  exact ⟨d, h2, hG d (List.mem_of_getElem? h1)⟩
theorem daAll_v {G : PyData → Prop} (h : DaAll K H vs ds) (hG : ∀ d ∈ ds, G d) (e : v ∈ vs) : ∃ d, Da K H v d ∧ G d := by
  obtain ⟨i, hi, rfl⟩ := List.getElem_of_mem e
  exact daAll_mem h hG (List.getElem?_eq_getElem hi)
theorem CandAt.of (h1 : H m = some (.lst vs)) (h2 : ¬ S m) (h3 : DaAll K (wos S H) vs ds) (h4 : ∀ d ∈ ds, G d) : CandAt K S H m vs.length G := ⟨vs, ds, h1, h2, rfl, h3, h4⟩
theorem daAll_snoc (h : DaAll K H vs ds) (h' : Da K H v d) : DaAll K H (vs ++ [v]) (ds ++ [d]) := daAll_appU h (.cons h' .nil)
/-- [e for x in some] -/
theorem co_lc {tl te : TE} {i : Nat} (hl : CO K p S cc H0 σ k m tl G1) (he : ∀ v d H1 S', Ge (wos S H0) (wos S' H1) → Da K (wos S' H1) v d → G1 d → DO K p S' cc H1 ((wipe σ [i]).set i (some v)) k1 te G) (hm : m ≤ 10000 := by decide) (hw : ∀ v, wipe ((wipe σ [i]).set i (some v)) [i] = wipe σ [i] := by intro v; rfl) : CO K p S cc H0 σ (k + m * k1) m (tLc (iList K tl) (gName i) tYes te [i]) G := fun H a Q g hp ha q =>
  hl H a _ g hp (by omega) fun l H1 g1 hp1 c1 => by
    obtain ⟨us, ds, u1, u2, u3, u4, u5⟩ := c1
    refine ⟨l, rfl, ⟨us, SqL.of u1⟩, fun D hD => ?_⟩
    have lD : l ≠ D := ne_of_none u1 hD
    have hS := hp.sp
    have mo := hp1.more (xs := []) hD
    have gm : Ge (wos S H1) (wos (fun b => S b ∨ b = D) (upd H1 D (.lst []))) := ge_more hD
    refine lc_list (K := K) (xs := us) (fun j H' => j ≤ m ∧ GeP p H1 H' ∧ Wd p cc (fun b => S b ∨ b = D) H' (a + k + j * k1) ∧ Ge (wos S H1) (wos (fun b => S b ∨ b = D) H') ∧ ∃ ws es, H' D = some (.lst ws) ∧ ws.length = j ∧ DaAll K (wos (fun b => S b ∨ b = D) H') ws es ∧ ∀ e ∈ es, G e)
      ⟨Nat.zero_le _, GeP.of (Ge.new hD), mo.mono (by omega), gm, [], [], upd_same, rfl, .nil, fun _ z => by cases z⟩ (fun j H' _ z => SqL.of (z.2.1.1 l _ (fun q => u2 (q ▸ hS)) u1 (fun ps z => by cases z))) ?_ ?_
    · rintro j x H2 hx ⟨hj, g2, hp2, gw, ws, es, w1, w2, w3, w4⟩
      obtain ⟨dx, e1, e2⟩ := daAll_mem u4 u5 hx
      have hjm : j < m := by rw [← u3]; exact (List.getElem?_eq_some_iff.mp hx).1
      have hk : j * k1 + k1 ≤ m * k1 := by
        have := Nat.mul_le_mul_right k1 hjm
        rw [Nat.succ_mul] at this
        exact this
      refine ⟨hw x, he x dx H2 _ (((g.trans g1).w hS).trans gw) (gw.da e1) e2 H2 (a + k + j * k1) _ GeP.refl hp2 (by omega) fun y dy H3 g3 hp3 hdy hgy => ?_⟩
      have nD : D ≠ p := fun z => by
        obtain ⟨ys, hy⟩ := hp1.pen.lst
        rw [← z, hD] at hy
        cases hy
      have nDc : D ≠ cc := (hp1.pen.fresh hD).2
      have w1' := g3.1 D _ nD w1 (fun ps z => by cases z)
      have g23 := g3.w (S := fun b => S b ∨ b = D) (Or.inl hS)
      refine ⟨ws, w1', by rw [w2]; exact Nat.lt_of_lt_of_le hjm (Nat.le_trans hm (by decide)), hjm, (g2.trans g3).upd (Nw.none hD), ⟨(hp3.pen.upd nD nDc).mono ?_, hp3.sp, fun b hb => ?_⟩, ?_, ws ++ [y], es ++ [dy], upd_same, by rw [List.length_append, w2]; rfl, ?_, ?_⟩
      · rw [Nat.succ_mul]
        omega
      · by_cases z : b = D
        · rw [z]; exact ⟨_, upd_same⟩
        · obtain ⟨ys, h⟩ := hp3.al b hb
          exact ⟨ys, by rw [upd_ne z]; exact h⟩
      · rw [wos_upd (S := fun b => S b ∨ b = D) (Or.inr rfl)]
        exact gw.trans g23
      · rw [wos_upd (S := fun b => S b ∨ b = D) (Or.inr rfl)]
        exact daAll_snoc (g23.daAll w3) hdy
      · intro e he
        rcases List.mem_append.mp he with he | he
        · exact w4 e he
        · rw [List.mem_singleton.mp he]; exact hgy
    · rintro H2 ⟨_, g2, hp2, _, ws, es, w1, w2, w3, w4⟩
      rw [u3] at hp2 w2
      have nS : ¬ S D := hp1.new hD
      exact q D H2 (g1.trans g2) (⟨hp2.pen.mono (by omega), hS, fun b hb => hp2.al b (Or.inl hb)⟩) ⟨ws, es, w1, nS, w2, (wos_less fun b hb => Or.inl hb).daAll w3, w4⟩
end
end Pr
set_option maxRecDepth 100000
set_option maxHeartbeats 4000000
/-! the law of k22: a value that may be a split -/
namespace Pr
open PySem PySem.Spec PyProof.Rows L2 GxR Gx Rp Dl Pd Tx Zq Zs
section
variable {p cc : Addr} {S : Addr → Prop} {H0 : Hp} {K : PySem.W.Frag} {σ : L2.St} {k : Nat} {t : TE}
theorem do_spo {z : Str} {E : XK} (e0 : σ[0]? = some (some (.ref p))) (h1 : 1 ≤ z.length) (h2 : z.length ≤ 10) (h3 : ∀ c ∈ z.cps.toList, c < 128) : DO K p S cc H0 σ 2 (tCal spSpo E (tCons (tVar 0) (tCons (tC (.str z)) tNil))) (Good true 212 0) := fun H a Q g hp ha q =>
  ⟨_, e0, p, cc, a, z, rfl, hp.pen, by omega, h1, h2, h3, fun H' x g' hp' xl xc => q (.str x) (.str x) H' g' (hp.gp g' hp') (.str x) (Good.str xc xl)⟩
theorem pick_cand {G : PyData → Prop} {H2 : Hp} {l : Addr} {n b : Nat} {Q : VK} {E : XK} (w : Wd p cc S H2 b) (hb : b ≤ 90000) (c : CandAt K S H2 l n G) (h0 : 0 < n) (h1 : n ≤ 1000) (q : ∀ H' v d, GeP p H2 H' → Wd p cc S H' (b + 1) → Da K (wos S H') v d → G d → Q v H') : spPick [.ref p, .ref l] H2 Q E := by
  obtain ⟨vs, es, y1, y2, y3, y4, y5⟩ := c
  exact ⟨p, cc, _, _, fun v => ∃ d, Da K (wos S H2) v d ∧ G d, rfl, w.pen, by omega, Or.inl ⟨_, vs, rfl, fun z => y2 (z ▸ w.sp), y1, by omega, by omega, fun v hv => by
    obtain ⟨d, hd⟩ := daAll_v y4 y5 hv
    exact ⟨d, hd⟩⟩, fun H16 v g16 hp16 ⟨dv, hdv, hgv⟩ => q H16 v dv g16 (w.gp g16 hp16) ((g16.w w.sp).da hdv) hgv⟩
variable {rest : TS} {D : Ends} {H : Hp} {a m i : Nat} {G : PyData → Prop} {E : XK}
theorem co_asgn (h : CO K p S cc H σ k m t G) (w : Wd p cc S H a) (ha : a + k ≤ 90000) (q : ∀ l H', GeP p H H' → Wd p cc S H' (a + k) → CandAt K S H' l m G → rest D (σ.set i (some (.ref l))) H') : tSeq (tAsg t (gName i)) rest D σ H := h H a _ GeP.refl w ha q
theorem pick_asgn (h : CO K p S cc H σ k m t G) (e0 : σ[0]? = some (some (.ref p))) (w : Wd p cc S H a) (ha : a + k + 1 ≤ 90000) (h0 : 0 < m) (h1 : m ≤ 1000) (q : ∀ v d H', GeP p H H' → Wd p cc S H' (a + k + 1) → Da K (wos S H') v d → G d → rest D (σ.set i (some v)) H') : tSeq (tAsg (tCal spPick E (tCons (tVar 0) (tCons t tNil))) (gName i)) rest D σ H :=
  ⟨_, e0, h H a _ GeP.refl w (by omega) fun l H1 g1 w1 c1 => pick_cand (E := E) w1 (by omega) c1 h0 h1 fun H2 v d g2 w2 hd hg => q v d H2 (g1.trans g2) w2 hd hg⟩
theorem pick_ret (h : CO K p S cc H σ k m t G) (e0 : σ[0]? = some (some (.ref p))) (w : Wd p cc S H a) (ha : a + k + 1 ≤ 90000) (h0 : 0 < m) (h1 : m ≤ 1000) (q : ∀ v d H', GeP p H H' → Wd p cc S H' (a + k + 1) → Da K (wos S H') v d → G d → D.rt v H') : tRet (tCal spPick E (tCons (tVar 0) (tCons t tNil))) D σ H :=
  ⟨_, e0, h H a _ GeP.refl w (by omega) fun l H1 g1 w1 c1 => pick_cand (E := E) w1 (by omega) c1 h0 h1 fun H2 v d g2 w2 hd hg => q v d H2 (g1.trans g2) w2 hd hg⟩
end
section
variable {P : Program} {w : World} {K : PySem.W.Frag} {mg : Str → Option Value} {base : Heap} {T : List Addr}
def spDVa (K : PySem.W.Frag) : Sp := fun vs H Q _ => ∃ (p cc d : Addr) (a : Nat) (tbl : List (Key × V)) (held : Str), vs = [.ref p, .ref d, .str held] ∧ PenAt H p cc a ∧ a + 20 ≤ 90000 ∧ H d = some (.dK tbl) ∧ tbl.length ≤ 60 ∧ (∀ q ∈ tbl, ∃ y, q.1 = Sum.inr y ∧ 1 ≤ y.length ∧ y.length ≤ 4 ∧ letters y = true) ∧ held.length ≤ 3 ∧ ∀ H' v dv, GeP p H H' → PenAt H' p cc (a + 20) → Da K (wos (fun b => b = p) H') v dv → Good false 1000 4 dv → Q v H'
abbrev nDVa : List Str := ["_law_pen", "_law_table_here", "_law_held", "_law_one", "_law_other", "_law_odd", "_law_values"]
theorem scDVa : FnScope nDVa ["_law_pen", "_law_table_here", "_law_held"] (defScope s_law_draw_value) := ⟨rfl, rfl, rfl, by decide +kernel, rfl, by decide +kernel, by decide +kernel⟩
theorem ok_law_draw_value {f c : Addr} {fd : FuncData} (F : FunC K "_law_draw_value" s_law_draw_value f fd c) (D1 : DfP P w K mg base 5 "_law_draw_more" ["_law_pen", "_law_table_here", "_law_held"] spDMo) (D2 : DfP P w K mg base 3 "_law_one_of" ["_law_pen", "_law_some"] spPick) (D3 : DfP P w K mg base 5 "_law_spoilt" ["_law_pen", "_law_word"] spSpo) : FnOk P w K mg base CX0 6 f fd ["_law_pen", "_law_table_here", "_law_held"] (spDVa K) := by
  refine F.ok scDVa (fun vs H Q E ⟨_, _, _, _, _, _, h, _⟩ => by rw [h]; rfl) (fun A outer s H vs Q E hr h => ?_)
  obtain ⟨p, cc, d, a, tbl, held, rfl, hp, ha, hd, h60, hkey, h3, q⟩ := h
  refine ⟨_, pss_cons (ps_par (i := 3) (j := 4) rfl scDVa.nd rfl rfl (by decide) rfl rfl (pa_cons (pcall D1 hr pass0 rfl (pa_cons (pv 0) (pa_cons (pv 1) (pa_cons (pv 2) pa_nil)))) (pa_cons (pcall D1 hr pass0 rfl (pa_cons (pv 0) (pa_cons (pv 1) (pa_cons (pv 2) pa_nil)))) pa_nil)) rfl)
    (pss_cons (ps_asg (pe_lst (pa_cons pe_non (pa_cons pe_int (pa_cons pe_bl (pa_cons pe_str (pa_cons pe_str (pa_cons pe_str (pa_cons (pe_tup (pa_cons pe_str pa_nil)) (pa_cons (pe_lst (pa_cons pe_str pa_nil)) (pa_cons pe_str (pa_cons pe_str (pa_cons pe_dnewK (pa_cons (pcall D3 hr pass0 rfl (pa_cons (pv 0) (pa_cons pe_str pa_nil))) pa_nil))))))))))))) (pg_name (i := 5) scDVa.nd rfl (Or.inl rfl)))
    (pss_cons (ps_asg (pcall D2 (hr.mono (by decide)) pass0 rfl (pa_cons (pv 0) (pa_cons (pe_op op_cat (pv 5) (pe_lst (pa_cons (pcall D3 hr pass0 rfl (pa_cons (pv 0) (pa_cons pe_str pa_nil))) pa_nil))) pa_nil))) (pg_name (i := 5) scDVa.nd rfl (Or.inl rfl)))
    (pss_cons (ps_asg (pe_op op_cat (pe_op op_rep (pe_lst (pa_cons (pe_tup (pa_cons (pv 3) (pa_cons (pv 4) pa_nil))) pa_nil)) pe_int) (pe_lst (pa_cons (pe_tup (pa_cons (pv 4) (pa_cons pe_str pa_nil))) (pa_cons (pe_lst (pa_cons (pv 3) (pa_cons (pv 4) pa_nil))) (pa_cons (pe_tup (pa_cons (pv 3) pa_nil)) (pa_cons (pe_tup (pa_cons (pv 3) (pa_cons (pv 4) (pa_cons pe_str pa_nil)))) (pa_cons (pe_tup (pa_cons (pv 3) (pa_cons (pv 5) pa_nil))) (pa_cons (pe_tup (pa_cons (pv 5) (pa_cons (pv 4) pa_nil))) pa_nil)))))))) (pg_name (i := 6) scDVa.nd rfl (Or.inl rfl)))
    (pss_one (ps_ret (pcall D2 (hr.mono (by decide)) pass0 rfl (pa_cons (pv 0) (pa_cons (pe_op op_cat (pv 6) (pe_lst (pa_cons pe_non (pa_cons (pe_tup pa_nil) (pa_cons pe_str (pa_cons pe_dnewK (pa_cons (pv 3) (pa_cons (pe_tup (pa_cons (pv 3) (pa_cons (pv 3) pa_nil))) pa_nil)))))))) pa_nil)))))))), ?_⟩
  obtain ⟨px, hpx⟩ := hp.lst
  have hdp : d ≠ p := fun z => by rw [z, hpx] at hd; cases hd
  refine ⟨_, rfl, _, rfl, _, rfl, p, cc, d, a, tbl, held, rfl, hp, by omega, hd, h60, hkey, h3, fun H1 one g1 hp1 m1 => ?_⟩
  refine ⟨_, rfl, _, rfl, _, rfl, p, cc, d, a + 6, tbl, held, rfl, hp1, by omega, g1.1 d _ hdp hd (fun ps z => by cases z), h60, hkey, h3, fun H2 other g2 hp2 m2 => ?_⟩
  refine ⟨_, _, rfl, ?_⟩
  have g02 := g1.trans g2
  have w2 : Wd p cc (fun b => b = p) H2 (a + 12) := ⟨hp2, rfl, fun b hb => by
    subst hb
    exact hp2.lst⟩
  have gone : Good true 42 0 (.str one) := Good.str (fun c hc => by
    have := letters_isL m1.2 c hc
    exact Nat.lt_of_le_of_lt this.2 (by decide)) m1.1
  have goth : Good true 42 0 (.str other) := Good.str (fun c hc => by
    have := letters_isL m2.2 c hc
    exact Nat.lt_of_le_of_lt this.2 (by decide)) m2.1
  dsimp only [gName]
  refine co_asgn (K := K) (k := 2) (m := 12) (G := Good false 300 2) ?h1 w2 (by omega) fun l3 H3 g3 w3 c3 => ?_
  case h1 => exact (co_lst (go_cons (DO.good do_non (by decide) (by decide) (by decide)) (go_cons (DO.good (do_int (by decide)) (by decide) (by decide) (by decide)) (go_cons (DO.good do_bl (by decide) (by decide) (by decide)) (go_cons (DO.good (do_str (by decide +kernel)) (by decide) (by decide) (by decide)) (go_cons (DO.good (do_str (by decide +kernel)) (by decide) (by decide) (by decide)) (go_cons (DO.good (do_str (by decide +kernel)) (by decide) (by decide) (by decide)) (go_cons (DO.good (do_tup (ao_cons (do_str (by decide +kernel)) ao_nil)) (by decide) (by decide) (by decide)) (go_cons (DO.good (do_lst (ao_cons (do_str (by decide +kernel)) ao_nil)) (by decide) (by decide) (by decide)) (go_cons (DO.good (do_str (by decide +kernel)) (by decide) (by decide) (by decide)) (go_cons (DO.good (do_str (by decide +kernel)) (by decide) (by decide) (by decide)) (go_cons (DO.good do_dict0 (by decide) (by decide) (by decide)) (go_cons (DO.good (do_spo rfl (by decide) (by decide) (by decide +kernel)) (by decide) (by decide) (by decide)) go_nil)))))))))))))
  refine pick_asgn (K := K) (k := 2) (m := 13) (G := Good false 300 2) ?h2 rfl w3 (by omega) (by decide) (by decide) fun v dv H5 g5 w5 hod god => ?_
  case h2 => exact (co_cat (k1 := 0) (k2 := 2) (m1 := 12) (m2 := 1) (co_var rfl c3) (co_lst (go_cons (DO.good (do_spo rfl (by decide) (by decide) (by decide +kernel)) (by decide) (by decide) (by decide)) go_nil)))
  refine co_asgn (K := K) (k := 0) (m := 12) (G := Good false 1000 4) ?h3 w5 (by omega) fun l6 H6 g6 w6 c6 => ?_
  case h3 => exact (co_cat (k1 := 0) (k2 := 0) (m1 := 6) (m2 := 6) (co_rep (c := 6) (co_lst (go_cons (DO.good (do_tup (ao_cons (do_var rfl (.str _) gone) (ao_cons (do_var rfl (.str _) goth) ao_nil))) (by decide) (by decide) (by decide)) go_nil))) (co_lst (go_cons (DO.good (do_tup (ao_cons (do_var rfl (.str _) goth) (ao_cons (do_str (by decide +kernel)) ao_nil))) (by decide) (by decide) (by decide)) (go_cons (DO.good (do_lst (ao_cons (do_var rfl (.str _) gone) (ao_cons (do_var rfl (.str _) goth) ao_nil))) (by decide) (by decide) (by decide)) (go_cons (DO.good (do_tup (ao_cons (do_var rfl (.str _) gone) ao_nil)) (by decide) (by decide) (by decide)) (go_cons (DO.good (do_tup (ao_cons (do_var rfl (.str _) gone) (ao_cons (do_var rfl (.str _) goth) (ao_cons (do_str (by decide +kernel)) ao_nil)))) (by decide) (by decide) (by decide)) (go_cons (DO.good (do_tup (ao_cons (do_var rfl (.str _) gone) (ao_cons (do_var rfl hod god) ao_nil))) (by decide) (by decide) (by decide)) (go_cons (DO.good (do_tup (ao_cons (do_var rfl hod god) (ao_cons (do_var rfl (.str _) goth) ao_nil))) (by decide) (by decide) (by decide)) go_nil))))))))
  refine pick_ret (K := K) (k := 0) (m := 18) (G := Good false 1000 4) ?h4 rfl w6 (by omega) (by decide) (by decide) fun v8 d8 H8 g8 w8 h8 good8 => ?_
  case h4 => exact (co_cat (k1 := 0) (k2 := 0) (m1 := 12) (m2 := 6) (co_var rfl c6) (co_lst (go_cons (DO.good do_non (by decide) (by decide) (by decide)) (go_cons (DO.good (do_tup ao_nil) (by decide) (by decide) (by decide)) (go_cons (DO.good (do_str (by decide +kernel)) (by decide) (by decide) (by decide)) (go_cons (DO.good do_dict0 (by decide) (by decide) (by decide)) (go_cons (DO.good (do_var rfl (.str _) gone) (by decide) (by decide) (by decide)) (go_cons (DO.good (do_tup (ao_cons (do_var rfl (.str _) gone) (ao_cons (do_var rfl (.str _) gone) ao_nil))) (by decide) (by decide) (by decide)) go_nil))))))))
  exact q H8 v8 d8 ((((g02.trans g3).trans g5).trans g6).trans g8) (w8.pen.mono (by omega)) h8 good8
end
end Pr
set_option maxRecDepth 100000
set_option maxHeartbeats 4000000
/-! the law: the same, in turn -/
namespace Pr
open PySem PySem.Spec PyProof.Rows L2 GxR Gx Rp Dl Pd Tx RZ
/-- two values that are alike, n deep -/
def Sm : Nat → Hp → V → V → Prop
  | 0, _, _, _ => False
  | n + 1, H, u, v => (∃ b, u = .bl b ∧ v = .bl b) ∨ (∃ x : Str, u = .str x ∧ v = .str x) ∨ (∃ a b xs ys, u = .ref a ∧ v = .ref b ∧ Rd H a (.tup xs) ∧ Rd H b (.tup ys) ∧ xs.length ≤ 1000 ∧ Paired (Sm n H) xs ys) ∨ ∃ a b xs ys, u = .ref a ∧ v = .ref b ∧ H a = some (.lst xs) ∧ H b = some (.lst ys) ∧ xs.length ≤ 1000 ∧ Paired (Sm n H) xs ys
theorem Sm.ge : ∀ {n : Nat} {H H' : Hp} {u v : V}, Sm n H u v → Ge H H' → Sm n H' u v
  | 0, _, _, _, _, h, _ => h
  | n + 1, _, _, _, _, h, g => by
    rcases h with h | h | ⟨a, b, xs, ys, h1, h2, h3, h4, h5, h6⟩ | ⟨a, b, xs, ys, h1, h2, h3, h4, h5, h6⟩
    · exact Or.inl h
    · exact Or.inr (Or.inl h)
    · exact Or.inr (Or.inr (Or.inl ⟨a, b, xs, ys, h1, h2, g.rd (fun ps z => by cases z) h3, g.rd (fun ps z => by cases z) h4, h5, Paired.imp (fun _ _ z => Sm.ge z g) h6⟩))
    · exact Or.inr (Or.inr (Or.inr ⟨a, b, xs, ys, h1, h2, g.1 a _ h3 (fun ps z => by cases z), g.1 b _ h4 (fun ps z => by cases z), h5, Paired.imp (fun _ _ z => Sm.ge z g) h6⟩))
theorem ty_tIsi {K : PySem.W.Frag} {σ : L2.St} {H : Hp} {v : V} {t n : String} {i : Nat} {Q : VK} (hσ : σ[i]? = some (some v)) (h : TyX K H v (.type t)) {r : Bool} (e : (t == n || (t == "bool" && n == "int")) = r) (q : Q (.bl r) H) (ht : t ∈ ["NoneType", "bool", "int", "str", "list", "tuple", "dict"] := by decide) (hn : n ∈ ["tuple", "dict", "str", "int", "bool", "list"] := by decide) : tIsi K n (tVar i) σ H Q :=
  ⟨v, hσ, v, .ty n, _, _, r, rfl, .ty n, h, e ▸ kit_ty (kit_tab t ht n hn), q⟩
theorem any_is {K : PySem.W.Frag} {t : String} (ht : t ∈ ["NoneType", "bool", "int", "str", "list", "tuple", "dict"]) : PySem.W.kitAny K (.type t) [.type "int", .type "str"] = some ((t == "int" || (t == "bool" && ("int" : String) == "int")) || (t == "str" || (t == "bool" && ("str" : String) == "int"))) := by
  have h1 := kit_ty (K := K) (kit_tab t ht "int" (by decide))
  have h2 := kit_ty (K := K) (kit_tab t ht "str" (by decide))
  unfold PySem.W.kitAny
  rw [h1]
  cases (t == "int" || (t == "bool" && ("int" : String) == "int")) with
  | true => rfl
  | false =>
    show PySem.W.kitAny K (.type t) [.type "str"] = _
    unfold PySem.W.kitAny
    rw [h2]
    cases (t == "str" || (t == "bool" && ("str" : String) == "int")) <;> rfl
theorem ty_tIs2 {K : PySem.W.Frag} {σ : L2.St} {H : Hp} {v : V} {t : String} {i : Nat} {Q : VK} (hσ : σ[i]? = some (some v)) (h : ∀ H', Ge H H' → TyX K H' v (.type t)) {r : Bool} (e : ((t == "int" || (t == "bool" && ("int" : String) == "int")) || (t == "str" || (t == "bool" && ("str" : String) == "int"))) = r) (q : ∀ H', Ge H H' → Q (.bl r) H') (ht : t ∈ ["NoneType", "bool", "int", "str", "list", "tuple", "dict"] := by decide) : tCB (rIsiT K) (tCons (tVar i) (tCons (tTup (tCons (tC (.ty "int")) (tCons (tC (.ty "str")) tNil))) tNil)) σ H Q :=
  ⟨v, hσ, (by decide : 2 ≤ sizeLine), fun p hp => ⟨v, p, [.ty "int", .ty "str"], _, _, r, rfl, upd_same, .cons (.ty _) (.cons (.ty _) .nil), h _ (Ge.new hp), e ▸ any_is ht, q _ (Ge.new hp)⟩⟩
theorem in_alls : ∀ n : Nat, inV (.bl false) (List.replicate n (V.bl true)) = false
  | 0 => rfl
  | n + 1 => by
    show (eqV (.bl true) (.bl false) || inV (.bl false) (List.replicate n (V.bl true))) = false
    rw [in_alls n]
    rfl
theorem flat_alls : ∀ n : Nat, (List.replicate n (V.bl true)).all flatV = true
  | 0 => rfl
  | n + 1 => by
    show (true && (List.replicate n (V.bl true)).all flatV) = true
    rw [flat_alls n]
    rfl
section
variable {P : Program} {w : World} {K : PySem.W.Frag} {mg : Str → Option Value} {base : Heap} {T : List Addr}
def spSame (n : Nat) : Sp := fun vs H Q _ => ∃ u v, vs = [u, v] ∧ Sm n H u v ∧ ∀ H', Ge H H' → Q (.bl true) H'
abbrev nSam : List Str := ["_law_found", "_law_due", "_law_one", "_law_other"]
theorem scSam : FnScope nSam ["_law_found", "_law_due"] (defScope s_law_same) := ⟨rfl, rfl, rfl, by decide +kernel, rfl, by decide +kernel, by decide +kernel⟩
theorem ok_law_same {f c : Addr} {fd : FuncData} {n : Nat} (F : FunC K "_law_same" s_law_same f fd c) (B : Bn mg) (D1 : DfP P w K mg base (n + 1) "_law_same" ["_law_found", "_law_due"] (spSame n)) : FnOk P w K mg base CX0 (n + 2) f fd ["_law_found", "_law_due"] (spSame (n + 1)) := by
  refine F.ok scSam (fun vs H Q E ⟨_, _, h, _⟩ => by rw [h]; rfl) (fun A outer s0 H vs Q E hr h => ?_)
  have hu2 := hr.units
  obtain ⟨u, v, rfl, hs, q⟩ := h
  refine ⟨_, pss_cons (ps_if (PW.pt (pw_or (pt_cmp (pc_isN (pv 1))) (pw_or1 (pt_cmp (pc_isN (pv 0)))))) (pss_one (ps_ret (pe_and (pe_cmp (pc_isN (pv 1)) rfl) (pe_one (pe_cmp (pc_isN (pv 0)) rfl))))) pss_nil)
    (pss_cons (ps_if (PW.pt (pw_or (pt_val (pe_isi (pv 1) rfl B.isinstance rfl B.bool bt_bool)) (pw_or1 (pt_val (pe_isi (pv 0) rfl B.isinstance rfl B.bool bt_bool))))) (pss_one (ps_ret (pe_and (pe_isi (pv 1) rfl B.isinstance rfl B.bool bt_bool) (pe_and (pe_isi (pv 0) rfl B.isinstance rfl B.bool bt_bool) (pe_one (pe_cmpR (op_eq) (pv 0) (pv 1) (nomark _))))))) pss_nil)
    (pss_cons (ps_if (pt_val (pe_callB call_isiT rfl B.isinstance (by decide +kernel) (pa_cons (pv 1) (pa_cons (pe_tup (pa_cons (pe_bltn (v := .ty "int") rfl B.int bt_int rfl) (pa_cons (pe_bltn (v := .ty "str") rfl B.str bt_str rfl) pa_nil))) pa_nil)))) (pss_cons (ps_if (pt_cmpR op_ne (pe_isi (pv 0) rfl B.isinstance rfl B.int bt_int) (pe_isi (pv 1) rfl B.isinstance rfl B.int bt_int) (nomark _)) (pss_one (ps_ret pe_bl)) pss_nil)
      (pss_one (ps_ret (pe_and (pe_callB call_isiT rfl B.isinstance (by decide +kernel) (pa_cons (pv 0) (pa_cons (pe_tup (pa_cons (pe_bltn (v := .ty "int") rfl B.int bt_int rfl) (pa_cons (pe_bltn (v := .ty "str") rfl B.str bt_str rfl) pa_nil))) pa_nil))) (pe_one (pe_cmpR (op_eq) (pv 0) (pv 1) (nomark _))))))) pss_nil)
    (pss_cons (ps_if (PW.pt (pw_or (pt_cmpR op_ne (pe_isi (pv 1) rfl B.isinstance rfl B.tuple bt_tuple) (pe_isi (pv 0) rfl B.isinstance rfl B.tuple bt_tuple) (nomark _)) (pw_or1 (pt_cmpR op_ne (pe_isi (pv 1) rfl B.isinstance rfl B.list bt_list) (pe_isi (pv 0) rfl B.isinstance rfl B.list bt_list) (nomark _))))) (pss_one (ps_ret pe_bl)) pss_nil)
    (pss_cons (ps_if (pt_cmpR op_ne (pe_callB call_len_seq rfl B.len PySem.boot_len (pa_cons (pv 0) pa_nil)) (pe_callB call_len_seq rfl B.len PySem.boot_len (pa_cons (pv 1) pa_nil)) (nomark _)) (pss_one (ps_ret pe_bl)) pss_nil)
    (pss_one (ps_ret (pe_cmpR op_notIn_seq pe_bl (pe_lc (own := [("_law_one", 2), ("_law_other", 3)]) (g := gTup K 2 (gCons (gName 2) (gCons (gName 3) gNil))) (tt := tYes) rfl scSam.nd (pi_zipA rfl B.zip (pa_cons (pv 0) (pa_cons (pv 1) pa_nil))) (blkOk_by (N := nSam) (sc := defScope s_law_same) (by decide +kernel)) (fun _ _ _ _ _ => (pg_tup rfl (pgs_cons (pg_name (i := 2) scSam.nd rfl (Or.inl rfl)) (pgs_cons (pg_name (i := 3) scSam.nd rfl (Or.inl rfl)) pgs_nil)))) (fun _ _ _ _ _ => pts_nil) (fun _ _ _ _ _ => (pcall D1 (hr) pass0 rfl (pa_cons (pv 2) (pa_cons (pv 3) pa_nil))))) (by rfl)))))))), ?_⟩
  have nn : u ≠ .non ∧ v ≠ .non := by
    rcases hs with ⟨b, rfl, rfl⟩ | ⟨x, rfl, rfl⟩ | ⟨a, b, xs, ys, rfl, rfl, _⟩ | ⟨a, b, xs, ys, rfl, rfl, _⟩ <;> exact ⟨(fun z => by cases z), fun z => by cases z⟩
  refine ⟨_, rfl, _, rfl, ?_⟩
  rw [decide_eq_false nn.2]
  refine iteF ⟨_, rfl, _, rfl, ?_⟩
  rw [decide_eq_false nn.1]
  refine iteF ?_
  rcases hs with ⟨b, rfl, rfl⟩ | ⟨x, rfl, rfl⟩ | ⟨a, b, xs, ys, rfl, rfl, ha, hb, h1, pp⟩ | ⟨a, b, xs, ys, rfl, rfl, ha, hb, h1, pp⟩
  · refine ty_tIsi rfl (.base (.bl b)) (r := true) (by decide) ⟨_, rfl, iteT ?_⟩
    refine ty_tIsi rfl (.base (.bl b)) (r := true) (by decide) ⟨_, rfl, iteT ?_⟩
    refine ty_tIsi rfl (.base (.bl b)) (r := true) (by decide) ⟨_, rfl, iteT ?_⟩
    refine ⟨_, rfl, _, rfl, rfl, ?_⟩
    rw [decide_eq_true (show V.bl b = V.bl b from rfl)]
    exact q H (Ge.refl H)
  · refine ty_tIsi rfl (.base (.str x)) (r := false) (by decide) ⟨_, rfl, iteF ?_⟩
    refine ty_tIsi rfl (.base (.str x)) (r := false) (by decide) ⟨_, rfl, iteF ?_⟩
    refine ty_tIs2 rfl (fun H' _ => .base (.str x)) (r := true) (by decide) fun H1 g1 => ⟨_, rfl, iteT ?_⟩
    refine ty_tIsi rfl (.base (.str x)) (r := false) (by decide) ?_
    refine ty_tIsi rfl (.base (.str x)) (r := false) (by decide) ⟨rfl, _, rfl, ?_⟩
    rw [decide_eq_true (show V.bl false = V.bl false from rfl)]
    refine iteF ?_
    refine ty_tIs2 rfl (fun H' _ => .base (.str x)) (r := true) (by decide) fun H2 g2 => ⟨_, rfl, iteT ?_⟩
    refine ⟨_, rfl, _, rfl, rfl, ?_⟩
    rw [decide_eq_true (show V.str x = V.str x from rfl)]
    exact q H2 (g1.trans g2)
  · have lxy := Paired.length pp
    have tya : ∀ H', Ge H H' → TyX K H' (.ref a) (.type "tuple") := fun H' g => by
      rcases g.rd (fun ps z => by cases z) ha with z | ⟨o, z⟩
      · exact .base (.tup z)
      · exact .fTuple z
    have tyb : ∀ H', Ge H H' → TyX K H' (.ref b) (.type "tuple") := fun H' g => by
      rcases g.rd (fun ps z => by cases z) hb with z | ⟨o, z⟩
      · exact .base (.tup z)
      · exact .fTuple z
    refine ty_tIsi rfl (tyb H (Ge.refl H)) (r := false) (by decide) ⟨_, rfl, iteF ?_⟩
    refine ty_tIsi rfl (tya H (Ge.refl H)) (r := false) (by decide) ⟨_, rfl, iteF ?_⟩
    refine ty_tIs2 rfl tyb (r := false) (by decide) fun H1 g1 => ⟨_, rfl, iteF ?_⟩
    refine ty_tIsi rfl (tyb H1 g1) (r := true) (by decide) ?_
    refine ty_tIsi rfl (tya H1 g1) (r := true) (by decide) ⟨rfl, _, rfl, ?_⟩
    rw [decide_eq_true (show V.bl true = V.bl true from rfl)]
    refine iteF ?_
    refine ty_tIsi rfl (tyb H1 g1) (r := false) (by decide) ?_
    refine ty_tIsi rfl (tya H1 g1) (r := false) (by decide) ⟨rfl, _, rfl, ?_⟩
    rw [decide_eq_true (show V.bl false = V.bl false from rfl)]
    refine iteF ?_
    have ha1 : SqT K H1 a xs := Or.inl (g1.rd (fun ps z => by cases z) ha)
    have hb1 : SqT K H1 b ys := Or.inl (g1.rd (fun ps z => by cases z) hb)
    refine ⟨_, rfl, a, xs, rfl, Or.inr ha1, _, rfl, b, ys, rfl, Or.inr hb1, rfl, _, rfl, ?_⟩
    rw [lxy, decide_eq_true (show V.int ((ys.length : Nat) : Int) = V.int ((ys.length : Nat) : Int) from rfl)]
    refine iteF ?_
    have pp1 := Paired.imp (fun _ _ z => Sm.ge z g1) pp
    refine ⟨_, rfl, _, rfl, a, b, xs, ys, rfl, Or.inr ⟨ha1, hb1, fun D hD => ?_⟩⟩
    refine lc_it (n := xs.length) (walk_zipT (K := K) (a := a) (b := b) (xs := xs) (ys := ys) (by omega)) (fun j H' => j ≤ xs.length ∧ Ge H1 H' ∧ H' D = some (.lst (List.replicate j (.bl true))))
      ⟨Nat.zero_le _, Ge.new hD, upd_same⟩ (fun j H' _ z => ⟨z.2.1.sqT ha1, z.2.1.sqT hb1⟩) ?_ ?_
    · rintro j y H3 H4 hj ⟨_, g3, h3⟩ ⟨Tn, uu, vv, rfl, hTn, rfl, hu', hv'⟩
      obtain ⟨vv', hvv, hsm⟩ := paired_at pp1 hu'
      have ev : some vv' = some vv := hvv.symm.trans hv'
      injection ev with ev
      subst ev
      have g4 := Ge.new (o := .tup [uu, vv']) hTn
      have h4 := g4.1 D _ h3 (fun ps z => by cases z)
      refine ⟨Tn, [uu, vv'], rfl, SqT.of upd_same, rfl, _, _, rfl, _, _, rfl, rfl, rfl, _, rfl, _, rfl, uu, vv', rfl, hsm.ge (g3.trans g4), fun H5 g5 => ⟨_, g5.1 D _ h4 (fun ps z => by cases z), ?_, hj, Ge.upd ((g3.trans g4).trans g5) hD, ?_⟩⟩
      · rw [List.length_replicate]
        exact Nat.lt_of_lt_of_le hj (Nat.le_trans h1 (by decide))
      · rw [upd_same, List.replicate_succ']
    rintro H3 ⟨_, g3, h3⟩
    refine ⟨D, _, rfl, Or.inl (SqL.of h3), rfl, flat_alls _, ?_⟩
    show Q (V.bl (!inV (V.bl false) (List.replicate xs.length (V.bl true)))) H3
    rw [in_alls]
    exact q H3 (g1.trans g3)
  · have lxy := Paired.length pp
    have tya : ∀ H', Ge H H' → TyX K H' (.ref a) (.type "list") := fun H' g => .base (.lst (g.1 a _ ha (fun ps z => by cases z)))
    have tyb : ∀ H', Ge H H' → TyX K H' (.ref b) (.type "list") := fun H' g => .base (.lst (g.1 b _ hb (fun ps z => by cases z)))
    refine ty_tIsi rfl (tyb H (Ge.refl H)) (r := false) (by decide) ⟨_, rfl, iteF ?_⟩
    refine ty_tIsi rfl (tya H (Ge.refl H)) (r := false) (by decide) ⟨_, rfl, iteF ?_⟩
    refine ty_tIs2 rfl tyb (r := false) (by decide) fun H1 g1 => ⟨_, rfl, iteF ?_⟩
    refine ty_tIsi rfl (tyb H1 g1) (r := false) (by decide) ?_
    refine ty_tIsi rfl (tya H1 g1) (r := false) (by decide) ⟨rfl, _, rfl, ?_⟩
    rw [decide_eq_true (show V.bl false = V.bl false from rfl)]
    refine iteF ?_
    refine ty_tIsi rfl (tyb H1 g1) (r := true) (by decide) ?_
    refine ty_tIsi rfl (tya H1 g1) (r := true) (by decide) ⟨rfl, _, rfl, ?_⟩
    rw [decide_eq_true (show V.bl true = V.bl true from rfl)]
    refine iteF ?_
    have ha1 := g1.1 a _ ha (fun ps z => by cases z)
    have hb1 := g1.1 b _ hb (fun ps z => by cases z)
    refine ⟨_, rfl, a, xs, rfl, Or.inl (SqL.of ha1), _, rfl, b, ys, rfl, Or.inl (SqL.of hb1), rfl, _, rfl, ?_⟩
    rw [lxy, decide_eq_true (show V.int ((ys.length : Nat) : Int) = V.int ((ys.length : Nat) : Int) from rfl)]
    refine iteF ?_
    have pp1 := Paired.imp (fun _ _ z => Sm.ge z g1) pp
    refine ⟨_, rfl, _, rfl, a, b, xs, ys, rfl, Or.inl ⟨SqL.of ha1, SqL.of hb1, fun D hD => ?_⟩⟩
    refine lc_it (n := xs.length) (walk_zip (K := K) (a := a) (b := b) (xs := xs) (ys := ys) (by omega)) (fun j H' => j ≤ xs.length ∧ Ge H1 H' ∧ H' D = some (.lst (List.replicate j (.bl true))))
      ⟨Nat.zero_le _, Ge.new hD, upd_same⟩ (fun j H' _ z => ⟨SqL.of (z.2.1.1 a _ ha1 (fun ps z => by cases z)), SqL.of (z.2.1.1 b _ hb1 (fun ps z => by cases z))⟩) ?_ ?_
    · rintro j y H3 H4 hj ⟨_, g3, h3⟩ ⟨Tn, uu, vv, rfl, hTn, rfl, hu', hv'⟩
      obtain ⟨vv', hvv, hsm⟩ := paired_at pp1 hu'
      have ev : some vv' = some vv := hvv.symm.trans hv'
      injection ev with ev
      subst ev
      have g4 := Ge.new (o := .tup [uu, vv']) hTn
      have h4 := g4.1 D _ h3 (fun ps z => by cases z)
      refine ⟨Tn, [uu, vv'], rfl, SqT.of upd_same, rfl, _, _, rfl, _, _, rfl, rfl, rfl, _, rfl, _, rfl, uu, vv', rfl, hsm.ge (g3.trans g4), fun H5 g5 => ⟨_, g5.1 D _ h4 (fun ps z => by cases z), ?_, hj, Ge.upd ((g3.trans g4).trans g5) hD, ?_⟩⟩
      · rw [List.length_replicate]
        exact Nat.lt_of_lt_of_le hj (Nat.le_trans h1 (by decide))
      · rw [upd_same, List.replicate_succ']
    rintro H3 ⟨_, g3, h3⟩
    refine ⟨D, _, rfl, Or.inl (SqL.of h3), rfl, flat_alls _, ?_⟩
    show Q (V.bl (!inV (V.bl false) (List.replicate xs.length (V.bl true)))) H3
    rw [in_alls]
    exact q H3 (g1.trans g3)
theorem same_never {f c : Addr} {fd : FuncData} (F : FunC K "_law_same" s_law_same f fd c) : FnOk P w K mg base CX0 1 f fd ["_law_found", "_law_due"] (spSame 0) :=
  F.ok scSam (fun vs H Q E ⟨_, _, _, h, _⟩ => h.elim) (fun A outer s H vs Q E hr ⟨_, _, _, h, _⟩ => h.elim)
end
end Pr
set_option maxRecDepth 100000
set_option maxHeartbeats 2000000
/-! sorted(texts, key=lambda one: len(one)); a code table whose objects are known -/
namespace Zl
open PySem PySem.Spec PyProof.Rows L2 GxR Gx

/-- a code table, known as it is -/
def tabX (P : Addr) (ps : Array Value) : HO := .ext fun h => h.get? P = some { cls := .none, data := .fields ps }
/-- a code table, each of whose objects is known by its name -/
def LamT (H : Hp) (P : Addr) (q : Str) : Prop := ∃ ps, H P = some (tabX P ps) ∧ TriplesOk ps.toList ∧ ∀ pos cv, codeAmong pos ps.toList = some cv → ∃ c, cv = .ref c ∧ H c = some (LamX.CodeO c q)
/-- all stays but the table, which is known as before -/
def LamG (P : Addr) (q : Str) (H H' : Hp) : Prop := LamT H' P q ∧ ∀ b o, b ≠ P → H b = some o → H' b = some o
theorem LamT.ne {H : Hp} {P a : Addr} {q : Str} {o : HO} (h : LamT H P q) (e : H a = some o) (n : ∀ f, o ≠ .ext f) : a ≠ P := fun z => by
  obtain ⟨ps, e1, _⟩ := h
  rw [z, e1] at e
  exact n _ (Option.some.inj e).symm
theorem LamG.rd {P a : Addr} {q : Str} {H H' : Hp} {u : HO} (l : LamT H P q) (g : LamG P q H H') (n : ∀ f, u ≠ .ext f) (h : Rd H a u) : Rd H' a u := by
  rcases h with h | ⟨o, h⟩
  · exact Or.inl (g.2 a _ (l.ne h n) h)
  · exact Or.inr ⟨o, g.2 a _ (l.ne h fun f z => by cases z) h⟩
theorem LamG.sqL {K : PySem.W.Frag} {P a : Addr} {q : Str} {H H' : Hp} {xs : List V} (l : LamT H P q) (g : LamG P q H H') (h : SqL K H a xs) : SqL K H' a xs := h.elim (fun z => Or.inl (g.rd l (fun f q => by cases q) z)) Or.inr

section
variable {X : Cx}
/-- the table grows, a code object stands behind it -/
theorem inv_tabX {pins : List (Addr × Obj)} {σ : L2.St} {H : Hp} {s : Shared} {P c : Addr} {q : Str} {ps ps' : Array Value} {h' : Heap} {t' : Nat} (I : Inv X pins σ H s) (hP : H P = some (tabX P ps)) (hk : ∀ b o, b ≠ P → s.heap.get? b = some o → h'.get? b = some o) (hP' : h'.get? P = some { cls := .none, data := .fields ps' }) (hc : s.heap.objs.size ≤ c) (hco : ∃ oc vs t, h'.get? c = some oc ∧ oc.data = .fields vs ∧ vs[1]? = some (.str q t)) :
    Inv X pins σ (upd (upd H P (tabX P ps')) c (LamX.CodeO c q)) { heap := h', gens := s.gens, drawn := s.drawn, toks := t', os := s.os } := by
  have hPs : s.heap.get? P = some { cls := .none, data := .fields ps } := (I.hok P _ hP).1
  have hPlt : P < s.heap.objs.size := Heap.lt_size hPs
  have hcP : c ≠ P := fun z => by
    rw [z] at hc
    exact Nat.lt_irrefl _ (Nat.lt_of_lt_of_le hPlt hc)
  have hcn : H c = none := I.hok.fresh hc
  have hM : Mut (H P) := by
    rw [hP]
    trivial
  have ok1 : HOk X.prog X.w (upd H P (tabX P ps')) h' := I.hok.write hM (.inl rfl) hk ⟨_, hP'⟩ ⟨hP', ⟨_, hP'⟩, fun h1 h2 e1 e2 => e2 _ e1⟩
  have un1 : Un X.fs [] H (upd H P (tabX P ps')) s.heap h' := Un.write hM (.inl rfl) hk ⟨_, hP'⟩
  have ne : ∀ b o, s.heap.get? b = some o → b ≠ c := fun b o e z => by
    have := Heap.lt_size e
    rw [z] at this
    exact Nat.lt_irrefl _ (Nat.lt_of_lt_of_le this hc)
  have cn1 : upd H P (tabX P ps') c = none := by rw [upd_ne hcP]; exact hcn
  refine I.un ⟨un1.keep, un1.slot, fun b o e1 e2 e3 => ?_, un1.there, fun b xs e => ?_, fun b o u e => ?_, fun b xs e => ?_⟩ fun b o e => ?_
  · rw [upd_ne (ne b o e1)]
    exact un1.free b o e1 e2 e3
  · have h1 := un1.tups b xs e
    rw [upd_ne (ne_of_none h1 cn1)]
    exact h1
  · have h1 := un1.frzs b o u e
    rw [upd_ne (ne_of_none h1 cn1)]
    exact h1
  · obtain ⟨more, h1⟩ := un1.tbls b xs e
    exact ⟨more, by rw [upd_ne (ne_of_none h1 cn1)]; exact h1⟩
  · by_cases z : b = c
    · subst z
      rw [upd_same] at e
      cases e
      obtain ⟨oc, vs, t, e1, e2, e3⟩ := hco
      refine ⟨⟨oc, vs, t, e1, e2, e3⟩, ⟨oc, e1⟩, ?_⟩
      rintro h1 h2 ⟨o1, v1, t1, f1, f2, f3⟩ hh
      exact ⟨o1, v1, t1, hh _ f1, f2, f3⟩
    · rw [upd_ne z] at e
      refine (ok1 b o e).stay (fun _ _ _ e => e) (fun a e => ?_) fun a xs e => ?_
      · rw [upd_ne (ne_of_none e cn1)]
        exact e
      · rw [upd_ne (ne_of_none e cn1)]
        exact e
/-- the lambda's own call -/
theorem lam_len {prog : Program} {w : World} {A : Around} {s : Shared} {f c : Addr} {a qn : Str} {scope : Scope} {params : Arguments} {pm ctv : Value} {p2 p3 p4 : Pos} {y : Str} {t : Tok} {mg mb : Str → Option Value}
    (hd : A.depth < recursionLimit) (hf : s.heap.get? f = some { cls := .type "function", data := .func (PySem.W.kla_fn "<lambda>" qn params (.Call (.Name "len" p2) [.Name a p3] [] p4) scope [] pm (.ref c) ctv) })
    (hc : s.heap.CodeRec (.ref c) qn) (hg : s.heap.Ns mainGlobals mg) (hgl : mg "len" = none) (hb : s.heap.Ns builtinsNs mb) (hbl : mb "len" = some (.builtin "len")) (hlim : s.heap.NoLimit)
    (hk : scope.kind = .function) (hco : scope.isCoroutine = false) (hge : scope.isGenerator = false) (hcell : ∀ x ∈ scope.names, x.2 ≠ .cell) (hloc : scope.names.lookup a = some .local) (hglo : scope.names.lookup ("len" : Str) = some NameKind.globalImplicit) (hdb : (a == "__debug__") = false)
    (hbind : ∀ u, bindArgs (PySem.W.kla_fn "<lambda>" qn params (.Call (.Name "len" p2) [.Name a p3] [] p4) scope [] pm (.ref c) ctv) ⟨[u], []⟩ = pure [(a, u)]) (hlen : y.length ≤ 1000000) (hs : backTo p4 (starEach [.Name a p3] (callEnv (PySem.W.kla_fn "<lambda>" qn params (.Call (.Name "len" p2) [.Name a p3] [] p4) scope [] pm (.ref c) ctv) s.heap.objs.size f)) = [(false, eval (.Name a p3) (callEnv (PySem.W.kla_fn "<lambda>" qn params (.Call (.Name "len" p2) [.Name a p3] [] p4) scope [] pm (.ref c) ctv) s.heap.objs.size f))] := by rfl) :
    wpAny (model prog w) A (call (.ref f) [.str y t]) (PySem.W.KeyPure (.int (y.length : Int)) s) (fun _ _ => False) s := by
  refine wpAny_call (PySem.W.kla_callFunE hd hf rfl hco hge rfl hc ?_)
  rw [hbind]
  refine wpAny_pure ?_
  refine wpAny_newFunctionEnv hcell (fun x hx => ?_) (fun h' hns hsb => ?_) hk
  · rw [List.mem_singleton.mp hx]
    exact hloc
  · have kp : ∀ b o, s.heap.get? b = some o → h'.get? b = some o := fun b o e => hsb.extBut b o (Nat.ne_of_lt (Heap.lt_size e)) (Heap.get?_push_of_some _ e)
    have ic : InCall s s.heap.objs.size (fun x => [(a, Value.str y t)].reverse.lookup x) { heap := h', gens := s.gens, drawn := s.drawn, toks := s.toks + 1, os := s.os } := ⟨⟨_, _, rfl⟩, hns, kp, Nat.le_refl _⟩
    refine ⟨hlim.keeps kp, PySem.W.kla_codeExpr ?_⟩
    have hko : ∀ x, (callEnv (PySem.W.kla_fn "<lambda>" qn params (.Call (.Name "len" p2) [.Name a p3] [] p4) scope [] pm (.ref c) ctv) s.heap.objs.size f).kindOf x = scope.names.lookup x := fun x => rfl
    refine call_builtin1I (env := callEnv (PySem.W.kla_fn "<lambda>" qn params (.Call (.Name "len" p2) [.Name a p3] [] p4) scope [] pm (.ref c) ctv) s.heap.objs.size f) ic hk (by rw [hko]; exact hglo) rfl hg hgl hb hbl hs ?_
    refine ldI (v := .str y t) ic hk (by rw [hko]; exact hloc) (by show [(a, Value.str y t)].lookup a = _; simp) ?_ hdb
    refine P.len_str (by omega) ?_
    exact ⟨h', _, rfl, kp, .int _ _⟩
/-! ### sorted -/
theorem vals_each : ∀ {ss : List Str} {vs : List Value}, Vals (ss.map V.str) vs → PySem.W.EachIs (fun v x => ∃ t, v = Value.str x t) vs ss
  | [], _, h => by
    cases h
    exact .nil
  | y :: ss, _, h => by
    cases h with
    | cons r hr => exact .cons r (vals_each hr)
theorem each_vals : ∀ {ss : List Str} {vs : List Value}, PySem.W.EachIs (fun v x => ∃ t, v = Value.str x t) vs ss → Vals (ss.map V.str) vs
  | [], _, h => by
    cases h
    exact .nil
  | y :: ss, _, h => by
    cases h with
    | cons r hr => exact .cons r (each_vals hr)
/-- what sorted asks, and what it says of its answer -/
def rSortL (K : PySem.W.Frag) (P : Addr) (qn : Str) (v : V) (H : Hp) (Q : VK) : Prop := ∃ (a : Addr) (ss : List Str), v = .ref a ∧ SqL K H a (ss.map V.str) ∧ (∀ x ∈ ss, x.length ≤ 1000000) ∧ LamT H P qn ∧ ∀ (H' : Hp) (L : Addr) (ys : List Str), LamG P qn H H' → ys.Perm ss → ys.Pairwise (fun x y => x.length ≤ y.length) → H' L = some (.lst (ys.map V.str)) → Q (.ref L) H'
theorem sort_run {k : Nat} {pins : List (Addr × Obj)} {σ : L2.St} {H : Hp} {s : Shared} {f c a : Addr} {x qn : Str} {scope : Scope} {params : Arguments} {pm ctv : Value} {p2 p3 p4 : Pos} {ss : List Str} {Q : VK} (hr : Room (k + 1) X.A) (I : Inv X pins σ H s) (hgl : X.mg "len" = none)
    (hf : s.heap.get? f = some { cls := .type "function", data := .func (PySem.W.kla_fn "<lambda>" qn params (.Call (.Name "len" p2) [.Name x p3] [] p4) scope [] pm (.ref c) ctv) })
    (hc : H c = some (LamX.CodeO c qn)) (hs : SqL X.K H a (ss.map V.str)) (hl : ∀ y ∈ ss, y.length ≤ 1000000)
    (hk : scope.kind = .function) (hco : scope.isCoroutine = false) (hge : scope.isGenerator = false) (hcell : ∀ x ∈ scope.names, x.2 ≠ .cell) (hloc : scope.names.lookup x = some .local) (hglo : scope.names.lookup ("len" : Str) = some NameKind.globalImplicit) (hdb : (x == "__debug__") = false)
    (hbind : ∀ u, bindArgs (PySem.W.kla_fn "<lambda>" qn params (.Call (.Name "len" p2) [.Name x p3] [] p4) scope [] pm (.ref c) ctv) ⟨[u], []⟩ = pure [(x, u)])
    (hQ : ∀ (H' : Hp) (L : Addr) (ys : List Str), (∀ b o, H b = some o → H' b = some o) → ys.Perm ss → ys.Pairwise (fun x y => x.length ≤ y.length) → H' L = some (.lst (ys.map V.str)) → Q (.ref L) H') :
    wpAny (model X.prog X.w) X.A (call (.builtin "sorted") [.ref a] [(Str.ofString "key", .ref f)]) (EP X pins σ Q) X.xe s := by
  obtain ⟨its, rv, hlist, hz⟩ := I.list hs
  rw [List.length_map] at hz
  obtain ⟨mb, hb, hbb⟩ := I.ok.mod.blt
  have hcr : s.heap.CodeRec (.ref c) qn := by
    obtain ⟨⟨oc, vs, t, e1, e2, e3⟩, _⟩ := I.hok c _ hc
    exact ⟨c, oc, vs, t, rfl, e1, e2, e3⟩
  refine PySem.W.sorted_key_data (bs := ss) (R := fun v x => ∃ t, v = Value.str x t) (l := a) (f := .ref f) (b := false) (fun y : Str => PyData.int (y.length : Int)) hlist.isList (vals_each rv) ?_ ?_ hz ?_ ?_ ?_ (fun _ => rfl) (fun v y r hy h tk hh => ?_) (fun out c' h' tk hh hn hget hlo he => ?_)
  · intro d hd d' hd'
    obtain ⟨y, _, rfl⟩ := List.mem_map.mp hd
    obtain ⟨y', _, rfl⟩ := List.mem_map.mp hd'
    rfl
  · refine .inr fun d hd => ?_
    obtain ⟨y, _, rfl⟩ := List.mem_map.mp hd
    exact ⟨fun z => (by cases z), fun xs z => (by cases z)⟩
  · intro y _
    have := hr.un
    have h1 : (PyData.int (y.length : Int)).depth ≤ 1 := by simp [PyData.depth]
    omega
  · rfl
  · intro _
    rfl
  · obtain ⟨t, rfl⟩ := r
    have hdp : X.A.in1.in1.depth < recursionLimit := by
      have := hr.dp
      have e1 : X.A.in1.in1.depth ≤ X.A.depth + 2 := by simp [Around.in1, Around.depth]
      omega
    refine lam_len (mg := X.mg) (mb := mb) hdp (hh _ _ hf) ?_ ?_ hgl ?_ ?_ ?_ hk hco hge hcell hloc hglo hdb hbind (hl y hy)
    · obtain ⟨c2, oc, vs, t2, e0, e1, e2, e3⟩ := hcr
      exact ⟨c2, oc, vs, t2, e0, hh _ _ e1, e2, e3⟩
    · exact (I.ok.mod.glob.keeps I.bk).keeps hh
    · exact (hb.keeps I.bk).keeps hh
    · rw [hbb _ (by decide)]
      exact PySem.boot_len
    · exact I.nolimit.keeps hh
  · refine ⟨.ref (s.heap.objs.size + 1), upd H (s.heap.objs.size + 1) (.lst ((ss.mergeSort (PySem.W.dataLe false fun y : Str => PyData.int (y.length : Int))).map V.str)), ?_, rfl, hQ _ _ _ (fun b o e => ?_) (List.mergeSort_perm _ _) ?_ upd_same⟩
    · refine I.laid hh (Nat.le_succ _) ⟨?_, out, c', each_vals he, hget⟩
      rw [List.length_map, (List.mergeSort_perm _ _).length_eq]
      exact hz
    · rw [upd_ne (ne_of_none e (I.hok.fresh (Nat.le_succ _)))]
      exact e
    · rw [PySem.W.dataLe_int (fun y : Str => (y.length : Int))]
      refine (List.pairwise_mergeSort (fun a b c h1 h2 => ?_) (fun a b => ?_) ss).imp fun {a b} h => ?_
      · have h1 := of_decide_eq_true h1
        have h2 := of_decide_eq_true h2
        exact decide_eq_true (Int.le_trans h1 h2)
      · rcases Int.le_total (a.length : Int) (b.length : Int) with h | h
        · simp [h]
        · simp [h]
      · have := of_decide_eq_true h
        omega
/-- sorted(e, key=lambda x: len(x)) -/
theorem pe_sortLam {k : Nat} {e : Expr} {te : TE} {c P : Addr} {x qn : Str} {scope : Scope} {p pa kp pos lpos p2 p3 p4 : Pos} (hr : Room (k + 1) X.A) (hg : Gl X "sorted") (hm : X.mg "sorted" = none) (hgl : X.mg "len" = none) (ha : PE X e te) (TB : TabB X.base X.mg c P) (hcode : X.env.code = .ref c) (hq : X.env.qual ++ "<lambda>" = qn)
    (hclo : ∀ cl, cloFrom cl scope.names [] = [])
    (hk : scope.kind = .function) (hco : scope.isCoroutine = false) (hge : scope.isGenerator = false) (hcell : ∀ x ∈ scope.names, x.2 ≠ .cell ∧ x.2 ≠ .free) (hloc : scope.names.lookup x = some .local) (hglo : scope.names.lookup ("len" : Str) = some NameKind.globalImplicit) (hdb : (x == "__debug__") = false)
    (hbind : ∀ qn pm cv ctv u, bindArgs (PySem.W.kla_fn "<lambda>" qn ⟨[], [⟨x, none, pa⟩], none, [], [], none, []⟩ (.Call (.Name "len" p2) [.Name x p3] [] p4) scope [] pm cv ctv) ⟨[u], []⟩ = pure [(x, u)])
    (hs : starEach [e] X.env = (false, eval e X.env) :: starEach [] X.env := by rfl) (he : backTo pos (starEach [e] X.env) = (false, eval e X.env) :: backTo pos (starEach [] X.env) := by rfl) (hpl : (backTo pos (starEach [e] X.env)).any (·.1) = false := by rfl) :
    PE X (.Call (.Name "sorted" p) [e] [⟨some "key", .Lambda ⟨[], [⟨x, none, pa⟩], none, [], [], none, []⟩ (.Call (.Name "len" p2) [.Name x p3] [] p4) scope lpos, kp⟩] pos) (fun σ H Q => te σ H fun v H1 => rSortL X.K P qn v H1 Q) := by
  refine ⟨fun pins s σ H Q I h => ?_⟩
  refine wpAny_Call_Name_kw (ld_blt I hg hm (by decide +kernel : bootBuiltins "sorted" = some (.builtin "sorted")) ?_)
  refine PyProof.Rows.callWith_kw (thn ((pa_cons ha pa_nil hs).run pos pins s σ H (fun vs H' => match vs with | [v] => rSortL X.K P qn v H' Q | _ => False) I h) fun us s1 ⟨vs, H1, I1, r1, q1⟩ => ?_) he hpl
  obtain ⟨v, rfl⟩ : ∃ v, vs = [v] := by
    cases vs with
    | nil => exact q1.elim
    | cons v r =>
      cases r with
      | nil => exact ⟨v, rfl⟩
      | cons _ _ => exact q1.elim
  obtain ⟨u, rfl, ru⟩ := vals1 r1
  obtain ⟨a, ss, rfl, hsq, hlen, hT, hQ⟩ := q1
  obtain rfl : u = .ref a := ru
  obtain ⟨ps, hP, ht, hco1⟩ := hT
  have hPs : s1.heap.get? P = some { cls := .none, data := .fields ps } := (I1.hok P _ hP).1
  have hPlt : P < s1.heap.objs.size := Heap.lt_size hPs
  have noP : ∀ c3 : Addr, H1 c3 = some (LamX.CodeO c3 qn) → c3 ≠ P := fun c3 e z => by
    obtain ⟨⟨oc, vs, t, e1, e2, e3⟩, _⟩ := I1.hok c3 _ e
    rw [z, hPs] at e1
    cases e1
    cases e2
    rw [← Array.getElem?_toList] at e3
    cases hl : ps.toList with
    | nil =>
      rw [hl] at e3
      cases e3
    | cons v1 r1 =>
      cases r1 with
      | nil =>
        rw [hl] at e3
        cases e3
      | cons v2 r2 =>
        rw [hl] at e3 ht
        have e4 : v2 = .str qn t := Option.some.inj e3
        subst e4
        cases v1 <;> exact ht.elim
  -- behind the lambda
  have cont : ∀ (f c2 : Addr) (pm ctv : Value) (H2 : Hp) (s2 : Shared), Inv X pins σ H2 s2 → LamG P qn H1 H2 → H2 c2 = some (LamX.CodeO c2 qn) → s2.heap.get? f = some { cls := .type "function", data := .func (PySem.W.kla_fn "<lambda>" qn ⟨[], [⟨x, none, pa⟩], none, [], [], none, []⟩ (.Call (.Name "len" p2) [.Name x p3] [] p4) scope [] pm (.ref c2) ctv) } →
      wpAny (model X.prog X.w) X.A (call (.builtin "sorted") [.ref a] [(Str.ofString "key", .ref f)]) (EP X pins σ Q) X.xe s2 := fun f c2 pm ctv H2 s2 I2 g hc2 hf => by
    refine sort_run hr I2 hgl hf hc2 (g.sqL ⟨ps, hP, ht, hco1⟩ hsq) hlen hk hco hge (fun y hy => (hcell y hy).1) hloc hglo hdb (hbind _ _ _ _) fun H' L ys hh h1 h2 h3 => hQ H' L ys ⟨?_, fun b o hb e => hh b o (g.2 b o hb e)⟩ h1 h2 h3
    obtain ⟨⟨ps2, e1, e2, e3⟩, _⟩ := g
    exact ⟨ps2, hh _ _ e1, e2, fun pos cv e => by
      obtain ⟨c, e4, e5⟩ := e3 pos cv e
      exact ⟨c, e4, hh _ _ e5⟩⟩
  show wpAny _ _ (evalAll ((do let v ← eval (.Lambda ⟨[], [⟨x, none, pa⟩], none, [], [], none, []⟩ (.Call (.Name "len" p2) [.Name x p3] [] p4) scope lpos) X.env; standAt pos; pure v) :: [])) _ _ _
  refine wpAny_evalAll_cons (wpAny_bind (PySem.W.kla_eval rfl ?_))
  have hclos : closureFor scope X.env = pure [] := by
    rw [closure_ok (fun y hy e => absurd e (hcell y hy).2), hclo]
  have hGl : s1.heap.Ns mainGlobals X.mg := I1.ok.mod.glob.keeps I1.bk
  have hCd : PySem.W.CodeHd s1.heap c P := TB.code.keeps I1.bk
  have hBm : s1.heap.BuiltinsAt X.mg P := by
    obtain ⟨bm, ob, e1, e2, e3, e4, e5, e6⟩ := TB.bm
    exact ⟨bm, ob, e1, e2, e3, e4, I1.bk _ _ e5, e6⟩
  rw [hq]
  cases hf : codeAmong lpos ps.toList with
  | none =>
    refine PySem.W.kla_makeFunction hclos I1.ok.glob hGl hcode hCd hPs ht hf TB.gP hBm fun c' ctv h' tk hx hge' hlt hcr hP' => wpAny_bind (wpAny_standAt (wpAny_pure (wpAny_evalAll_nil ?_)))
    have hx2 : ∀ b o, b ≠ P → s1.heap.get? b = some o → (h'.push (PySem.W.kla_obj "<lambda>" qn ⟨[], [⟨x, none, pa⟩], none, [], [], none, []⟩ (.Call (.Name "len" p2) [.Name x p3] [] p4) scope [] ((X.mg "__name__").getD .none) c' ctv)).get? b = some o := fun b o hb e => Heap.get?_push_of_some _ (hx b o hb e)
    obtain ⟨c2, oc, vs, t, e0, e1, e2, e3⟩ := hcr
    cases e0
    have I2 := inv_tabX (t' := tk) I1 hP hx2 (Heap.get?_push_of_some _ hP') hge' ⟨oc, vs, t, Heap.get?_push_of_some _ e1, e2, e3⟩
    have cP : c' ≠ P := fun z => by
      rw [z] at hge'
      exact Nat.lt_irrefl _ (Nat.lt_of_lt_of_le hPlt hge')
    have cn : H1 c' = none := I1.hok.fresh hge'
    refine cont _ c' _ ctv _ _ I2 ⟨⟨_, by rw [upd_ne (Ne.symm cP), upd_same], ?_, fun p' cv e => ?_⟩, fun b o hb e => by rw [upd_ne (ne_of_none e cn), upd_ne hb]; exact e⟩ upd_same (Heap.get?_push_size _ rfl)
    · rw [Array.toList_append]
      exact TriplesOk_snoc _ _ _ _ ht
    · rw [Array.toList_append] at e
      rcases LamX.among_app ps.toList ht e with z | z
      · obtain ⟨c3, z1, z2⟩ := hco1 p' cv z
        exact ⟨c3, z1, by rw [upd_ne (ne_of_none z2 cn), upd_ne (noP c3 z2)]; exact z2⟩
      · exact ⟨c', z, upd_same⟩
  | some cv =>
    obtain ⟨c2, z1, z2⟩ := hco1 _ _ hf
    subst z1
    refine PySem.W.kla_makeFunctionHit hclos I1.ok.glob hGl hcode hCd hPs ht hf hBm fun ctv h' tk hx hsz => wpAny_bind (wpAny_standAt (wpAny_pure (wpAny_evalAll_nil ?_)))
    exact cont _ c2 _ ctv H1 _ (I1.kept fun b o e => Heap.get?_push_of_some _ (hx b o e)) ⟨⟨ps, hP, ht, hco1⟩, fun b o _ e => e⟩ z2 (Heap.get?_push_size _ rfl)
end
end Zl
set_option maxRecDepth 100000
set_option maxHeartbeats 2000000
/-! A law whose text has a table that is known object by object: the table taken over at the law's beginning, and given back at its end -/
namespace Zl
open PySem PySem.Spec PyProof.Rows L2 GxR Lw

theorem hok_swap {P : Program} {w : World} {H : Hp} {h : Heap} {Pt : Addr} {o1 o2 : HO} (hok : HOk P w H h) (e : H Pt = some o1) (n1 : ∀ xs, o1 ≠ .tup xs) (n2 : ∀ a, o1 ≠ .own a) (hn : ObjOk P w (upd H Pt o2) h Pt o2) : HOk P w (upd H Pt o2) h := fun b o eb => by
  by_cases z : b = Pt
  · subst z
    rw [upd_same] at eb
    cases eb
    exact hn
  · rw [upd_ne z] at eb
    refine (hok b o eb).stay (fun _ _ _ e => e) (fun a ea => ?_) fun a xs ea => ?_
    · rw [upd_ne (fun z => by
        rw [z, e] at ea
        exact n2 _ (Option.some.inj ea))]
      exact ea
    · rw [upd_ne (fun z => by
        rw [z, e] at ea
        exact n1 _ (Option.some.inj ea))]
      exact ea
theorem fng_swap {P : Program} {w : World} {K : PySem.W.Frag} {mg : Str → Option Value} {base : Heap} {k : Nat} {f : Addr} {fd : FuncData} {ps : List Str} {sp sp2 : Sp} (Pt : Addr) (F : FnG P w K mg base CX0 k f fd ps sp2) (len : ∀ vs H Q E, sp vs H Q E → vs.length = ps.length)
    (h : ∀ vs H Q E, sp vs H Q E → H Pt = some (.tbl #[]) ∧ sp2 vs (upd H Pt (tabX Pt #[])) (fun v H' => ∃ qs, H' Pt = some (tabX Pt qs) ∧ Q v (upd H' Pt (.tbl qs))) E) : FnG P w K mg base CX0 k f fd ps sp := by
  refine ⟨len, fun A outer s H args us vs Q E hg hr e0 hb r hsp => ?_⟩
  obtain ⟨hP, h2⟩ := h vs H Q E hsp
  have hPs : s.heap.get? Pt = some { cls := .none, data := .fields #[] } := e0.hok Pt _ hP
  have neN : ∀ b, H b = none → b ≠ Pt := fun b e z => by
    rw [z, hP] at e
    cases e
  have hok2 : HOk P w (upd H Pt (tabX Pt #[])) s.heap := hok_swap e0.hok hP (fun _ z => by cases z) (fun _ z => by cases z) ⟨hPs, ⟨_, hPs⟩, fun h1 h2 e1 e2 => e2 _ e1⟩
  have e2 : Env0 P w K mg base A outer s (upd H Pt (tabX Pt #[])) := ⟨e0.frames, e0.mod, fun b o e => ⟨(e0.bs b o e).1, by rw [upd_ne (neN b (e0.bs b o e).2)]; exact (e0.bs b o e).2⟩, e0.bsz, e0.funs, fun b hb => by rw [upd_ne (neN b (e0.frf b hb))]; exact e0.frf b hb, hok2, e0.bare⟩
  refine codeAny_mono (F.run A outer s _ args us vs _ E hg hr e2 hb r h2) fun r s' h => ?_
  cases r with
  | error e => exact h
  | ok fl =>
    cases fl with
    | next => exact h
    | brk => exact h
    | cont => exact h
    | ret u =>
      obtain ⟨v, H', os, bare, un, hok', r', qs, hP', q⟩ := h
      have tn : ∀ b xs, H b = some (HO.tup xs) → b ≠ Pt := fun b xs e z => by
        rw [z, hP] at e
        cases e
      have hPs' := (hok' Pt _ hP').1
      refine ⟨v, upd H' Pt (.tbl qs), os, bare, ⟨fun b o h1 h2 h3 h4 => un.keep b o h1 (by rw [upd_ne (neN b h2)]; exact h2) h3 h4, fun b o h1 h2 h3 h4 => un.slot b o h1 (by rw [upd_ne (neN b h2)]; exact h2) h3 h4, fun b o h1 h2 h3 => ?_, un.there, fun b xs e => ?_, fun b o u e => ?_, fun b xs e => ?_⟩, ?_, r', q⟩
      · rw [upd_ne (neN b h2)]
        exact un.free b o h1 (by rw [upd_ne (neN b h2)]; exact h2) h3
      · rw [upd_ne (tn b xs e)]
        exact un.tups b xs (by rw [upd_ne (tn b xs e)]; exact e)
      · have z : b ≠ Pt := fun z => by
          rw [z, hP] at e
          cases e
        rw [upd_ne z]
        exact un.frzs b o u (by rw [upd_ne z]; exact e)
      · by_cases z : b = Pt
        · subst z
          rw [hP] at e
          cases e
          exact ⟨qs, by rw [upd_same, Array.empty_append]⟩
        · obtain ⟨more, e3⟩ := un.tbls b xs (by rw [upd_ne z]; exact e)
          exact ⟨more, by rw [upd_ne z]; exact e3⟩
      · exact hok_swap hok' hP' (fun _ z => by cases z) (fun _ z => by cases z) hPs'
end Zl
set_option maxRecDepth 100000
set_option maxHeartbeats 4000000
/-! the law of kit C: conditions -/
namespace Pr
open PySem PySem.Spec PyProof.Rows L2 GxR Gx Rp Dl Pd Tx Zq Zs
section
variable {P : Program} {w : World} {K : PySem.W.Frag} {mg : Str → Option Value} {base : Heap} {T : List Addr}
theorem paired_k2 {K : PySem.W.Frag} {H : Hp} : ∀ ps : List (Addr × Key × V), (∀ e ∈ ps, H e.1 = some (.tup [kV e.2.1, e.2.2])) → Paired (fun p (kv : Key × V) => SqT K H p [kV kv.1, kv.2]) (ps.map (·.1)) (ps.map (·.2))
  | [], _ => .nil
  | e :: r, h => .cons (SqT.of (h e List.mem_cons_self)) (paired_k2 r fun x hx => h x (List.mem_cons_of_mem _ hx))
def spDCo (K : PySem.W.Frag) : Sp := fun vs H Q _ => ∃ (p cc t : Addr) (a : Nat) (fl : List Str), vs = [.ref p, .ref t] ∧ PenAt H p cc a ∧ a + 6 ≤ 100000 ∧ Rd H t (.tup (fl.map V.str)) ∧ fl.Nodup ∧ fl.length ≤ 3 ∧ ∀ H' v, GeP p H H' → PenAt H' p cc (a + 6) → Eff H' v fl → Q v H'
abbrev nDCo : List Str := ["_law_pen", "_law_flags", "_law_flag"]
theorem scDCo : FnScope nDCo ["_law_pen", "_law_flags"] (defScope s_law_draw_condition) := ⟨rfl, rfl, rfl, by decide +kernel, rfl, by decide +kernel, by decide +kernel⟩
theorem ok_law_draw_condition {f c : Addr} {fd : FuncData} (F : FunC K "_law_draw_condition" s_law_draw_condition f fd c) (B : Bn mg) (D : DfP P w K mg base 2 "_law_take" ["_law_pen", "_law_amount"] spTake) : FnOk P w K mg base CX0 3 f fd ["_law_pen", "_law_flags"] (spDCo K) := by
  refine F.ok scDCo (fun vs H Q E ⟨_, _, _, _, _, h, _⟩ => by rw [h]; rfl) (fun A outer s H vs Q E hr h => ?_)
  obtain ⟨p, cc, t, a, fl, rfl, hp, ha, ht, hnd, hl3, q⟩ := h
  have hu := hu_of hr
  refine ⟨_, pss_one (ps_ret (pe_callTy (call_dictP rfl) rfl B.dict bt_dict (pa_cons (pe_lc (own := [("_law_flag", 2)]) (g := gName 2) rfl scDCo.nd (pi_tup (pv 1)) (blkOk_by (N := nDCo) (sc := defScope s_law_draw_condition) (by decide +kernel)) (fun _ _ _ _ _ => (pg_name (i := 2) scDCo.nd rfl (Or.inl rfl))) (fun _ _ _ _ _ => pts_one (pt_cmpR op_eq (pcall D (hr.mono (by decide)) pass0 rfl (pa_cons (pv 0) (pa_cons pe_int pa_nil))) pe_int (nomark _))) (fun _ _ _ _ _ => (pe_tup (pa_cons (pv 2) (pa_cons (pe_cmp (pc_eqI (pcall D (hr.mono (by decide)) pass0 rfl (pa_cons (pv 0) (pa_cons pe_int pa_nil))) pe_int)) pa_nil))))) pa_nil))), ?_⟩
  obtain ⟨px, hpx⟩ := hp.lst
  refine ⟨_, rfl, t, rfl, ⟨_, Or.inl ht⟩, fun D hD => ?_⟩
  have fD := hp.fresh hD
  refine lc_tup (xs := fl.map V.str) (fun k H' => k ≤ fl.length ∧ GeP p H H' ∧ PenAt H' p cc (a + 2 * k) ∧ ∃ ps : List (Addr × Key × V), H' D = some (.lst ((ps.map (·.1)).map V.ref)) ∧ ps.length ≤ k ∧ (∀ e ∈ ps, H' e.1 = some (.tup [kV e.2.1, e.2.2])) ∧ ((ps.map (·.2)).map (·.1)).Nodup ∧ ∀ e ∈ ps, ∃ f b, e.2 = (Sum.inr f, V.bl b) ∧ f ∈ fl.take k)
    ⟨Nat.zero_le _, GeP.of (Ge.new hD), hp.ge (Ge.new hD), [], upd_same, Nat.le_refl _, fun e he => (by cases he), List.nodup_nil, fun e he => (by cases he)⟩ (fun k H' _ z => Or.inl (z.2.1.rd hpx (fun ps z => by cases z) (fun ys z => by cases z) ht)) ?_ ?_
  · rintro k x H1 hx ⟨hk, g, hp1, ps, k1, k2, k3, k4, k5⟩
    rw [List.getElem?_map] at hx
    cases hz : fl[k]? with
    | none => rw [hz] at hx; cases hx
    | some fg =>
      rw [hz] at hx
      cases hx
      have hk' : k < fl.length := (List.getElem?_eq_some_iff.mp hz).1
      have hmem : fg ∈ fl.take (k + 1) := by
        rw [List.take_succ, hz]
        simp
      have sub : ∀ f ∈ fl.take k, f ∈ fl.take (k + 1) := fun f hf => by
        rw [List.take_succ]
        exact List.mem_append_left _ hf
      refine ⟨rfl, _, rfl, p, cc, 2, a + 2 * k, rfl, hp1, by omega, by decide, by decide, fun H2 r g2 hp2 r0 r1 => ?_⟩
      have kD := g2.1 D _ fD.1 k1 (fun ps z => by cases z)
      obtain ⟨py, hpy⟩ := hp1.lst
      have k3' : ∀ e ∈ ps, H2 e.1 = some (.tup [kV e.2.1, e.2.2]) := fun e he => g2.1 e.1 _ (fun z => by
        have := k3 e he
        rw [z, hpy] at this
        cases this) (k3 e he) (fun ps z => by cases z)
      refine ⟨rfl, _, rfl, ?_⟩
      cases hr0 : decide (V.int r = V.int 0) with
      | false => exact iteF ⟨hk', g.trans g2, hp2.mono (by omega), ps, kD, by omega, k3', k4, fun e he => by
          obtain ⟨f, b, e1, e2⟩ := k5 e he
          exact ⟨f, b, e1, sub f e2⟩⟩
      | true =>
        refine iteT ⟨_, rfl, _, rfl, p, cc, 2, a + 2 * k + 1, rfl, hp2, by omega, by decide, by decide, fun H3 r3 g3 hp3 r30 r31 => ⟨r3, 0, rfl, rfl, (by decide : 2 ≤ sizeLine), fun tp htp => ?_⟩⟩
        obtain ⟨pz, hpz⟩ := hp2.lst
        have gt := Ge.new (o := .tup [V.str fg, .bl (r3 == 0)]) htp
        have kD3 := gt.1 D _ (g3.1 D _ fD.1 kD (fun ps z => by cases z)) (fun ps z => by cases z)
        have kT : ∀ e ∈ ps, upd H3 tp (.tup [V.str fg, .bl (r3 == 0)]) e.1 = some (.tup [kV e.2.1, e.2.2]) := fun e he => gt.1 e.1 _ (g3.1 e.1 _ (fun z => by
          have := k3' e he
          rw [z, hpz] at this
          cases this) (k3' e he) (fun ps z => by cases z)) (fun ps z => by cases z)
        have hp4 := hp3.ge gt
        have gg : GeP p H (upd H3 tp (.tup [V.str fg, .bl (r3 == 0)])) := (g.trans (g2.trans g3)).trans (GeP.of gt)
        have htp2 : upd H3 tp (.tup [V.str fg, .bl (r3 == 0)]) tp = some (.tup [V.str fg, .bl (r3 == 0)]) := upd_same
        generalize upd H3 tp (.tup [V.str fg, .bl (r3 == 0)]) = H4 at *
        have nD : ∀ b o, H4 b = some o → (∀ ys, o ≠ .lst ys) → b ≠ D := fun b o e n z => by
          rw [z, kD3] at e
          exact n _ (Option.some.inj e).symm
        refine ⟨_, kD3, ?_, hk', gg.upd (Nw.none hD), (hp4.mono (by omega)).upd fD.1 fD.2, ps ++ [(tp, Sum.inr fg, .bl (r3 == 0))], ?_, ?_, ?_, ?_, ?_⟩
        · rw [List.length_map, List.length_map]
          exact Nat.lt_of_le_of_lt (show _ ≤ 3 by omega) (by decide)
        · rw [upd_same, List.map_append, List.map_append]
          rfl
        · rw [List.length_append]
          exact Nat.succ_le_succ k2
        · intro e he
          rcases List.mem_append.mp he with he | he
          · rw [upd_ne (nD _ _ (kT e he) fun ys z => by cases z)]
            exact kT e he
          · rw [List.mem_singleton.mp he, upd_ne (nD _ _ htp2 fun ys z => by cases z)]
            exact htp2
        · rw [List.map_append, List.map_append, List.nodup_append]
          refine ⟨k4, by simp, fun x hx y hy e => ?_⟩
          simp at hy
          subst hy
          subst e
          obtain ⟨q1, hq1, e1⟩ := List.mem_map.mp hx
          obtain ⟨e0, he0, e2⟩ := List.mem_map.mp hq1
          obtain ⟨f, b, e3, hf⟩ := k5 e0 he0
          rw [e2] at e3
          rw [e3] at e1
          cases e1
          exact take_fresh hnd hz hf
        · intro e he
          rcases List.mem_append.mp he with he | he
          · obtain ⟨f, b, e1, e2⟩ := k5 e he
            exact ⟨f, b, e1, sub f e2⟩
          · rw [List.mem_singleton.mp he]
            exact ⟨fg, _, rfl, hmem⟩
  · rintro H1 ⟨hk, g, hp1, ps, k1, k2, k3, k4, k5⟩
    rw [List.length_map] at hp1 k2
    refine ⟨D, ps.map Prod.fst, ps.map Prod.snd, rfl, SqL.of k1, paired_k2 (K := K) ps k3, fun d hd => ?_⟩
    rw [mergeK_app (acc := []) k4, List.nil_append]
    refine q _ _ (g.trans (GeP.of (Ge.new hd))) ((hp1.mono (by omega)).ge (Ge.new hd)) ⟨d, _, rfl, upd_same, k4, fun kv hkv => ?_, by rw [List.length_map]; exact Nat.le_trans k2 (by simp)⟩
    obtain ⟨e, he, e2⟩ := List.mem_map.mp hkv
    obtain ⟨f, b, e3, hf⟩ := k5 e he
    exact ⟨f, b, by rw [← e2]; exact e3, List.mem_of_mem_take hf⟩
end
end Pr
set_option maxRecDepth 100000
set_option maxHeartbeats 4000000
/-! the law of kit C: whether a condition holds -/
namespace Pr
open PySem PySem.Spec PyProof.Rows L2 GxR Gx Rp Dl Pd Tx Zq Zs Zm
section
variable {P : Program} {w : World} {K : PySem.W.Frag} {mg : Str → Option Value} {base : Heap} {T : List Addr}
/-- a tuple that is known as an object -/
theorem pe_tupF {X : Cx} {es : List Expr} {t : TA} {pos : Pos} {k : Nat} (ha : PA X es t) : PE X (.Tuple es k pos) (fun σ H Q => t σ H fun xs H1 => xs.length ≤ sizeLine ∧ ∀ (l : Addr) (ot : Obj), H1 l = none → ot.dict = none → Q (.ref l) (upd H1 l (.frz ot (.tup xs)))) := by
  refine ⟨fun pins s σ H Q I h => wpAny_Tuple (thn (ha.run pos pins s σ H _ I h) fun us s1 h1 => ?_)⟩
  obtain ⟨vs, H1, I1, r1, hz, q⟩ := h1
  refine ⟨by rw [← r1.length]; exact hz, ?_⟩
  exact ⟨.ref s1.heap.objs.size, _, I1.laid (a := s1.heap.objs.size) (t' := s1.toks) (o := .frz { cls := .type "tuple", data := .seq us.toArray } (.tup vs)) (fun _ _ z => Heap.get?_push_of_some _ z) (Nat.le_refl _) ⟨Heap.get?_push_size _ rfl, hz, us, r1, IsTup.new _ _⟩, rfl, q _ _ (I1.hok.fresh (Nat.le_refl _)) rfl⟩
theorem ix_tupKC {X : Cx} {K : PySem.W.Frag} (h : X.K = K) : IxR X (rIxT K) := h ▸ ix_tup
theorem pe_tupIndexK {X : Cx} {K : PySem.W.Frag} (hK : X.K = K) {o e : Expr} {to te : TE} {apos cpos : Pos} (ho : PE X o to) (he' : PE X e te) (hbase : attributeBase o "index" X.env (eval o X.env) = eval o X.env := by rfl) (hfew : ((backTo cpos (starEach [e] X.env)).all (fun x => !x.1) && (backToKw cpos (keywordEach [] X.env)).all (fun x => x.1.isSome) && decide ([e].length + ([] : List Keyword).length + (if ([] : List Keyword).isEmpty then 0 else 1) < 30)) = true := by rfl) (hline : (apos.endLine == cpos.line) = true := by rfl) (hs : starEach [e] X.env = (false, eval e X.env) :: starEach [] X.env := by rfl) (hplain : (backTo cpos (starEach [] X.env)).any (·.1) = false := by rfl) :
    PE X (.Call (.Attribute o "index" apos) [e] [] cpos) (fun σ H Q => to σ H fun x H1 => ∃ (a : Addr) (ot : Obj) (ys : List Str), x = .ref a ∧ H1 a = some (.frz ot (.tup (ys.map V.str))) ∧ ot.dict = none ∧ te σ H1 fun y H2 => ∃ k, y = .str k ∧ SqT K H2 a (ys.map V.str) ∧ k ∈ ys ∧ Q (.int (ys.idxOf k : Nat)) H2) := by
  subst hK
  exact pe_tupIndex ho he' hbase hfew hline hs hplain
/-- the flags' tuple is known as an object -/
def Fz (H : Hp) (t : Addr) (fl : List Str) : Prop := ∃ ot, H t = some (.frz ot (.tup (fl.map V.str))) ∧ ot.dict = none
theorem Fz.ge {H H' : Hp} {t : Addr} {fl : List Str} (h : Fz H t fl) (g : Ge H H') : Fz H' t fl := let ⟨ot, h1, h2⟩ := h; ⟨ot, g.1 t _ h1 (fun ps z => by cases z), h2⟩
theorem fact_ix {fl : List Str} {bs : List Bool} {f0 : Str} {b1 : Bool} (nd : fl.Nodup) (lb : bs.length = fl.length) (hf : f0 ∈ fl) (h : valV (factsK fl bs) (Sum.inr f0 : Key) = some (.bl b1)) : atI (bs.map V.bl) ((fl.idxOf f0 : Nat) : Int) = some (.bl b1) := by
  have hj : fl.idxOf f0 < fl.length := List.idxOf_lt_length_of_mem hf
  have hb : fl.idxOf f0 < bs.length := by omega
  have e1 : fl[fl.idxOf f0] = f0 := List.getElem_idxOf hj
  have nd0 : ((factsK fl bs).map (·.1)).Nodup := by
    rw [facts_fst lb.symm]
    exact List.pairwise_map.mpr (nd.imp fun h z => h (Sum.inr.inj z))
  have hm : ((Sum.inr f0 : Key), V.bl bs[fl.idxOf f0]) ∈ factsK fl bs := by
    refine List.mem_of_getElem? (i := fl.idxOf f0) ?_
    show ((fl.map fun f => (Sum.inr f : Key)).zip (bs.map V.bl))[fl.idxOf f0]? = _
    rw [List.getElem?_zip_eq_some]
    refine ⟨?_, ?_⟩
    · rw [List.getElem?_map, List.getElem?_eq_getElem hj, e1]
      rfl
    · rw [List.getElem?_map, List.getElem?_eq_getElem hb]
      rfl
  have e2 := valV_nodup nd0 hm
  rw [h] at e2
  refine atI_nat ?_
  rw [List.getElem?_map, List.getElem?_eq_getElem hb]
  exact e2.symm
def spHds (K : PySem.W.Frag) (T : List Addr) : Sp := fun vs H Q _ => ∃ u v m t o cd ly s fl bs wt c ek, vs = [u, v, .ref c] ∧ KS0 K T H u v m t o cd ly s fl bs wt ∧ Fz H t fl ∧ EAt H fl c ek ∧ ek.length ≤ 3 ∧ ∀ H', Ge H H' → Q (.bl (holdsK (factsK fl bs) ek)) H'
abbrev nHds : List Str := ["_law_keymap", "_law_state", "_law_condition", "_law_flag"]
theorem scHds : FnScope nHds ["_law_keymap", "_law_state", "_law_condition"] (defScope s_law_holds) := ⟨rfl, rfl, rfl, by decide +kernel, rfl, by decide +kernel, by decide +kernel⟩
theorem ok_law_holds {f c : Addr} {fd : FuncData} (F : FunC K "_law_holds" s_law_holds f fd c) : FnOk P w K mg base CX0 1 f fd ["_law_keymap", "_law_state", "_law_condition"] (spHds K T) := by
  refine F.ok scHds (fun vs H Q E ⟨_, _, _, _, _, _, _, _, _, _, _, _, _, h, _⟩ => by rw [h]; rfl) (fun A outer s0 H vs Q E hr h => ?_)
  obtain ⟨u, v, m, t, o, cd, ly, s, fl, bs, wt, c, ek, rfl, k, fz, ea, e3, q⟩ := h
  have hu := hu_of hr
  refine ⟨_, pss_one (ps_ret (pe_cmpR op_notIn_seq pe_bl (pe_lock (pe_lc (own := [("_law_flag", 3)]) (g := gName 3) (tt := tYes) rfl scHds.nd (pi_keys (pv 2)) (blkOk_by (N := nHds) (sc := defScope s_law_holds) (by decide +kernel)) (fun _ _ _ _ _ => (pg_name (i := 3) scHds.nd rfl (Or.inl rfl))) (fun _ _ _ _ _ => pts_nil) (fun _ _ _ _ _ => (pe_cmpR op_eq (pe_ix (ix_tupKC (K := K) rfl) (pv 1) (pe_tupIndexK (K := K) rfl (pe_ix (ix_tupKC (K := K) rfl) (pv 0) pe_int (fun _ _ => rfl)) (pv 3)) (fun _ _ => rfl)) (pe_dget hu (pv 2) (pv 3) (fun _ _ => rfl)) (by rfl))))) (by rfl))), ?_⟩
  have hu' : u = .ref m := k.eu
  subst hu'
  have hv' : v = .ref s := k.ev
  subst hv'
  refine ⟨c, .dK ek, ea.1, True.intro, fun od => ⟨.ref c, rfl, c, od, rfl, Or.inl ⟨ek, upd_same, fun D hD => ?_⟩⟩⟩
  have dc : D ≠ c := fun z => by rw [z, upd_same] at hD; cases hD
  have hD1 : H D = none := by rw [upd_ne dc] at hD; exact hD
  refine lc_it (n := ek.length) (walk_keys (d := c) (o := od) (kvs := ek)) (fun i H' => i ≤ ek.length ∧ Ge (upd H c (.frz od (.dK ek))) H' ∧ H' D = some (.lst (((ek.take i).map fun q => decide (valV (factsK fl bs) q.1 = some q.2)).map V.bl)))
    ⟨Nat.zero_le _, Ge.new hD, upd_same⟩ (fun i H' _ z => z.2.1.1 c _ upd_same (fun ps z => by cases z)) ?_ ?_
  · rintro i x H5 H6 hi ⟨_, g5, hd5⟩ ⟨rfl, key, val, ek', rfl⟩
    have hl : H6 c = some (.frz od (.dK ek)) := g5.1 c _ upd_same (fun ps z => by cases z)
    have hm := List.mem_of_getElem? ek'
    obtain ⟨f0, b0, e0, hf0⟩ := ea.2.2 _ hm
    cases e0
    obtain ⟨b1, hb1⟩ := facts_at (bs := bs) k.lb.symm hf0
    have k6 : KS0 K T H6 (.ref m) (.ref s) m t o cd ly s fl bs wt := (k.lock ea.1).ge g5
    have fz6 : Fz H6 t fl := by
      obtain ⟨ot, z1, z2⟩ := fz
      exact ⟨ot, g5.1 t _ (by rw [upd_ne (fun z => by rw [z, ea.1] at z1; cases z1)]; exact z1) (fun ps z => by cases z), z2⟩
    obtain ⟨ot, z1, z2⟩ := fz6
    have hix : atI (bs.map V.bl) ((fl.idxOf f0 : Nat) : Int) = some (.bl b1) := fact_ix k.nd k.lb hf0 hb1
    refine ⟨rfl, _, rfl, _, rfl, m, _, _, _, rfl, rfl, Or.inl (Or.inl k6.hm), atI_nat (j := 0) rfl, t, ot, fl, rfl, z1, z2, ?_⟩
    refine ⟨_, rfl, f0, rfl, Or.inl (Or.inr ⟨ot, z1⟩), hf0, s, _, _, _, rfl, rfl, Or.inl k6.hs, hix, ?_⟩
    refine ⟨_, rfl, _, rfl, c, .bl b0, rfl, Or.inl ⟨ek, Sum.inr f0, Or.inr ⟨od, hl⟩, rfl, (valV_nodup ea.2.1 hm).symm⟩, rfl, _, hd5, ?_, hi, Ge.upd g5 hD, ?_⟩
    · rw [List.length_map, List.length_map, List.length_take]
      exact Nat.lt_of_le_of_lt (Nat.le_trans (Nat.min_le_right _ _) e3) (by decide)
    · rw [upd_same, List.take_succ, ek', List.map_append, List.map_append]
      have e4 : decide (valV (factsK fl bs) (Sum.inr f0 : Key) = some (V.bl b0)) = decide (V.bl b1 = V.bl b0) := by
        rw [hb1]
        exact decide_eq_decide.mpr ⟨fun z => Option.some.inj z, fun z => by rw [z]⟩
      show _ = some (HO.lst (_ ++ [V.bl (decide (valV (factsK fl bs) (Sum.inr f0 : Key) = some (V.bl b0)))]))
      rw [e4]
  · rintro H5 ⟨_, g5, hd5⟩
    rw [List.take_length] at hd5
    obtain ⟨q1, q2⟩ := ge_unlock ea.1 g5
    obtain ⟨z1, z2⟩ := notIn_bools (ek.map fun q => decide (valV (factsK fl bs) q.1 = some q.2))
    refine ⟨q1, D, _, rfl, Or.inl (SqL.of (by rw [upd_ne dc]; exact hd5)), rfl, z2, ?_⟩
    have z := q _ q2
    have e5 : holdsK (factsK fl bs) ek = (ek.map fun q => decide (valV (factsK fl bs) q.1 = some q.2)).all id := by
      unfold holdsK
      rw [List.all_map]
      rfl
    rw [e5, ← z1] at z
    exact z
end
end Pr
set_option maxRecDepth 100000
set_option maxHeartbeats 4000000
/-! the law of kit C: the winners -/
namespace Pr
open PySem PySem.Spec PyProof.Rows L2 GxR Gx Rp Dl Pd Tx Zq Zs Zm
section
variable {P : Program} {w : World} {K : PySem.W.Frag} {mg : Str → Option Value} {base : Heap} {T : List Addr}
theorem firstC_snoc (F : List (Key × V)) (x : Str) : ∀ (B : List BI) (b : BI) (j : Nat), firstC F x (B ++ [b]) j = match firstC F x B j with | some r => some r | none => if hit F x b then some (j + B.length, b.cm) else none
  | [], b, j => by
    show (if hit F x b then some (j, b.cm) else none) = _
    rfl
  | c :: r, b, j => by
    show (if hit F x c then some (j, c.cm) else firstC F x (r ++ [b]) (j + 1)) = match (if hit F x c then some (j, c.cm) else firstC F x r (j + 1)) with | some r => some r | none => if hit F x b then some (j + (r.length + 1), b.cm) else none
    cases hit F x c with
    | true => rfl
    | false =>
      have ih := firstC_snoc F x r b (j + 1)
      rw [show j + 1 + r.length = j + (r.length + 1) by omega] at ih
      exact ih
theorem winC_snoc (F : List (Key × V)) (x : Str) : ∀ (L : List (List BI)) (l : List BI) (k : Nat), winC F x (L ++ [l]) k = match winC F x L k with | some r => some r | none => (match firstC F x l 0 with | some (j, c) => some (k + L.length, j, c) | none => none)
  | [], l, k => by
    show (match firstC F x l 0 with | some (j, c) => some (k, j, c) | none => none) = _
    rfl
  | c :: r, l, k => by
    show (match firstC F x c 0 with | some (j, c) => some (k, j, c) | none => winC F x (r ++ [l]) (k + 1)) = match (match firstC F x c 0 with | some (j, c) => some (k, j, c) | none => winC F x r (k + 1)) with | some r => some r | none => (match firstC F x l 0 with | some (j, c) => some (k + (r.length + 1), j, c) | none => none)
    cases firstC F x c 0 with
    | some q => rfl
    | none =>
      have ih := winC_snoc F x r l (k + 1)
      rw [show k + 1 + r.length = k + (r.length + 1) by omega] at ih
      exact ih
/-- what wins among the layers before, and the bindings before of this one -/
def preW (F : List (Key × V)) (L : List (List BI)) (B : List BI) (x : Str) : Option (Nat × Nat × V) := match winC F x L 0 with | some r => some r | none => (match firstC F x B 0 with | some (j, c) => some (L.length, j, c) | none => none)
theorem preW_nil (F : List (Key × V)) (L : List (List BI)) (x : Str) : preW F L [] x = winC F x L 0 := by
  unfold preW
  cases winC F x L 0 <;> rfl
theorem preW_full (F : List (Key × V)) (L : List (List BI)) (l : List BI) (x : Str) : winC F x (L ++ [l]) 0 = preW F L l x := by
  rw [winC_snoc, Nat.zero_add]
  rfl
theorem preW_snoc (F : List (Key × V)) (L : List (List BI)) (B : List BI) (b : BI) (x : Str) : preW F L (B ++ [b]) x = match preW F L B x with | some r => some r | none => if hit F x b then some (L.length, B.length, b.cm) else none := by
  unfold preW
  rw [firstC_snoc]
  cases winC F x L 0 with
  | some r => rfl
  | none =>
    cases firstC F x B 0 with
    | some r => rfl
    | none =>
      rw [Nat.zero_add]
      cases hit F x b <;> rfl
def spWinC (K : PySem.W.Frag) (T : List Addr) : Sp := fun vs H Q _ => ∃ u v m t o cd ly s fl bss bs wt, vs = [u, v] ∧ KS K T H u v m t o cd ly s fl bss bs wt ∧ Fz H t fl ∧ bss.flatten.length ≤ 60 ∧ (∀ l ∈ bss, ∀ b ∈ l, b.ck.length ≤ 3) ∧ ∀ H' a found, Ge H H' → H a = none → H' a = some (.dK found) → WT H' found (fun x => winC (factsK fl bs) x bss 0) → found.length ≤ 60 → (∀ q ∈ found, ∃ bi ∈ bss.flatten, q.1 = Sum.inr bi.x) → Q (.ref a) H'
abbrev nWin : List Str := ["_law_keymap", "_law_state", "_law_found", "_law_k", "_law_layer", "_law_j", "_law_binding", "_law_keys", "_law_condition", "_law_command"]
theorem scWin : FnScope nWin ["_law_keymap", "_law_state"] (defScope s_law_winners) := ⟨rfl, rfl, rfl, by decide +kernel, rfl, by decide +kernel, by decide +kernel⟩
theorem ok_law_winners {f c : Addr} {fd : FuncData} (F : FunC K "_law_winners" s_law_winners f fd c) (B : Bn mg) (D : DfP P w K mg base 1 "_law_holds" ["_law_keymap", "_law_state", "_law_condition"] (spHds K T)) : FnOk P w K mg base CX0 2 f fd ["_law_keymap", "_law_state"] (spWinC K T) := by
  refine F.ok scWin (fun vs H Q E ⟨_, _, _, _, _, _, _, _, _, _, _, _, h, _⟩ => by rw [h]; rfl) (fun A outer s0 H vs Q E hr h => ?_)
  obtain ⟨u, v, m, t, o, cd, ly, s, fl, bss, bs, wt, rfl, k, fz, n60, n2, q⟩ := h
  have hu := hu_of hr
  refine ⟨_, pss_cons (ps_asg pe_dnewK (pg_name (i := 2) scWin.nd rfl (Or.inl rfl)))
    (pss_cons (ps_for PassesOwn.never rfl (pi_enumT rfl B.enumerate (pa_cons (pe_ix ix_tup (pv 0) pe_int (fun _ _ => rfl)) pa_nil)) (pg_tup rfl (pgs_cons (pg_name (i := 3) scWin.nd rfl (Or.inl rfl)) (pgs_cons (pg_name (i := 4) scWin.nd rfl (Or.inl rfl)) pgs_nil)))
      (pss_one (ps_for PassesOwn.never rfl (pi_enumT rfl B.enumerate (pa_cons (pv 4) pa_nil)) (pg_tup rfl (pgs_cons (pg_name (i := 5) scWin.nd rfl (Or.inl rfl)) (pgs_cons (pg_name (i := 6) scWin.nd rfl (Or.inl rfl)) pgs_nil)))
        (pss_cons (ps_asg (pv 6) (pg_tup rfl (pgs_cons (pg_name (i := 7) scWin.nd rfl (Or.inl rfl)) (pgs_cons (pg_name (i := 8) scWin.nd rfl (Or.inl rfl)) (pgs_cons (pg_name (i := 9) scWin.nd rfl (Or.inl rfl)) pgs_nil)))))
        (pss_one (ps_if (PW.pt (pw_and (pt_cmp (pc_dnotin hu (pv 7) (pv 2))) (pw_and1 (pt_val (pcall D (hr.mono (by decide)) pass0 rfl (pa_cons (pv 0) (pa_cons (pv 1) (pa_cons (pv 8) pa_nil)))))))) (pss_one (ps_dput hu (pv 2) (pv 7) (pe_tup (pa_cons (pv 3) (pa_cons (pv 5) (pa_cons (pv 9) pa_nil)))) rfl)) pss_nil))))))
    (pss_one (ps_ret (pv 2)))), ?_⟩
  intro d hd
  have gd := Ge.new (o := .dK []) hd
  obtain ⟨es, e1, e2⟩ := k.hk
  have pl := Paired.length e2
  have hu' : u = .ref m := k.eu
  subst hu'
  refine ⟨_, rfl, m, _, _, _, rfl, rfl, Or.inl (Or.inl (gd.1 m _ k.hm (fun ps z => by cases z))), atI_nat (j := 3) rfl, ly, es, rfl, Or.inl (Or.inl (gd.1 ly _ e1 (fun ps z => by cases z))), ?_⟩
  refine for_it (n := es.length) walk_enumT (fun i σ H' => i ≤ es.length ∧ Ge H H' ∧ (∃ found, H' d = some (.dK found) ∧ WT H' found (fun x => winC (factsK fl bs) x (bss.take i) 0) ∧ found.length ≤ (bss.take i).flatten.length ∧ ∀ q ∈ found, ∃ bi ∈ bss.flatten, q.1 = Sum.inr bi.x) ∧ ∃ x3 x4 x5 x6 x7 x8 x9, σ = [some (.ref m), some v, some (.ref d), x3, x4, x5, x6, x7, x8, x9])
    ⟨Nat.zero_le _, gd, ⟨[], upd_same, ⟨List.nodup_nil, (fun q hq => by cases hq), fun x => Or.inl ⟨rfl, rfl⟩⟩, Nat.zero_le _, fun q hq => by cases hq⟩, _, _, _, _, _, _, _, rfl⟩ (fun i σ H' _ z => Or.inl (Or.inl (z.2.1.1 ly _ e1 (fun ps z => by cases z)))) ?_ ?_
  · rintro i x σ H4 H5 hi ⟨_, g4, ⟨found, hf4, wt4, fl4, fk4⟩, x3, x4, x5, x6, x7, x8, x9, rfl⟩ ⟨tp, u', v', rfl, ht, rfl, eu, ev⟩
    cases eu
    obtain ⟨bis, hb1, hb2⟩ := paired_at e2 ev
    have gt := Ge.new (o := .tup [.int (i : Nat), v']) ht
    have g5 := g4.trans gt
    obtain ⟨la, vs, rfl, l1, l2⟩ := hb2
    refine ⟨tp, _, rfl, SqT.of upd_same, rfl, _, _, rfl, _, _, rfl, rfl, ?_⟩
    refine ⟨_, rfl, la, vs, rfl, Or.inl (Or.inl (g5.1 la _ l1 (fun ps z => by cases z))), ?_⟩
    have pl2 := Paired.length l2
    refine for_it (n := vs.length) walk_enumT (fun j σ H' => j ≤ vs.length ∧ Ge H H' ∧ (∃ found, H' d = some (.dK found) ∧ WT H' found (preW (factsK fl bs) (bss.take i) (bis.take j)) ∧ found.length ≤ (bss.take i).flatten.length + j ∧ ∀ q ∈ found, ∃ bi ∈ bss.flatten, q.1 = Sum.inr bi.x) ∧ ∃ x5 x6 x7 x8 x9, σ = [some (.ref m), some v, some (.ref d), some (.int (i : Nat)), some (.ref la), x5, x6, x7, x8, x9])
      ⟨Nat.zero_le _, g5, ⟨found, gt.dk hf4, (wt4.ge gt).eq fun x => preW_nil _ _ x, by omega, fk4⟩, _, _, _, _, _, rfl⟩ (fun j σ H' _ z => Or.inl (Or.inl (z.2.1.1 la _ l1 (fun ps z => by cases z)))) ?_ ?_
    · rintro j x σ H6 H7 hj ⟨_, g6, ⟨found, hf6, wt6, fl6, fk6⟩, y5, y6, y7, y8, y9, rfl⟩ ⟨tq, u', v', rfl, htq, rfl, eu, ev'⟩
      cases eu
      obtain ⟨bi, hc1, hc2⟩ := paired_at l2 ev'
      have gq := Ge.new (o := .tup [.int (j : Nat), v']) htq
      obtain ⟨b, cc, rfl, b1', b2', b3, b4⟩ := hc2
      have g7 := g6.trans gq
      have b1 := g7.1 b _ b1' (fun ps z => by cases z)
      have b2 := g7.dk b2'
      have hf7 := gq.dk hf6
      have wt7 := wt6.ge gq
      have mem1 := List.mem_of_getElem? hb1
      have mem2 := List.mem_of_getElem? hc1
      have et : bis.take (j + 1) = bis.take j ++ [bi] := by rw [List.take_succ, hc1]; rfl
      have lj : (bis.take j).length = j := by
        rw [List.length_take]
        omega
      have li : (bss.take i).length = i := by
        rw [List.length_take]
        omega
      have f60 : found.length < 60 := by
        have h1 : ((bss.take i).flatten ++ bis).length ≤ bss.flatten.length := by
          have e3 : bss.take (i + 1) = bss.take i ++ [bis] := by rw [List.take_succ, hb1]; rfl
          have s2 : ((bss.take (i + 1)).flatten).Sublist bss.flatten := by
            have z : bss.flatten = (bss.take (i + 1)).flatten ++ (bss.drop (i + 1)).flatten := by rw [← List.flatten_append, List.take_append_drop]
            rw [z]
            exact List.sublist_append_left _ _
          rw [e3, List.flatten_append] at s2
          simpa using s2.length_le
        rw [List.length_append] at h1
        omega
      refine ⟨tq, _, rfl, SqT.of upd_same, rfl, _, _, rfl, _, _, rfl, rfl, ?_⟩
      refine ⟨_, rfl, b, _, rfl, SqT.of b1, rfl, _, _, rfl, _, _, rfl, _, _, rfl, rfl, ?_⟩
      refine ⟨_, rfl, _, rfl, d, _, rfl, DGet.k (k := Sum.inr bi.x) hf7, _, rfl, ?_⟩
      have stay : ∀ H8, Ge (upd H6 tq (.tup [.int (j : Nat), .ref b])) H8 → (∀ x, preW (factsK fl bs) (bss.take i) (bis.take (j + 1)) x = preW (factsK fl bs) (bss.take i) (bis.take j) x) → j + 1 ≤ vs.length ∧ Ge H H8 ∧ ∃ found, H8 d = some (.dK found) ∧ WT H8 found (preW (factsK fl bs) (bss.take i) (bis.take (j + 1))) ∧ found.length ≤ (bss.take i).flatten.length + (j + 1) ∧ ∀ q ∈ found, ∃ bi ∈ bss.flatten, q.1 = Sum.inr bi.x := fun H8 g8 hx => ⟨hj, g7.trans g8, found, g8.dk hf7, (wt7.ge g8).eq hx, by omega, fk6⟩
      cases e5 : valV found (Sum.inr bi.x : Key) with
      | some w0 =>
        obtain ⟨z1, z2, z3⟩ := stay _ (Ge.refl _) fun x => by
          rw [et, preW_snoc]
          cases e6 : preW (factsK fl bs) (bss.take i) (bis.take j) x with
          | some r => rfl
          | none =>
            have ne : x ≠ bi.x := fun z => by
              rcases wt6.2.2 x with ⟨_, w2⟩ | ⟨_, _, _, _, w2, _, _⟩
              · rw [z, e5] at w2
                cases w2
              · rw [e6] at w2
                cases w2
            have hh : hit (factsK fl bs) x bi = false := by
              unfold hit
              rw [decide_eq_false (fun z => ne (V.str.inj z).symm)]
              rfl
            simp only [hh]
            rfl
        exact iteF (iteF ⟨z1, z2, z3, _, _, _, _, _, rfl⟩)
      | none =>
        refine iteT ⟨_, rfl, _, rfl, _, rfl, .ref m, v, m, t, o, cd, ly, s, fl, bs, wt, cc, bi.ck, rfl, (k.ge g7).toKS0, fz.ge g7, ⟨b2, b3, b4⟩, n2 bis mem1 bi mem2, fun H8 g8 => ⟨_, rfl, ?_⟩⟩
        have hd8 := g8.dk hf7
        have w6 : preW (factsK fl bs) (bss.take i) (bis.take j) bi.x = none := by
          rcases wt6.2.2 bi.x with ⟨w1, _⟩ | ⟨_, _, _, _, _, w2, _⟩
          · exact w1
          · rw [e5] at w2
            cases w2
        cases e6 : holdsK (factsK fl bs) bi.ck with
        | false =>
          obtain ⟨z1, z2, z3⟩ := stay H8 g8 fun x => by
            have hh : hit (factsK fl bs) x bi = false := by unfold hit; rw [e6, Bool.and_false]
            rw [et, preW_snoc]
            simp only [hh]
            cases preW (factsK fl bs) (bss.take i) (bis.take j) x <;> rfl
          exact iteF ⟨z1, z2, z3, _, _, _, _, _, rfl⟩
        | true =>
          refine iteT ⟨_, rfl, _, rfl, _, rfl, (by decide : 3 ≤ sizeLine), fun p hp => ?_⟩
          have gp := Ge.new (o := .tup [.int (i : Nat), .int (j : Nat), bi.cm]) hp
          have hdp := gp.dk hd8
          refine ⟨_, rfl, _, rfl, d, _, rfl, DPut.k (k := Sum.inr bi.x) hdp (Nat.lt_of_lt_of_le f60 (by decide)), hj, Ge.upd ((g7.trans g8).trans gp) hd, ⟨_, upd_same, ((((wt7.ge g8).ge gp).put upd_same).updD hdp).eq fun x => ?_, Nat.le_trans putK_le (by omega), fun q hq => ?_⟩, _, _, _, _, _, rfl⟩
          · rw [et, preW_snoc, hit_dec e6]
            by_cases ex : x = bi.x
            · rw [if_pos ex, ex, w6, lj, li]
              simp
            · rw [if_neg ex]
              simp only [ex, decide_false]
              cases preW (factsK fl bs) (bss.take i) (bis.take j) x <;> rfl
          · have hk := List.mem_map_of_mem (f := (·.1)) hq
            rcases putK_keys (kvs := found) (k := (Sum.inr bi.x : Key)) (v := V.ref p) with z | ⟨_, z⟩
            · rw [z] at hk
              obtain ⟨q0, h0, e0⟩ := List.mem_map.mp hk
              obtain ⟨b9, h9, e9⟩ := fk6 q0 h0
              exact ⟨b9, h9, by rw [← e9]; exact e0.symm⟩
            · rw [z] at hk
              rcases List.mem_append.mp hk with hk | hk
              · obtain ⟨q0, h0, e0⟩ := List.mem_map.mp hk
                obtain ⟨b9, h9, e9⟩ := fk6 q0 h0
                exact ⟨b9, h9, by rw [← e9]; exact e0.symm⟩
              · exact ⟨bi, List.mem_flatten.mpr ⟨bis, mem1, mem2⟩, List.mem_singleton.mp hk⟩
    · rintro σ H6 ⟨_, g6, ⟨found, hf6, wt6, fl6, fk6⟩, y5, y6, y7, y8, y9, rfl⟩
      have et : bss.take (i + 1) = bss.take i ++ [bis] := by rw [List.take_succ, hb1]; rfl
      refine ⟨hi, g6, ⟨found, hf6, wt6.eq fun x => ?_, ?_, fk6⟩, _, _, _, _, _, _, _, rfl⟩
      · rw [et, preW_full, pl2, List.take_length]
      · rw [et, List.flatten_append, List.length_append]
        simp only [List.flatten_cons, List.flatten_nil, List.append_nil]
        omega
  · rintro σ H4 ⟨_, g4, ⟨found, hf, wt4, fl4, fk4⟩, x3, x4, x5, x6, x7, x8, x9, rfl⟩
    rw [pl, List.take_length] at fl4
    exact ⟨_, rfl, q H4 d found g4 hd hf (wt4.eq fun x => by rw [pl, List.take_length]) (by omega) fk4⟩
end
end Pr
set_option maxRecDepth 100000
set_option maxHeartbeats 4000000
/-! the law of kit C: the table of what is bound -/
namespace Pr
open PySem PySem.Spec PyProof.Rows L2 GxR Gx Rp Dl Pd Tx Zq Zs Zm
section
variable {P : Program} {w : World} {K : PySem.W.Frag} {mg : Str → Option Value} {base : Heap} {T : List Addr}
/-- what wins, or nothing -/
def cmV (F : List (Key × V)) (bss : List (List BI)) (x : Str) : V := match winC F x bss 0 with | some (_, _, c) => c | none => .non
def tblL (F : List (Key × V)) (bss : List (List BI)) (ys : List Str) : List (Key × V) := (ys.filter fun y => !decide (cmV F bss y = .non)).map fun y => (Sum.inr y, cmV F bss y)
theorem cmV_cmd {F : List (Key × V)} {bss : List (List BI)} {cks : List (Key × V)} (ok : CmOk bss cks) (x : Str) : (cmdOf F bss x).map V.str = if cmV F bss x = .non then none else some (cmV F bss x) := by
  unfold cmdOf cmV
  cases e : winC F x bss 0 with
  | none => rfl
  | some q =>
    obtain ⟨i, j, c⟩ := q
    obtain ⟨l, hl, bi, hb, rfl⟩ := winC_mem e
    rcases ok l hl bi hb with z | ⟨n', v, z, hv⟩
    · rw [z]
      rfl
    · rw [z]
      rfl
theorem tbl_nd {F : List (Key × V)} {bss : List (List BI)} {ys : List Str} (h : ys.Nodup) : ((tblL F bss ys).map (·.1)).Nodup := by
  unfold tblL
  rw [List.map_map]
  exact List.pairwise_map.mpr ((h.sublist List.filter_sublist).imp fun h z => h (Sum.inr.inj z))
theorem tbl_val {F : List (Key × V)} {bss : List (List BI)} {ys : List Str} (h : ys.Nodup) (hy : ∀ x, cmV F bss x ≠ .non → x ∈ ys) (x : Str) : valV (tblL F bss ys) (Sum.inr x : Key) = if cmV F bss x = .non then none else some (cmV F bss x) := by
  by_cases e : cmV F bss x = .non
  · rw [if_pos e]
    cases z : valV (tblL F bss ys) (Sum.inr x : Key) with
    | none => rfl
    | some v =>
      obtain ⟨q, hq, e1⟩ := List.mem_map.mp (L2.valV_in z)
      obtain ⟨y, hy1, e2⟩ := List.mem_map.mp hq
      rw [← e2] at e1
      have e3 : y = x := Sum.inr.inj e1
      have := (List.mem_filter.mp hy1).2
      rw [e3, e] at this
      cases this
  · rw [if_neg e]
    refine valV_nodup (tbl_nd h) (List.mem_map.mpr ⟨x, List.mem_filter.mpr ⟨hy x e, ?_⟩, rfl⟩)
    rw [decide_eq_false e]
    rfl
def spTblC (K : PySem.W.Frag) (T : List Addr) : Sp := fun vs H Q _ => ∃ u v m t o cd ly s fl bss bs wt cks, vs = [u, v] ∧ KS K T H u v m t o cd ly s fl bss bs wt ∧ Fz H t fl ∧ bss.flatten.length ≤ 60 ∧ (∀ l ∈ bss, ∀ b ∈ l, b.ck.length ≤ 3) ∧ CmOk bss cks ∧ ∀ H' a tbl, Ge H H' → Nw H a → H' a = some (.dK tbl) → (tbl.map (·.1)).Nodup → (∀ x, valV tbl (Sum.inr x : Key) = (cmdOf (factsK fl bs) bss x).map V.str) → tbl.length ≤ 60 → (∀ q ∈ tbl, ∃ bi ∈ bss.flatten, q.1 = Sum.inr bi.x) → Q (.ref a) H'
abbrev nTbl : List Str := ["_law_keymap", "_law_state", "_law_found", "_law_keys"]
theorem scTbl : FnScope nTbl ["_law_keymap", "_law_state"] (defScope s_law_table) := ⟨rfl, rfl, rfl, by decide +kernel, rfl, by decide +kernel, by decide +kernel⟩
theorem ok_law_tableC {f c : Addr} {fd : FuncData} (F : FunC K "_law_table" s_law_table f fd c) (B : Bn mg) (hso : mg "sorted" = none) (D : DfP P w K mg base 2 "_law_winners" ["_law_keymap", "_law_state"] (spWinC K T)) : FnOk P w K mg base CX0 3 f fd ["_law_keymap", "_law_state"] (spTblC K T) := by
  refine F.ok scTbl (fun vs H Q E ⟨_, _, _, _, _, _, _, _, _, _, _, _, _, h, _⟩ => by rw [h]; rfl) (fun A outer s0 H vs Q E hr h => ?_)
  obtain ⟨u, v, m, t, o, cd, ly, s, fl, bss, bs, wt, cks, rfl, k, fz, n60, n2, cm, q⟩ := h
  have hu := hu_of hr
  refine ⟨_, pss_cons (ps_asg (pcall D (hr.mono (by decide)) pass0 rfl (pa_cons (pv 0) (pa_cons (pv 1) pa_nil))) (pg_name (i := 2) scTbl.nd rfl (Or.inr rfl)))
    (pss_one (ps_ret (pe_callTy (call_dictP rfl) rfl B.dict bt_dict (pa_cons (pe_lc (own := [("_law_keys", 3)]) (g := gName 3) rfl scTbl.nd (pi_list (pe_callB (call_sortedD rfl) rfl hso (by decide +kernel) (pa_cons (pv 2) pa_nil))) (blkOk_by (N := nTbl) (sc := defScope s_law_table) (by decide +kernel)) (fun _ _ _ _ _ => (pg_name (i := 3) scTbl.nd rfl (Or.inl rfl))) (fun _ _ _ _ _ => pts_one (pt_cmpR op_notN (pe_ix (ix_tupKC (K := K) rfl) (pe_dget hu (pv 2) (pv 3) (fun _ _ => rfl)) pe_int (fun _ _ => rfl)) pe_non (nomark _))) (fun _ _ _ _ _ => (pe_tup (pa_cons (pv 3) (pa_cons (pe_ix (ix_tupKC (K := K) rfl) (pe_dget hu (pv 2) (pv 3) (fun _ _ => rfl)) pe_int (fun _ _ => rfl)) pa_nil))))) pa_nil)))), ?_⟩
  refine ⟨_, rfl, _, rfl, u, v, m, t, o, cd, ly, s, fl, bss, bs, wt, rfl, k, fz, n60, n2, fun H1 d found g1 dn hf wt1 f60 fk => ?_⟩
  dsimp only [gName]
  obtain ⟨ks, eks⟩ : ∃ ks : List Str, found.map (·.1) = ks.map Sum.inr := by
    refine ⟨found.map fun q => kS q.1, ?_⟩
    rw [List.map_map]
    refine List.map_congr_left fun q hq => ?_
    obtain ⟨x, e⟩ := wt1.2.1 q hq
    show q.1 = Sum.inr (kS q.1)
    rw [e]
    rfl
  have lks : ks.length = found.length := by
    have z := congrArg List.length eks
    rw [List.length_map, List.length_map] at z
    exact z.symm
  refine ⟨_, rfl, d, found, ks, rfl, Or.inl hf, eks, by omega, fun ys L hperm _ hL => ?_⟩
  have gL := Ge.new (o := .lst (ys.map V.str)) hL
  have wt2 := wt1.ge gL
  have hf2 := gL.dk hf
  have hl2 : upd H1 L (.lst (ys.map V.str)) L = some (.lst (ys.map V.str)) := upd_same
  have g2 := g1.trans gL
  generalize upd H1 L (.lst (ys.map V.str)) = H2 at *
  have ynd : ys.Nodup := by
    have z : (ks.map (Sum.inr : Str → Key)).Nodup := eks ▸ wt1.1
    exact hperm.nodup_iff.mpr ((List.pairwise_map.mp z).imp fun h e => h (by rw [e]))
  have ymem : ∀ x, x ∈ ys ↔ (Sum.inr x : Key) ∈ found.map (·.1) := fun x => by
    rw [eks, hperm.mem_iff, List.mem_map]
    exact ⟨fun h => ⟨x, h, rfl⟩, fun ⟨y, h, e⟩ => by rw [← Sum.inr.inj e]; exact h⟩
  refine ⟨L, rfl, ⟨_, SqL.of hl2⟩, fun D hD => ?_⟩
  refine lc_list (xs := ys.map V.str) (fun k H' => k ≤ ys.length ∧ Ge H2 H' ∧ ∃ ps : List (Addr × Key × V), H' D = some (.lst ((ps.map (·.1)).map V.ref)) ∧ ps.map (·.2) = tblL (factsK fl bs) bss (ys.take k) ∧ ∀ e ∈ ps, H' e.1 = some (.tup [kV e.2.1, e.2.2]))
    ⟨Nat.zero_le _, Ge.new hD, [], upd_same, rfl, fun e he => (by cases he)⟩ (fun k H' _ z => SqL.of (z.2.1.1 L _ hl2 (fun ps z => by cases z))) ?_ ?_
  · rintro k2 x H3 hx ⟨_, g3, ps, k1, kk2, k3⟩
    rw [List.getElem?_map] at hx
    cases hz : ys[k2]? with
    | none => rw [hz] at hx; cases hx
    | some y =>
      rw [hz] at hx
      cases hx
      have hk' : k2 < ys.length := (List.getElem?_eq_some_iff.mp hz).1
      obtain ⟨q0, hq0, e0⟩ := List.mem_map.mp ((ymem y).mp (List.mem_of_getElem? hz))
      have hv0 := valV_nodup wt1.1 (show (q0.1, q0.2) ∈ found from hq0)
      rw [e0] at hv0
      obtain ⟨i, j, c2, p, w1, w2, w3⟩ : ∃ i j c p, winC (factsK fl bs) y bss 0 = some (i, j, c) ∧ valV found (Sum.inr y : Key) = some (.ref p) ∧ H2 p = some (.tup [.int (i : Nat), .int (j : Nat), c]) := by
        rcases wt2.2.2 y with ⟨_, z⟩ | z
        · rw [z] at hv0
          cases hv0
        · exact z
      have ecm : cmV (factsK fl bs) bss y = c2 := by
        unfold cmV
        rw [w1]
      have w4 := g3.1 p _ w3 (fun ps z => by cases z)
      have hf3 := g3.dk hf2
      have et : tblL (factsK fl bs) bss (ys.take (k2 + 1)) = tblL (factsK fl bs) bss (ys.take k2) ++ (if decide (c2 = V.non) = true then [] else [(Sum.inr y, c2)]) := by
        unfold tblL
        rw [List.take_succ, hz, List.filter_append, List.map_append]
        congr 1
        show List.map _ (List.filter _ [y]) = _
        rw [← ecm]
        cases e : decide (cmV (factsK fl bs) bss y = V.non) <;> simp [e]
      have pl60 : ps.length ≤ 60 := by
        have z := congrArg List.length kk2
        rw [List.length_map] at z
        rw [z]
        unfold tblL
        rw [List.length_map]
        refine Nat.le_trans (List.length_filter_le _ _) ?_
        rw [List.length_take]
        have := hperm.length_eq
        omega
      refine ⟨rfl, _, rfl, _, rfl, d, .ref p, rfl, Or.inl ⟨found, Sum.inr y, Or.inl hf3, rfl, w2.symm⟩, p, _, _, _, rfl, rfl, SqT.of w4, atI_nat (j := 2) rfl, ?_⟩
      refine ⟨rfl, _, rfl, ?_⟩
      cases e : decide (c2 = V.non) with
      | true =>
        refine iteF ⟨hk', g3, ps, k1, ?_, k3⟩
        rw [et, e, if_pos rfl, List.append_nil]
        exact kk2
      | false =>
        refine iteT ⟨_, rfl, _, rfl, _, rfl, d, .ref p, rfl, Or.inl ⟨found, Sum.inr y, Or.inl hf3, rfl, w2.symm⟩, p, _, _, _, rfl, rfl, SqT.of w4, atI_nat (j := 2) rfl, (by decide : 2 ≤ sizeLine), fun tp htp => ?_⟩
        have gt := Ge.new (o := .tup [V.str y, c2]) htp
        have kD3 := gt.1 D _ k1 (fun ps z => by cases z)
        have kT : ∀ e ∈ ps, upd H3 tp (.tup [V.str y, c2]) e.1 = some (.tup [kV e.2.1, e.2.2]) := fun e he => gt.1 e.1 _ (k3 e he) (fun ps z => by cases z)
        have gg := g3.trans gt
        have htp2 : upd H3 tp (.tup [V.str y, c2]) tp = some (.tup [V.str y, c2]) := upd_same
        generalize upd H3 tp (.tup [V.str y, c2]) = H4 at *
        have nD : ∀ b o, H4 b = some o → (∀ ys, o ≠ .lst ys) → b ≠ D := fun b o e n z => by
          rw [z, kD3] at e
          exact n _ (Option.some.inj e).symm
        refine ⟨_, kD3, ?_, hk', Ge.upd gg hD, ps ++ [(tp, Sum.inr y, c2)], ?_, ?_, ?_⟩
        · rw [List.length_map, List.length_map]
          exact Nat.lt_of_le_of_lt pl60 (by decide)
        · rw [upd_same, List.map_append, List.map_append]
          rfl
        · rw [et, e, if_neg Bool.false_ne_true, List.map_append, kk2]
          rfl
        · intro e he
          rcases List.mem_append.mp he with he | he
          · rw [upd_ne (nD _ _ (kT e he) fun ys z => by cases z)]
            exact kT e he
          · rw [List.mem_singleton.mp he, upd_ne (nD _ _ htp2 fun ys z => by cases z)]
            exact htp2
  · rintro H3 ⟨_, g3, ps, k1, k2, k3⟩
    rw [List.length_map, List.take_length] at k2
    refine ⟨D, ps.map Prod.fst, ps.map Prod.snd, rfl, SqL.of k1, paired_k2 (K := K) ps k3, fun a ha => ?_⟩
    have e9 : ps.map Prod.snd = tblL (factsK fl bs) bss ys := k2
    have e10 : mergeK [] (tblL (factsK fl bs) bss ys) = tblL (factsK fl bs) bss ys := mergeK_app (acc := []) (tbl_nd ynd)
    rw [e9, e10]
    have hmem : ∀ x, cmV (factsK fl bs) bss x ≠ .non → x ∈ ys := fun x hx => by
      rcases wt2.2.2 x with ⟨z, _⟩ | ⟨_, _, _, _, _, z, _⟩
      · have z : winC (factsK fl bs) x bss 0 = none := z
        unfold cmV at hx
        rw [z] at hx
        exact absurd rfl hx
      · exact (ymem x).mpr (L2.valV_in z)
    refine q _ a _ ((g2.trans g3).trans (Ge.new ha)) (Ge.nw (g2.trans g3) ha) upd_same (tbl_nd ynd) (fun x => by rw [tbl_val ynd hmem, cmV_cmd cm]) ?_ fun q2 hq2 => ?_
    · unfold tblL
      rw [List.length_map]
      have := List.length_filter_le (fun y => !decide (cmV (factsK fl bs) bss y = .non)) ys
      have := hperm.length_eq
      omega
    · obtain ⟨y, hy, e⟩ := List.mem_map.mp hq2
      obtain ⟨q0, hq0, e0⟩ := List.mem_map.mp ((ymem y).mp (List.mem_filter.mp hy).1)
      obtain ⟨b9, h9, e8⟩ := fk q0 hq0
      exact ⟨b9, h9, by rw [← e, ← e8, e0]⟩
end
end Pr
set_option maxRecDepth 100000
set_option maxHeartbeats 4000000
/-! the law of kit C: the first event -/
namespace Pr
open PySem PySem.Spec PyProof.Rows L2 GxR Gx Rp Dl Pd Tx Zq Zs Zl
section
variable {P : Program} {w : World} {K : PySem.W.Frag} {mg : Str → Option Value} {base : Heap} {T : List Addr}
theorem try_keep {C : Str → Option Str} {ks : List Nat} {j m : Nat} {n : Str} (h : C (mkS (ks.take j)) = none ∨ ks.take j = ks.take m) (e : C (mkS (ks.take m)) = some n) : tryAt C ks j (.act n (ks.take m)) = .act n (ks.take m) := by
  rcases h with h | h
  · exact try_none h
  · rw [try_some (n := n) (by rw [h]; exact e), h]
theorem first_fit {C : Str → Option Str} {ks : List Nat} {m : Nat} {n : Str} (h1 : 1 ≤ m) (h4 : m ≤ 4) (e : C (mkS (ks.take m)) = some n) (h : ∀ j, m < j → j ≤ 4 → C (mkS (ks.take j)) = none ∨ ks.take j = ks.take m) : firstEv C ks = .act n (ks.take m) := by
  unfold firstEv
  have z : m = 1 ∨ m = 2 ∨ m = 3 ∨ m = 4 := by omega
  rcases z with rfl | rfl | rfl | rfl
  · rw [try_some e, try_keep (h 2 (by omega) (by omega)) e, try_keep (h 3 (by omega) (by omega)) e, try_keep (h 4 (by omega) (by omega)) e]
  · rw [try_some (m := 2) e, try_keep (h 3 (by omega) (by omega)) e, try_keep (h 4 (by omega) (by omega)) e]
  · rw [try_some (m := 3) e, try_keep (h 4 (by omega) (by omega)) e]
  · exact try_some e
theorem first_no {C : Str → Option Str} {ks : List Nat} (h : ∀ j, 1 ≤ j → j ≤ 4 → C (mkS (ks.take j)) = none) : firstEv C ks = .text (ks.headD 0) := by
  unfold firstEv
  rw [try_none (h 4 (by omega) (by omega)), try_none (h 3 (by omega) (by omega)), try_none (h 2 (by omega) (by omega)), try_none (h 1 (by omega) (by omega))]
theorem atI_lastQ {α : Type} {xs : List α} {v : α} (h : xs.getLast? = some v) : atI xs (-1) = some v := by
  have hn : xs ≠ [] := fun z => by rw [z] at h; cases h
  have hl : 0 < xs.length := List.length_pos_iff.mpr hn
  unfold atI ixN
  rw [if_neg (by decide), if_pos (by omega)]
  have e : (-1 + (xs.length : Int)).toNat = xs.length - 1 := by omega
  show xs[(-1 + (xs.length : Int)).toNat]? = some v
  rw [e, ← List.getLast?_eq_getElem?]
  exact h
theorem iteTn {c : Bool} {a b : Prop} (h : c = true) (ha : a) : if c = true then a else b := by rw [if_pos h]; exact ha
theorem iteFn {c : Bool} {a b : Prop} (h : c = false) (hb : b) : if c = true then a else b := by rw [if_neg (by rw [h]; exact Bool.false_ne_true)]; exact hb
theorem lamT_ge {H H' : Hp} {Pt : Addr} {q : Str} (h : LamT H Pt q) (g : Ge H H') : LamT H' Pt q := by
  obtain ⟨ps, h1, h2, h3⟩ := h
  exact ⟨ps, g.1 _ _ h1 (fun ps z => by cases z), h2, fun pos cv e => by
    obtain ⟨c, e1, e2⟩ := h3 pos cv e
    exact ⟨c, e1, g.1 _ _ e2 (fun ps z => by cases z)⟩⟩
theorem lamG_geP {H H' : Hp} {Pt : Addr} {q : Str} (l : LamT H Pt q) (g : LamG Pt q H H') : GeP Pt H H' := ⟨fun a o n e _ => g.2 a o n e, fun a ⟨ps, e, t⟩ => ⟨ps, g.2 a _ (l.ne e fun f z => by cases z) e, t⟩⟩
/-- the keys that begin what is read -/
def pre (ks : List Nat) (y : Str) : Bool := decide (mkS (ks.take y.length) = y)
def fitS (tbl : List (Key × V)) (ks : List Nat) : List Str := (tbl.map fun q => kS q.1).filter (pre ks)
theorem pre_eq {ks : List Nat} {y : Str} (h : pre ks y = true) : mkS (ks.take y.length) = y := of_decide_eq_true h
theorem pre_take {ks : List Nat} {j : Nat} : pre ks (mkS (ks.take j)) = true := by
  refine decide_eq_true ?_
  rw [mkS_len, List.length_take]
  congr 1
  rcases Nat.le_total j ks.length with h | h
  · rw [Nat.min_eq_left h]
  · rw [Nat.min_eq_right h, List.take_length, List.take_of_length_le h]
theorem key_kS {tbl : List (Key × V)} {x : Str} {v : V} (h : valV tbl (Sum.inr x : Key) = some v) : x ∈ tbl.map fun q => kS q.1 := by
  have z := L2.valV_in h
  obtain ⟨q, hq, e⟩ := List.mem_map.mp z
  refine List.mem_map.mpr ⟨q, hq, ?_⟩
  rw [e]
  rfl
theorem fit_in {tbl : List (Key × V)} {C : Str → Option Str} {ks : List Nat} {j : Nat} {n : Str} (hC : valV tbl (Sum.inr (mkS (ks.take j)) : Key) = (C (mkS (ks.take j))).map V.str) (e : C (mkS (ks.take j)) = some n) : mkS (ks.take j) ∈ fitS tbl ks := by
  rw [e] at hC
  exact List.mem_filter.mpr ⟨key_kS hC, pre_take⟩
theorem fit_pre {tbl : List (Key × V)} {ks : List Nat} {y : Str} (h : y ∈ fitS tbl ks) : pre ks y = true := (List.mem_filter.mp h).2
theorem fit_key {tbl : List (Key × V)} {ks : List Nat} {x : Str} (hkey : ∀ q ∈ tbl, ∃ y, q.1 = Sum.inr y ∧ 1 ≤ y.length ∧ y.length ≤ 4 ∧ PyData.strOk y = true) (h : x ∈ fitS tbl ks) : 1 ≤ x.length ∧ x.length ≤ 4 ∧ PyData.strOk x = true := by
  obtain ⟨q, hq, e⟩ := List.mem_map.mp (List.mem_filter.mp h).1
  obtain ⟨y, e1, e2⟩ := hkey q hq
  rw [e1] at e
  have e : y = x := e
  rw [← e]
  exact e2
theorem has_val : ∀ {tbl : List (Key × V)} {k : Key}, k ∈ tbl.map (·.1) → (valV tbl k).isSome = true
  | [], _, h => by cases h
  | (k0, v0) :: r, k, h => by
    by_cases e : k0 = k
    · subst e
      rw [valV_pos (p := (k0, v0)) rfl]
      rfl
    · rw [valV_neg (p := (k0, v0)) e]
      exact has_val ((List.mem_cons.mp h).resolve_left fun z => e z.symm)
theorem fit_cmd {tbl : List (Key × V)} {C : Str → Option Str} {ks : List Nat} {x : Str} (hkey : ∀ q ∈ tbl, ∃ y, q.1 = Sum.inr y ∧ 1 ≤ y.length ∧ y.length ≤ 4 ∧ PyData.strOk y = true) (hC : ∀ x, valV tbl (Sum.inr x : Key) = (C x).map V.str) (h : x ∈ fitS tbl ks) : ∃ n, C x = some n := by
  obtain ⟨q, hq, e⟩ := List.mem_map.mp (List.mem_filter.mp h).1
  obtain ⟨y, e1, _⟩ := hkey q hq
  rw [e1] at e
  have e : y = x := e
  have hs : (valV tbl (Sum.inr x : Key)).isSome = true := has_val (List.mem_map.mpr ⟨q, hq, by rw [e1, e]⟩)
  rw [hC x] at hs
  cases z : C x with
  | none => rw [z] at hs; cases hs
  | some n => exact ⟨n, rfl⟩
theorem last_max : ∀ {ys : List Str} {m : Str}, ys.Pairwise (fun x y => x.length ≤ y.length) → ys.getLast? = some m → ∀ {y}, y ∈ ys → y.length ≤ m.length
  | [], _, _, h, _, _ => by cases h
  | [a], m, _, h, y, hy => by
    have e : a = m := Option.some.inj h
    rw [List.mem_singleton.mp hy, e]
    exact Nat.le_refl _
  | a :: b :: r, m, hs, h, y, hy => by
    have h' : (b :: r).getLast? = some m := by rw [← h]; rfl
    rcases List.mem_cons.mp hy with z | z
    · rw [z]
      exact (List.pairwise_cons.mp hs).1 m (List.mem_of_getLast? h')
    · exact last_max (List.pairwise_cons.mp hs).2 h' z
theorem sh_strsN {ol : List Str} (h : ∀ f ∈ ol, PyData.strOk f = true) : SeqAt.shaped (.list (ol.map PyData.str)) = true := by
  have a : PyData.canLayAll0 (ol.map PyData.str) = true := by
    induction ol with
    | nil => rfl
    | cons x r ih =>
      simp only [List.map_cons, PyData.canLayAll0, PyData.canLay0, Bool.and_eq_true]
      exact ⟨h x List.mem_cons_self, ih fun f hf => h f (List.mem_cons_of_mem _ hf)⟩
  have b : PyData.depthAll (ol.map PyData.str) = 0 := by
    clear h a
    induction ol with
    | nil => rfl
    | cons x r ih => simp only [List.map_cons, PyData.depthAll, PyData.depth, ih, Nat.max_self]
  unfold SeqAt.shaped
  simp only [PyData.canLay0, PyData.depth, a, b, Bool.true_and]
  rfl
theorem eqv_ne {xs : List Str} (h : xs ≠ []) : PyData.eqv (.list (xs.map PyData.str)) (.list []) = false := by
  cases xs with
  | nil => exact absurd rfl h
  | cons x r => rfl
def qEvt : Str := ((Str.ofString "_law_event") ++ ".<locals>.") ++ "<lambda>"
def spEvS (Pt : Addr) : Sp := fun vs H Q _ => ∃ (tb : Addr) (tbl : List (Key × V)) (C : Str → Option Str) (ks : List Nat), vs = [.ref tb, .str (mkS ks)] ∧ H tb = some (.dK tbl) ∧ tbl.length ≤ 100 ∧ (∀ q ∈ tbl, ∃ y, q.1 = Sum.inr y ∧ 1 ≤ y.length ∧ y.length ≤ 4 ∧ PyData.strOk y = true) ∧ (∀ x, valV tbl (Sum.inr x : Key) = (C x).map V.str) ∧ ks ≠ [] ∧ ks.length ≤ 400 ∧ LamT H Pt qEvt ∧ ∀ H' a, GeP Pt H H' → LamT H' Pt qEvt → H' a = some (.tup (firstEv C ks).vs) → Q (.ref a) H'
abbrev nEvS : List Str := ["_law_table_here", "_law_keys", "_law_some", "_law_longest", "_law_one"]
theorem scEvS : FnScope nEvS ["_law_table_here", "_law_keys"] (defScope s_law_event) := ⟨rfl, rfl, rfl, by decide +kernel, rfl, by decide +kernel, by decide +kernel⟩
theorem ok_law_eventS {f c Pt : Addr} {fd : FuncData} (F : FunC K "_law_event" s_law_event f fd c) (B : Bn mg) (hso : mg "sorted" = none) (TB : TabB base mg c Pt) : FnOk P w K mg base CX0 2 f fd ["_law_table_here", "_law_keys"] (spEvS Pt) := by
  refine F.ok scEvS (fun vs H Q E ⟨_, _, _, _, h, _⟩ => by rw [h]; rfl) (fun A outer s0 H vs Q E hr h => ?_)
  have hu := hu_of hr
  have hu2 := hr.units
  have hln := B.len
  obtain ⟨tb, tbl, C, ks, rfl, htb, h100, hkey, hC, hk, h400, hT, q⟩ := h
  refine ⟨_, pss_cons (ps_lock (ps_setLc (i := 2) (own := [("_law_one", 4)]) (g := gName 4) rfl scEvS.nd rfl rfl (sw_true rfl rfl rfl (by decide +kernel)) (pi_keys (pv 0)) (blkOk_by (N := nEvS) (sc := defScope s_law_event) (by decide +kernel)) (fun _ _ _ _ _ => (pg_name (i := 4) scEvS.nd rfl (Or.inl rfl))) (fun _ _ _ _ _ => pts_one (pt_cmpR op_eq (pe_slice sl_str (pv 1) po_none (po_some (pe_callB call_len_str rfl B.len PySem.boot_len (pa_cons (pv 4) pa_nil)))) (pv 4) (nomark _))) (fun _ _ _ _ _ => (pv 4))))
    (pss_cons (ps_if (pt_cmpR (op_eqD hu2) (pv 2) (pe_lst pa_nil) (nomark _)) (pss_one (ps_ret (pe_tup (pa_cons pe_str (pa_cons (pe_ix ix_str (pv 1) pe_int (fun _ _ => rfl)) pa_nil))))) pss_nil)
    (pss_cons (ps_asg (pe_ix ix_list (pe_sortLam (k := 0) (qn := qEvt) (X := _) hr rfl hso hln (pv 2) TB rfl rfl (fun _ => rfl) rfl rfl rfl (by decide +kernel) rfl rfl rfl (fun _ _ _ _ _ => rfl)) (pe_un un_neg pe_int) (fun _ _ => rfl)) (pg_name (i := 3) scEvS.nd rfl (Or.inl rfl)))
    (pss_one (ps_ret (pe_tup (pa_cons pe_str (pa_cons (pe_dget hu (pv 0) (pv 3) (fun _ _ => rfl)) (pa_cons (pv 3) pa_nil)))))))), ?_⟩
  have xlen : (mkS ks).length = ks.length := mkS_len ks
  have hsz : (mkS ks).length ≤ sizeLine := by rw [xlen]; exact Nat.le_trans h400 (by decide)
  refine ⟨tb, .dK tbl, htb, True.intro, fun od => ?_⟩
  refine ⟨_, rfl, tb, od, rfl, Or.inl ⟨tbl, upd_same, fun D hD => ?_⟩⟩
  have dD : D ≠ tb := fun z => by rw [z, upd_same] at hD; cases hD
  refine lc_it (n := tbl.length) (walk_keys (d := tb) (o := od) (kvs := tbl)) (fun i H' => i ≤ tbl.length ∧ Ge (upd H tb (.frz od (.dK tbl))) H' ∧ H' D = some (.lst ((fitS (tbl.take i) ks).map V.str)))
    ⟨Nat.zero_le _, Ge.new hD, upd_same⟩ (fun i H' _ z => z.2.1.1 tb _ upd_same (fun ps z => by cases z)) ?_ ?_
  · rintro i v H6 H7 hi ⟨_, g6, h6⟩ ⟨rfl, key, val, ek, rfl⟩
    obtain ⟨y, ey, y1, y4, _⟩ := hkey _ (List.mem_of_getElem? ek)
    have ey : key = Sum.inr y := ey
    subst ey
    have et : fitS (tbl.take (i + 1)) ks = fitS (tbl.take i) ks ++ (if pre ks y = true then [y] else []) := by
      unfold fitS
      rw [List.take_succ, ek, List.map_append, List.filter_append]
      congr 1
      show List.filter (pre ks) [y] = _
      cases e : pre ks y with
      | true => rw [List.filter_cons_of_pos (by exact e)]; rfl
      | false => rw [List.filter_cons_of_neg (by rw [e]; exact Bool.false_ne_true)]; rfl
    have lle : (fitS (tbl.take i) ks).length ≤ 100 := by
      refine Nat.le_trans (List.length_filter_le _ _) ?_
      rw [List.length_map, List.length_take]
      omega
    have hy2 : y.length ≤ sizeLine := Nat.le_trans y4 (by decide)
    have ec : cutS (mkS ks) none (some ((y.length : Nat) : Int)) = mkS (ks.take y.length) := cut_take ks y.length
    refine ⟨rfl, _, rfl, _, rfl, _, rfl, hy2, _, rfl, mkS ks, rfl, hsz, _, rfl, rfl, _, rfl, ?_⟩
    have ed : decide (V.str (cutS (mkS ks) none (some ((y.length : Nat) : Int))) = kV (Sum.inr y : Key)) = pre ks y := by
      rw [ec]
      unfold pre
      refine decide_eq_decide.mpr ⟨fun z => V.str.inj z, fun z => by rw [z]; rfl⟩
    rw [ed]
    cases e : pre ks y with
    | false => exact iteF ⟨hi, g6, by rw [et, e, if_neg Bool.false_ne_true, List.append_nil]; exact h6⟩
    | true =>
      refine iteT ⟨_, rfl, _, h6, by rw [List.length_map]; exact Nat.lt_of_le_of_lt (show _ ≤ 1000 by omega) (by decide), hi, Ge.upd g6 hD, ?_⟩
      rw [upd_same, et, e, if_pos rfl, List.map_append]
      rfl
  · rintro H6 ⟨_, g6, h6⟩
    rw [List.take_length] at h6
    obtain ⟨q1, q2⟩ := ge_unlock htb g6
    dsimp only [gName]
    have h7 : upd H6 tb (.dK tbl) D = some (.lst ((fitS tbl ks).map V.str)) := by rw [upd_ne dD]; exact h6
    refine ⟨q1, ?_⟩
    generalize upd H6 tb (.dK tbl) = H2 at *
    refine ⟨_, rfl, (by decide : 0 ≤ sizeLine), fun z0 hz0 => ?_⟩
    have gz := Ge.new (o := .lst []) hz0
    have h2z := gz.1 D _ h7 (fun ps z => by cases z)
    have g2z := q2.trans gz
    refine ⟨.list ((fitS tbl ks).map PyData.str), .list [], .lst (SqL.of h2z) (dp_strs _), .lst (SqL.of upd_same) .nil, ?_, by decide +kernel, _, rfl, ?_⟩
    · exact sh_strsN fun f hf => (fit_key hkey hf).2.2
    generalize upd H2 z0 (.lst []) = H3 at *
    have hk1 : 1 ≤ ks.length := List.length_pos_iff.mpr hk
    by_cases hn : fitS tbl ks = []
    · rw [hn]
      refine iteTn (by decide +kernel) ?_
      obtain ⟨c0, r0, rfl⟩ : ∃ c0 r0, ks = c0 :: r0 := by
        cases ks with
        | nil => exact absurd rfl hk
        | cons c r => exact ⟨c, r, rfl⟩
      refine ⟨_, rfl, mkS (c0 :: r0), 0, c0, rfl, rfl, hsz, atI_nat (j := 0) rfl, (by decide : 2 ≤ sizeLine), fun a ha => q _ a (GeP.of (g2z.trans (Ge.new ha))) (lamT_ge (lamT_ge hT g2z) (Ge.new ha)) ?_⟩
      rw [first_no fun j a b => ?_]
      · exact upd_same
      · cases e : C (mkS ((c0 :: r0).take j)) with
        | none => rfl
        | some n =>
          have z := fit_in (hC _) e
          rw [hn] at z
          cases z
    · refine iteFn (eqv_ne hn) ?_
      have hT3 := lamT_ge hT g2z
      dsimp only [tNext]
      refine ⟨_, rfl, D, fitS tbl ks, rfl, SqL.of h2z, fun x hx => ?_, hT3, fun H4 L ys g4 hp hs hL => ?_⟩
      · exact Nat.le_trans (fit_key hkey hx).2.1 (by decide)
      have hyn : ys ≠ [] := fun z => hn (by rw [z] at hp; exact List.nil_perm.mp hp)
      obtain ⟨m, hm⟩ : ∃ m, ys.getLast? = some m := ⟨_, List.getLast?_eq_some_getLast hyn⟩
      have hmem : m ∈ fitS tbl ks := hp.mem_iff.mp (List.mem_of_getLast? hm)
      have hmax : ∀ y ∈ fitS tbl ks, y.length ≤ m.length := fun y hy => last_max hs hm (hp.mem_iff.mpr hy)
      obtain ⟨y1, y4, _⟩ := fit_key hkey hmem
      have epre := pre_eq (fit_pre hmem)
      obtain ⟨n, hn1⟩ := fit_cmd hkey hC hmem
      have fe : firstEv C ks = .act n (ks.take m.length) := by
        refine first_fit y1 y4 (by rw [epre]; exact hn1) fun j a b => ?_
        cases e : C (mkS (ks.take j)) with
        | none => exact Or.inl rfl
        | some n2 =>
          right
          have z := hmax _ (fit_in (hC _) e)
          rw [mkS_len, List.length_take] at z
          rw [List.take_of_length_le (by omega), List.take_of_length_le (by omega)]
      have hlast : atI (ys.map V.str) (-1) = some (.str m) := by
        refine atI_lastQ ?_
        rw [List.getLast?_map, hm]
        rfl
      have gp4 : GeP Pt H H4 := (GeP.of g2z).trans (lamG_geP hT3 g4)
      have htb4 : H4 tb = some (.dK tbl) := g4.2 tb _ (hT3.ne (g2z.dk htb) fun f z => by cases z) (g2z.dk htb)
      refine ⟨1, rfl, L, _, -1, _, rfl, rfl, SqL.of hL, hlast, ?_⟩
      refine ⟨_, rfl, _, rfl, tb, .str n, rfl, ?_, _, rfl, (by decide : 3 ≤ sizeLine), fun a ha => q _ a (gp4.trans (GeP.of (Ge.new ha))) (lamT_ge g4.1 (Ge.new ha)) ?_⟩
      · have z := DGet.k (k := Sum.inr m) htb4
        rw [hC, hn1] at z
        exact z
      · rw [fe, upd_same]
        show _ = some (HO.tup [V.str (Str.ofString "do"), V.str n, V.str (mkS (ks.take m.length))])
        rw [epre]
end
end Pr
set_option maxRecDepth 100000
set_option maxHeartbeats 4000000
/-! the law of kit C: keymaps -/
namespace Pr
open PySem PySem.Spec PyProof.Rows L2 GxR Gx Rp Dl Pd Tx Zq Zs Zm
section
variable {P : Program} {w : World} {K : PySem.W.Frag} {mg : Str → Option Value} {base : Heap} {T : List Addr}
/-- a keymap whose flags' tuple is known as an object -/
def MapZ (H : Hp) (v : V) : Prop := ∃ (m t : Addr) (rest : List V) (fl : List Str), v = .ref m ∧ H m = some (.tup (.ref t :: rest)) ∧ Fz H t fl
theorem fz_step {H : Hp} {es : List (Addr × List Str)} {t : Addr} {ot : Obj} {xs : List V} {fl : List Str} (hx : xs = fl.map V.str) (h : ∀ e ∈ es, Fz H e.1 e.2) (ht : H t = none) (hd : ot.dict = none) : (∀ e ∈ es ++ [(t, fl)], Fz (upd H t (.frz ot (.tup xs))) e.1 e.2) ∧ Ge H (upd H t (.frz ot (.tup xs))) := by
  refine ⟨fun e he => ?_, Ge.new ht⟩
  rcases List.mem_append.mp he with he | he
  · exact (h e he).ge (Ge.new ht)
  · rw [List.mem_singleton.mp he]
    exact ⟨ot, by rw [upd_same, hx], hd⟩
theorem Fz.ne {H : Hp} {t p : Addr} {fl : List Str} {xs : List V} (h : Fz H t fl) (hp : H p = some (.lst xs)) : t ≠ p := fun z => by
  obtain ⟨ot, h1, _⟩ := h
  rw [z, hp] at h1
  cases h1
theorem Fz.gp {H H' : Hp} {t p : Addr} {fl : List Str} {xs : List V} (h : Fz H t fl) (g : GeP p H H') (hp : H p = some (.lst xs)) : Fz H' t fl := by
  have n := h.ne hp
  obtain ⟨ot, h1, h2⟩ := h
  exact ⟨ot, g.1 t _ n h1 (fun ps z => by cases z), h2⟩
theorem nm_step {H : Hp} {p cc : Addr} {a : Nat} {es : List (Addr × List Str)} {t : Addr} {xs : List V} {ns : List Str} (hx : xs = ns.map V.str) (h : ∀ e ∈ es, e.1 ≠ p ∧ H e.1 = some (.lst (e.2.map V.str))) (ht : H t = none) (hp : PenAt H p cc a) : (∀ e ∈ es ++ [(t, ns)], e.1 ≠ p ∧ upd H t (.lst xs) e.1 = some (.lst (e.2.map V.str))) ∧ Ge H (upd H t (.lst xs)) ∧ PenAt (upd H t (.lst xs)) p cc a := by
  refine ⟨fun e he => ?_, Ge.new ht, hp.ge (Ge.new ht)⟩
  rcases List.mem_append.mp he with he | he
  · exact ⟨(h e he).1, (Ge.new ht).1 e.1 _ (h e he).2 (fun ps z => by cases z)⟩
  · rw [List.mem_singleton.mp he]
    exact ⟨(hp.fresh ht).1, by rw [upd_same, hx]⟩
/-- a keymap under way -/
structure StC (H0 H : Hp) (p cc : Addr) (a : Nat) (t o nl : Addr) (fl ol ns : List Str) : Prop where
  g : GeP p H0 H
  pen : PenAt H p cc a
  tp : t ≠ p
  fz : Fz H t fl
  hol : Rd H o (.tup (ol.map V.str))
  nm : nl ≠ p ∧ H nl = some (.lst (ns.map V.str))
  s1 : SubF fl
  s2 : ol.Sublist fl
  s3 : SubN ns
theorem StC.gp {H0 H H' : Hp} {p cc : Addr} {a b : Nat} {t o nl : Addr} {fl ol ns : List Str} (S : StC H0 H p cc a t o nl fl ol ns) (g : GeP p H H') (hp : PenAt H' p cc b) : StC H0 H' p cc b t o nl fl ol ns := by
  obtain ⟨xs, hx⟩ := S.pen.lst
  exact ⟨S.g.trans g, hp, S.tp, S.fz.gp g hx, g.rd hx (fun ps z => by cases z) (fun ys z => by cases z) S.hol, ⟨S.nm.1, g.1 nl _ S.nm.1 S.nm.2 (fun ps z => by cases z)⟩, S.s1, S.s2, S.s3⟩
theorem StC.ge {H0 H H' : Hp} {p cc : Addr} {a : Nat} {t o nl : Addr} {fl ol ns : List Str} (S : StC H0 H p cc a t o nl fl ol ns) (g : Ge H H') : StC H0 H' p cc a t o nl fl ol ns := S.gp (GeP.of g) (S.pen.ge g)
theorem StC.mono {H0 H : Hp} {p cc : Addr} {a b : Nat} {t o nl : Addr} {fl ol ns : List Str} (S : StC H0 H p cc a t o nl fl ol ns) (h : a ≤ b) : StC H0 H p cc b t o nl fl ol ns := ⟨S.g, S.pen.mono h, S.tp, S.fz, S.hol, S.nm, S.s1, S.s2, S.s3⟩
theorem StC.updL {H0 H : Hp} {p cc D : Addr} {a : Nat} {t o nl : Addr} {fl ol ns : List Str} {ys zs : List V} (S : StC H0 H p cc a t o nl fl ol ns) (hD : H D = some (.lst ys)) (h1 : D ≠ p) (h2 : D ≠ cc) (h3 : D ≠ nl) (h4 : Nw H0 D) : StC H0 (upd H D (.lst zs)) p cc a t o nl fl ol ns := by
  have g : GeP D H (upd H D (.lst zs)) := GeP.set hD
  exact ⟨S.g.upd h4, S.pen.upd h1 h2, S.tp, S.fz.gp g hD, g.rd hD (fun ps z => by cases z) (fun ys z => by cases z) S.hol, ⟨S.nm.1, by rw [upd_ne h3.symm]; exact S.nm.2⟩, S.s1, S.s2, S.s3⟩
theorem tp_step {H : Hp} {es : List (Addr × Int × Int)} {t : Addr} {x : Int × Int} (h : ∀ e ∈ es, H e.1 = some (.tup [.int e.2.1, .int e.2.2])) (ht : H t = none) : (∀ e ∈ es ++ [(t, x)], upd H t (.tup [.int x.1, .int x.2]) e.1 = some (.tup [.int e.2.1, .int e.2.2])) ∧ Ge H (upd H t (.tup [.int x.1, .int x.2])) := by
  refine ⟨fun e he => ?_, Ge.new ht⟩
  rcases List.mem_append.mp he with he | he
  · exact (Ge.new ht).1 e.1 _ (h e he) (fun ps z => by cases z)
  · rw [List.mem_singleton.mp he]
    exact upd_same
/-- the layers under way, the commands -/
def LyC (H0 H : Hp) (p cc nl cd Ly : Addr) (fl ns : List Str) (ks : List (Addr × List V)) : Prop := H Ly = some (.lst (ks.map fun e => V.ref e.1)) ∧ Ly ≠ p ∧ Ly ≠ cc ∧ Ly ≠ nl ∧ Nw H0 Ly ∧ (∀ e ∈ ks, H e.1 = some (.tup e.2) ∧ ∀ b ∈ e.2, Bnd H b fl ns) ∧ Cmd H cd ns fl
theorem LyC.gp {H0 H H' : Hp} {p cc nl cd Ly : Addr} {fl ns : List Str} {ks : List (Addr × List V)} {xs : List V} (h : LyC H0 H p cc nl cd Ly fl ns ks) (g : GeP p H H') (hp : H p = some (.lst xs)) : LyC H0 H' p cc nl cd Ly fl ns ks := by
  obtain ⟨h1, h2, h3, h4, h5, h6, h7⟩ := h
  exact ⟨g.1 Ly _ h2 h1 (fun ps z => by cases z), h2, h3, h4, h5, fun e he => ⟨g.1 e.1 _ (fun z => by have := (h6 e he).1; rw [z, hp] at this; cases this) (h6 e he).1 (fun ps z => by cases z), fun b hb => ((h6 e he).2 b hb).gp g hp⟩, h7.gp g hp⟩
theorem LyC.updL {H0 H : Hp} {p cc nl cd Ly D : Addr} {fl ns : List Str} {ks : List (Addr × List V)} {ys zs : List V} (h : LyC H0 H p cc nl cd Ly fl ns ks) (hD : H D = some (.lst ys)) (n : D ≠ Ly) : LyC H0 (upd H D (.lst zs)) p cc nl cd Ly fl ns ks := by
  have g : GeP D H (upd H D (.lst zs)) := GeP.set hD
  obtain ⟨h1, h2, h3, h4, h5, h6, h7⟩ := h
  exact ⟨by rw [upd_ne n.symm]; exact h1, h2, h3, h4, h5, fun e he => ⟨g.1 e.1 _ (fun z => by have := (h6 e he).1; rw [z, hD] at this; cases this) (h6 e he).1 (fun ps z => by cases z), fun b hb => ((h6 e he).2 b hb).gp g hD⟩, h7.gp g hD⟩
def spDMp : Sp := fun vs H Q _ => ∃ (p cc : Addr) (a : Nat) (most : Int), vs = [.ref p, .int most] ∧ 0 ≤ most ∧ most ≤ 16 ∧ PenAt H p cc a ∧ a + 2000 ≤ 100000 ∧ ∀ H' v, GeP p H H' → PenAt H' p cc (a + 2000) → MapZ H' v → MapH H' v → Q v H'
abbrev nDMp : List Str := ["_law_pen", "_law_most", "_law_flags", "_law_outside", "_law_names", "_law_commands", "_law_letters", "_law_layers", "_law_rest", "_law_count", "_law_broad", "_law_layer", "_law_some", "_law_again", "_law_condition", "_law_command", "_law_flag", "_law_name"]
theorem scDMp : FnScope nDMp ["_law_pen", "_law_most"] (defScope s_law_draw_map) := ⟨rfl, rfl, rfl, by decide +kernel, rfl, by decide +kernel, by decide +kernel⟩
theorem ok_law_draw_map {f c : Addr} {fd : FuncData} (F : FunC K "_law_draw_map" s_law_draw_map f fd c) (B : Bn mg) (hmin : mg "min" = none) (D1 : DfP P w K mg base 3 "_law_one_of" ["_law_pen", "_law_some"] spPick) (D2 : DfP P w K mg base 2 "_law_take" ["_law_pen", "_law_amount"] spTake) (D3 : DfP P w K mg base 3 "_law_draw_condition" ["_law_pen", "_law_flags"] (spDCo K)) (D4 : DfP P w K mg base 4 "_law_draw_keys" ["_law_pen", "_law_letters"] spKeys) : FnOk P w K mg base CX0 5 f fd ["_law_pen", "_law_most"] spDMp := by
  refine F.ok scDMp (fun vs H Q E ⟨_, _, _, _, h, _⟩ => by rw [h]; rfl) (fun A outer s H vs Q E hr h => ?_)
  obtain ⟨p, cc, a, most, rfl, hm0, hm1, hp, ha, q⟩ := h
  have hu := hu_of hr
  refine ⟨_, pss_cons (ps_asg (pcall D1 (hr.mono (by decide)) pass0 rfl (pa_cons (pv 0) (pa_cons (pe_lst (pa_cons (pe_tupF pa_nil) (pa_cons (pe_tupF (pa_cons pe_str pa_nil)) (pa_cons (pe_tupF (pa_cons pe_str pa_nil)) (pa_cons (pe_tupF (pa_cons pe_str (pa_cons pe_str pa_nil))) (pa_cons (pe_tupF (pa_cons pe_str (pa_cons pe_str pa_nil))) (pa_cons (pe_tupF (pa_cons pe_str (pa_cons pe_str (pa_cons pe_str pa_nil)))) (pa_cons (pe_tupF (pa_cons pe_str (pa_cons pe_str (pa_cons pe_str pa_nil)))) pa_nil)))))))) pa_nil))) (pg_name (i := 2) scDMp.nd rfl (Or.inr rfl)))
    (pss_cons (ps_asg (pe_callTy call_tuple_of rfl B.tuple bt_tuple (pa_cons (pe_lc (own := [("_law_flag", 16)]) (g := gName 16) rfl scDMp.nd (pi_tup (pv 2)) (blkOk_by (N := nDMp) (sc := defScope s_law_draw_map) (by decide +kernel)) (fun _ _ _ _ _ => (pg_name (i := 16) scDMp.nd rfl (Or.inl rfl))) (fun _ _ _ _ _ => pts_one (pt_cmpR op_eq (pcall D2 (hr.mono (by decide)) pass0 rfl (pa_cons (pv 0) (pa_cons pe_int pa_nil))) pe_int (nomark _))) (fun _ _ _ _ _ => (pv 16))) pa_nil)) (pg_name (i := 3) scDMp.nd rfl (Or.inl rfl)))
    (pss_cons (ps_asg (pcall D1 (hr.mono (by decide)) pass0 rfl (pa_cons (pv 0) (pa_cons (pe_lst (pa_cons (pe_lst (pa_cons pe_str pa_nil)) (pa_cons (pe_lst (pa_cons pe_str (pa_cons pe_str pa_nil))) (pa_cons (pe_lst (pa_cons pe_str (pa_cons pe_str (pa_cons pe_str pa_nil)))) (pa_cons (pe_lst (pa_cons pe_str (pa_cons pe_str (pa_cons pe_str pa_nil)))) (pa_cons (pe_callTy (call_list_tx rfl) rfl B.list bt_list (pa_cons pe_str pa_nil)) pa_nil)))))) pa_nil))) (pg_name (i := 4) scDMp.nd rfl (Or.inl rfl)))
    (pss_cons (ps_asg (pe_callTy (call_dictP rfl) rfl B.dict bt_dict (pa_cons (pe_lc (own := [("_law_name", 17)]) (g := gName 17) (tt := tYes) rfl scDMp.nd (pi_list (pv 4)) (blkOk_by (N := nDMp) (sc := defScope s_law_draw_map) (by decide +kernel)) (fun _ _ _ _ _ => (pg_name (i := 17) scDMp.nd rfl (Or.inl rfl))) (fun _ _ _ _ _ => pts_nil) (fun _ _ _ _ _ => (pe_tup (pa_cons (pv 17) (pa_cons (pcall D3 (hr.mono (by decide)) pass0 rfl (pa_cons (pv 0) (pa_cons (pv 2) pa_nil))) pa_nil))))) pa_nil)) (pg_name (i := 5) scDMp.nd rfl (Or.inl rfl)))
    (pss_cons (ps_par (i := 6) (j := 7) rfl scDMp.nd rfl rfl (by decide) rfl rfl (pa_cons (pcall D1 (hr.mono (by decide)) pass0 rfl (pa_cons (pv 0) (pa_cons (pe_lst (pa_cons pe_str (pa_cons pe_str (pa_cons pe_str (pa_cons pe_str (pa_cons pe_str pa_nil)))))) pa_nil))) (pa_cons (pe_lst pa_nil) pa_nil)) rfl)
    (pss_cons (ps_asg (pcall D2 (hr.mono (by decide)) pass0 rfl (pa_cons (pv 0) (pa_cons (pe_op op_add (pv 1) pe_int) pa_nil))) (pg_name (i := 8) scDMp.nd rfl (Or.inl rfl)))
    (pss_cons (ps_asg (pcall D1 (hr.mono (by decide)) pass0 rfl (pa_cons (pv 0) (pa_cons (pe_lst (pa_cons (pe_tup (pa_cons pe_int (pa_cons pe_int pa_nil))) (pa_cons (pe_tup (pa_cons pe_int (pa_cons pe_int pa_nil))) (pa_cons (pe_tup (pa_cons pe_int (pa_cons pe_int pa_nil))) (pa_cons (pe_tup (pa_cons pe_int (pa_cons pe_int pa_nil))) (pa_cons (pe_tup (pa_cons pe_int (pa_cons pe_int pa_nil))) pa_nil)))))) pa_nil))) (pg_tup rfl (pgs_cons (pg_name (i := 9) scDMp.nd rfl (Or.inl rfl)) (pgs_cons (pg_name (i := 10) scDMp.nd rfl (Or.inl rfl)) pgs_nil))))
    (pss_cons (ps_for PassesOwn.never rfl (pi_range1 rfl B.range (pa_cons (pv 9) pa_nil)) (pg_name (i := 11) scDMp.nd rfl (Or.inl rfl))
      (pss_cons (ps_asg (pe_lst pa_nil) (pg_name (i := 12) scDMp.nd rfl (Or.inl rfl)))
      (pss_cons (ps_for PassesOwn.never rfl (pi_range1 rfl B.range (pa_cons (pe_callB (call_min2 rfl) rfl hmin (by decide +kernel) (pa_cons (pv 8) (pa_cons (pe_op op_add pe_int (pcall D2 (hr.mono (by decide)) pass0 rfl (pa_cons (pv 0) (pa_cons (pv 10) pa_nil)))) pa_nil))) pa_nil)) (pg_name (i := 13) scDMp.nd rfl (Or.inl rfl))
        (pss_cons (ps_asg (pe_ifExp (pt_cmpR op_eq (pcall D2 (hr.mono (by decide)) pass0 rfl (pa_cons (pv 0) (pa_cons pe_int pa_nil))) pe_int (nomark _)) (pcall D3 (hr.mono (by decide)) pass0 rfl (pa_cons (pv 0) (pa_cons (pv 2) pa_nil))) pe_dnewK) (pg_name (i := 14) scDMp.nd rfl (Or.inl rfl)))
        (pss_cons (ps_asg (pe_ifExp (pt_cmpR op_gt (pcall D2 (hr.mono (by decide)) pass0 rfl (pa_cons (pv 0) (pa_cons pe_int pa_nil))) pe_int (nomark _)) (pcall D1 (hr.mono (by decide)) pass0 rfl (pa_cons (pv 0) (pa_cons (pv 4) pa_nil))) pe_non) (pg_name (i := 15) scDMp.nd rfl (Or.inl rfl)))
        (pss_one (ps_expr (pe_bm PySem.F.plainAttrs_list PySem.F.slot_list_append PySem.F.type_list_append mt_append (pv 12) (pa_cons (pe_tup (pa_cons (pcall D4 (hr.mono (by decide)) pass0 rfl (pa_cons (pv 0) (pa_cons (pv 6) pa_nil))) (pa_cons (pv 14) (pa_cons (pv 15) pa_nil)))) pa_nil)))))))
      (pss_cons (ps_asg (pe_op op_sub (pv 8) (pe_callB call_len_seq rfl B.len PySem.boot_len (pa_cons (pv 12) pa_nil))) (pg_name (i := 8) scDMp.nd rfl (Or.inl rfl)))
      (pss_one (ps_expr (pe_bm PySem.F.plainAttrs_list PySem.F.slot_list_append PySem.F.type_list_append mt_append (pv 7) (pa_cons (pe_callTy call_tuple_of rfl B.tuple bt_tuple (pa_cons (pv 12) pa_nil)) pa_nil))))))))
    (pss_one (ps_ret (pe_tup (pa_cons (pv 2) (pa_cons (pv 3) (pa_cons (pv 5) (pa_cons (pe_callTy call_tuple_of rfl B.tuple bt_tuple (pa_cons (pv 7) pa_nil)) (pa_cons (pcall D1 (hr.mono (by decide)) pass0 rfl (pa_cons (pv 0) (pa_cons (pe_lst (pa_cons pe_int (pa_cons pe_int (pa_cons pe_int (pa_cons pe_int (pa_cons pe_int pa_nil)))))) pa_nil))) pa_nil))))))))))))))), ?_⟩
  have f0 : ∀ e ∈ ([] : List (Addr × List Str)), Fz H e.1 e.2 := fun e he => by cases he
  refine ⟨_, rfl, (by decide : 0 ≤ sizeLine), fun t0 o0 h0 d0 => ?_⟩
  obtain ⟨f1, g1⟩ := fz_step (xs := []) (fl := []) rfl f0 h0 d0
  generalize upd H t0 (.frz o0 (.tup [])) = G1 at *
  refine ⟨(by decide : 1 ≤ sizeLine), fun t1 o1 h1 d1 => ?_⟩
  obtain ⟨f2, g2⟩ := fz_step (xs := [V.str "a"]) (fl := ["a"]) rfl f1 h1 d1
  generalize upd G1 t1 (.frz o1 (.tup [V.str "a"])) = G2 at *
  refine ⟨(by decide : 1 ≤ sizeLine), fun t2 o2 h2 d2 => ?_⟩
  obtain ⟨f3, g3⟩ := fz_step (xs := [V.str "ins"]) (fl := ["ins"]) rfl f2 h2 d2
  generalize upd G2 t2 (.frz o2 (.tup [V.str "ins"])) = G3 at *
  refine ⟨(by decide : 2 ≤ sizeLine), fun t3 o3 h3 d3 => ?_⟩
  obtain ⟨f4, g4⟩ := fz_step (xs := [V.str "a", V.str "ins"]) (fl := ["a", "ins"]) rfl f3 h3 d3
  generalize upd G3 t3 (.frz o3 (.tup [V.str "a", V.str "ins"])) = G4 at *
  refine ⟨(by decide : 2 ≤ sizeLine), fun t4 o4 h4 d4 => ?_⟩
  obtain ⟨f5, g5⟩ := fz_step (xs := [V.str "cap", V.str "vis"]) (fl := ["cap", "vis"]) rfl f4 h4 d4
  generalize upd G4 t4 (.frz o4 (.tup [V.str "cap", V.str "vis"])) = G5 at *
  refine ⟨(by decide : 3 ≤ sizeLine), fun t5 o5 h5 d5 => ?_⟩
  obtain ⟨f6, g6⟩ := fz_step (xs := [V.str "a", V.str "b", V.str "c"]) (fl := ["a", "b", "c"]) rfl f5 h5 d5
  generalize upd G5 t5 (.frz o5 (.tup [V.str "a", V.str "b", V.str "c"])) = G6 at *
  refine ⟨(by decide : 3 ≤ sizeLine), fun t6 o6 h6 d6 => ?_⟩
  obtain ⟨f7, g7⟩ := fz_step (xs := [V.str "in", V.str "nu", V.str "z"]) (fl := ["in", "nu", "z"]) rfl f6 h6 d6
  generalize upd G6 t6 (.frz o6 (.tup [V.str "in", V.str "nu", V.str "z"])) = G7 at *
  have g07 := g1.trans (g2.trans (g3.trans (g4.trans (g5.trans (g6.trans g7)))))
  refine ⟨(by decide : 7 ≤ sizeLine), fun l0 hl0 => ?_⟩
  have gl0 := Ge.new (o := .lst [.ref t0, .ref t1, .ref t2, .ref t3, .ref t4, .ref t5, .ref t6]) hl0
  have hl0' : upd G7 l0 (.lst [.ref t0, .ref t1, .ref t2, .ref t3, .ref t4, .ref t5, .ref t6]) l0 = some (.lst [.ref t0, .ref t1, .ref t2, .ref t3, .ref t4, .ref t5, .ref t6]) := upd_same
  have f8 : ∀ e ∈ (([] : List (Addr × List Str)) ++ [(t0, ([] : List Str))] ++ [(t1, (["a"] : List Str))] ++ [(t2, (["ins"] : List Str))] ++ [(t3, (["a", "ins"] : List Str))] ++ [(t4, (["cap", "vis"] : List Str))] ++ [(t5, (["a", "b", "c"] : List Str))] ++ [(t6, (["in", "nu", "z"] : List Str))]), Fz (upd G7 l0 (.lst [.ref t0, .ref t1, .ref t2, .ref t3, .ref t4, .ref t5, .ref t6])) e.1 e.2 := fun e he => (f7 e he).ge gl0
  have hp8 := (hp.ge g07).ge gl0
  have l0p := ((hp.ge g07).fresh hl0).1
  have g08 := g07.trans gl0
  generalize upd G7 l0 (.lst [.ref t0, .ref t1, .ref t2, .ref t3, .ref t4, .ref t5, .ref t6]) = G8 at *
  refine ⟨p, cc, _, a, fun v => ∃ t fl, v = .ref t ∧ SubF fl ∧ Fz G8 t fl, rfl, hp8, by omega, Or.inl ⟨l0, _, rfl, l0p, hl0', by show 0 < 7; decide, by show 7 ≤ 100000; decide, fun v hv => ?_⟩, fun H1 v gv hp1 ⟨t, fl, ev, sf, fz8⟩ => ?_⟩
  · obtain ⟨e, he, ee⟩ := List.mem_map.mp (show v ∈ (([] : List (Addr × List Str)) ++ [(t0, ([] : List Str))] ++ [(t1, (["a"] : List Str))] ++ [(t2, (["ins"] : List Str))] ++ [(t3, (["a", "ins"] : List Str))] ++ [(t4, (["cap", "vis"] : List Str))] ++ [(t5, (["a", "b", "c"] : List Str))] ++ [(t6, (["in", "nu", "z"] : List Str))]).map (fun e => V.ref e.1) from hv)
    exact ⟨e.1, e.2, ee.symm, ⟨(show (([] : List (Addr × List Str)) ++ [(t0, ([] : List Str))] ++ [(t1, (["a"] : List Str))] ++ [(t2, (["ins"] : List Str))] ++ [(t3, (["a", "ins"] : List Str))] ++ [(t4, (["cap", "vis"] : List Str))] ++ [(t5, (["a", "b", "c"] : List Str))] ++ [(t6, (["in", "nu", "z"] : List Str))]).map (·.2) = FLS from rfl) ▸ List.mem_map_of_mem he⟩, f8 e he⟩
  subst ev
  clear f0 f1 f2 f3 f4 f5 f6 f7 f8 g1 g2 g3 g4 g5 g6 g7 g07 gl0
  obtain ⟨p8, hp8x⟩ := hp8.lst
  have fz1 := fz8.gp gv hp8x
  have tp : t ≠ p := fz8.ne hp8x
  have gH1 : GeP p H H1 := (GeP.of g08).trans gv
  clear hl0' h0 h1 h2 h3 h4 h5 h6 hl0
  dsimp only [gName]
  -- the outside flags
  obtain ⟨ot, zt1, zt2⟩ := id fz1
  obtain ⟨p1, hp1x⟩ := hp1.lst
  have hT1 : Rd H1 t (.tup (fl.map V.str)) := Or.inr ⟨ot, zt1⟩
  have l3 := sf.length_le
  refine ⟨_, rfl, t, rfl, ⟨_, Or.inl hT1⟩, fun D2 hD2 => ?_⟩
  refine filt (xs := fl) (i := 16) (a := a + 1) (cc := cc) (p := p) (walk_list_tup fl) hD2 hp1 (by show 16 < 18; decide) (by omega) (fun H' g => Or.inl (g.rd hp1x (fun ps z => by cases z) (fun ys z => by cases z) hT1)) (fun x H' k hk g hp' R hR => ?_) (fun H2 ol hol g2 hp2 k2 => ?_)
  · exact ⟨_, rfl, p, cc, 3, a + 1 + k, rfl, hp', by omega, by decide, by decide, fun H4 r g4 hp4 _ _ => ⟨rfl, _, rfl, hR _ _ g4 hp4⟩⟩
  refine ⟨D2, _, rfl, Or.inl ⟨SqL.of k2, fun o ho => ?_⟩⟩
  have g2o := Ge.new (o := .tup (ol.map V.str)) ho
  have hp2o := (hp2.mono (show a + 1 + fl.length ≤ a + 4 by omega)).ge g2o
  have fz2 := (fz1.gp g2 hp1x).ge g2o
  have ho2 : Rd (upd H2 o (.tup (ol.map V.str))) o (.tup (ol.map V.str)) := Or.inl upd_same
  have gH2 : GeP p H (upd H2 o (.tup (ol.map V.str))) := (gH1.trans g2).trans (GeP.of g2o)
  generalize upd H2 o (.tup (ol.map V.str)) = H3 at *
  dsimp only [gName]
  have e0 : ∀ e ∈ ([] : List (Addr × List Str)), e.1 ≠ p ∧ H3 e.1 = some (.lst (e.2.map V.str)) := fun e he => by cases he
  refine ⟨_, rfl, (by decide : 1 ≤ sizeLine), fun n0 k0 => ?_⟩
  obtain ⟨e1, m1, y1⟩ := nm_step (xs := [V.str "go"]) (ns := ["go"]) (by rfl) e0 k0 hp2o
  generalize upd H3 n0 (.lst [V.str "go"]) = M1 at *
  refine ⟨(by decide : 2 ≤ sizeLine), fun n1 k1 => ?_⟩
  obtain ⟨e2, m2, y2⟩ := nm_step (xs := [V.str "a", V.str "b"]) (ns := ["a", "b"]) (by rfl) e1 k1 y1
  generalize upd M1 n1 (.lst [V.str "a", V.str "b"]) = M2 at *
  refine ⟨(by decide : 3 ≤ sizeLine), fun n2 k2 => ?_⟩
  obtain ⟨e3, m3, y3⟩ := nm_step (xs := [V.str "go", V.str "leave", V.str "x"]) (ns := ["go", "leave", "x"]) (by rfl) e2 k2 y2
  generalize upd M2 n2 (.lst [V.str "go", V.str "leave", V.str "x"]) = M3 at *
  refine ⟨(by decide : 3 ≤ sizeLine), fun n3 k3 => ?_⟩
  obtain ⟨e4, m4, y4⟩ := nm_step (xs := [V.str "a", V.str "copy", V.str "up"]) (ns := ["a", "copy", "up"]) (by rfl) e3 k3 y3
  generalize upd M3 n3 (.lst [V.str "a", V.str "copy", V.str "up"]) = M4 at *
  refine ⟨_, rfl, by decide, fun n4 k4 => ?_⟩
  obtain ⟨e5, m5, y5⟩ := nm_step (xs := (sgn "abcdefgh")) (ns := ["a", "b", "c", "d", "e", "f", "g", "h"]) (by decide +kernel) e4 k4 y4
  generalize upd M4 n4 (.lst (sgn "abcdefgh")) = M5 at *
  have gm := m1.trans (m2.trans (m3.trans (m4.trans m5)))
  refine ⟨(by decide : 5 ≤ sizeLine), fun l1 hl1 => ?_⟩
  have gl1 := Ge.new (o := .lst [.ref n0, .ref n1, .ref n2, .ref n3, .ref n4]) hl1
  have hl1' : upd M5 l1 (.lst [.ref n0, .ref n1, .ref n2, .ref n3, .ref n4]) l1 = some (.lst [.ref n0, .ref n1, .ref n2, .ref n3, .ref n4]) := upd_same
  have e8 : ∀ e ∈ (([] : List (Addr × List Str)) ++ [(n0, (["go"] : List Str))] ++ [(n1, (["a", "b"] : List Str))] ++ [(n2, (["go", "leave", "x"] : List Str))] ++ [(n3, (["a", "copy", "up"] : List Str))] ++ [(n4, (["a", "b", "c", "d", "e", "f", "g", "h"] : List Str))]), e.1 ≠ p ∧ upd M5 l1 (.lst [.ref n0, .ref n1, .ref n2, .ref n3, .ref n4]) e.1 = some (.lst (e.2.map V.str)) := fun e he => ⟨(e5 e he).1, gl1.1 e.1 _ (e5 e he).2 (fun ps z => by cases z)⟩
  have hp9 := y5.ge gl1
  have l1p := (y5.fresh hl1).1
  have gm8 := gm.trans gl1
  generalize upd M5 l1 (.lst [.ref n0, .ref n1, .ref n2, .ref n3, .ref n4]) = M8 at *
  refine ⟨p, cc, _, a + 4, fun v => ∃ nl ns, v = .ref nl ∧ SubN ns ∧ nl ≠ p ∧ M8 nl = some (.lst (ns.map V.str)), rfl, hp9, by omega, Or.inl ⟨l1, _, rfl, l1p, hl1', by show 0 < 5; decide, by show 5 ≤ 100000; decide, fun v hv => ?_⟩, fun H4 v gv4 hp4 ⟨nl, ns, ev, sn, nlp, nl8⟩ => ?_⟩
  · obtain ⟨e, he, ee⟩ := List.mem_map.mp (show v ∈ (([] : List (Addr × List Str)) ++ [(n0, (["go"] : List Str))] ++ [(n1, (["a", "b"] : List Str))] ++ [(n2, (["go", "leave", "x"] : List Str))] ++ [(n3, (["a", "copy", "up"] : List Str))] ++ [(n4, (["a", "b", "c", "d", "e", "f", "g", "h"] : List Str))]).map (fun e => V.ref e.1) from hv)
    exact ⟨e.1, e.2, ee.symm, ⟨(show (([] : List (Addr × List Str)) ++ [(n0, (["go"] : List Str))] ++ [(n1, (["a", "b"] : List Str))] ++ [(n2, (["go", "leave", "x"] : List Str))] ++ [(n3, (["a", "copy", "up"] : List Str))] ++ [(n4, (["a", "b", "c", "d", "e", "f", "g", "h"] : List Str))]).map (·.2) = NMS from rfl) ▸ List.mem_map_of_mem he⟩, e8 e he⟩
  subst ev
  clear e0 e1 e2 e3 e4 e5 e8 m1 m2 m3 m4 m5 gm gl1 hl1' k0 k1 k2 k3 k4
  obtain ⟨p3, hp3x⟩ := hp2o.lst
  obtain ⟨p9, hp9x⟩ := hp9.lst
  have S : StC H H4 p cc (a + 5) t o nl fl ol ns := ⟨gH2.trans ((GeP.of gm8).trans gv4), hp4, tp, (fz2.ge gm8).gp gv4 hp9x, gv4.rd hp9x (fun ps z => by cases z) (fun ys z => by cases z) (gm8.rd (fun ps z => by cases z) ho2), ⟨nlp, gv4.1 nl _ nlp nl8 (fun ps z => by cases z)⟩, sf, hol, sn⟩
  clear gm8 gv4 fz2 ho2 gH2 fz1 gH1 hp4 hp9 nl8
  dsimp only [gName]
  -- the commands
  refine ⟨_, rfl, nl, rfl, ⟨_, SqL.of S.nm.2⟩, fun D5 hD5 => ?_⟩
  have n8 : ns.length ≤ 8 := sn.length_le
  have nnd : ns.Nodup := sn.nodup
  have fD := S.pen.fresh hD5
  have nlD : D5 ≠ nl := fun z => by rw [z, S.nm.2] at hD5; cases hD5
  have nwD := S.g.nw hD5 fD.1
  refine lc_list (xs := ns.map V.str) (fun k H' => k ≤ ns.length ∧ StC H H' p cc (a + 5 + 6 * k) t o nl fl ol ns ∧ ∃ es : List (Addr × Str × V), H' D5 = some (.lst ((es.map (·.1)).map V.ref)) ∧ es.map (·.2.1) = ns.take k ∧ ∀ e ∈ es, H' e.1 = some (.tup [.str e.2.1, e.2.2]) ∧ Eff H' e.2.2 fl)
    ⟨Nat.zero_le _, S.ge (Ge.new hD5), [], upd_same, rfl, fun e he => (by cases he)⟩ (fun k H' _ z => SqL.of z.2.1.nm.2) ?_ ?_
  · rintro k x H5 hx ⟨hk, S5, es, k1, k2, k3⟩
    rw [List.getElem?_map] at hx
    cases ez : ns[k]? with
    | none => rw [ez] at hx; cases hx
    | some y =>
      rw [ez] at hx
      cases hx
      have hk' : k < ns.length := (List.getElem?_eq_some_iff.mp ez).1
      obtain ⟨ot5, zt5, _⟩ := id S5.fz
      refine ⟨rfl, _, rfl, _, rfl, _, rfl, p, cc, t, a + 5 + 6 * k, fl, rfl, S5.pen, by omega, Or.inr ⟨ot5, zt5⟩, sf.nodup, l3, fun H6 v g6 hp6 ef => ⟨(by decide : 2 ≤ sizeLine), fun b hb => ?_⟩⟩
      obtain ⟨zs, hzs⟩ := S5.pen.lst
      have k6 := g6.1 D5 _ fD.1 k1 (fun ps z => by cases z)
      have gb := Ge.new (o := .tup [.str y, v]) hb
      have k7 := gb.1 _ _ k6 (fun ps z => by cases z)
      have S6 := (S5.gp g6 hp6).ge gb
      have gD : GeP D5 (upd H6 b (.tup [.str y, v])) (upd (upd H6 b (.tup [.str y, v])) D5 (.lst ((es.map (·.1)).map V.ref ++ [.ref b]))) := GeP.set k7
      have el : es.length ≤ 8 := by
        have := congrArg List.length k2
        rw [List.length_map, List.length_take] at this
        omega
      refine ⟨_, k7, ?_, hk', ?_, es ++ [(b, y, v)], ?_, ?_, ?_⟩
      · rw [List.length_map, List.length_map]
        exact Nat.lt_of_le_of_lt el (by decide)
      · exact (S6.updL k7 fD.1 fD.2 nlD nwD).mono (by omega)
      · rw [upd_same, List.map_append, List.map_append]
        rfl
      · rw [List.map_append, k2, List.take_succ, ez]
        rfl
      · intro e he
        rcases List.mem_append.mp he with he | he
        · obtain ⟨q1, q2⟩ := k3 e he
          have q1' := gb.1 _ _ (g6.1 e.1 _ (fun z => by rw [z, hzs] at q1; cases q1) q1 (fun ps z => by cases z)) (fun ps z => by cases z)
          exact ⟨gD.1 e.1 _ (fun z => by rw [z, k7] at q1'; cases q1') q1' (fun ps z => by cases z), ((q2.gp g6 hzs).ge gb).gp gD k7⟩
        · rw [List.mem_singleton.mp he]
          have q1' : upd H6 b (.tup [.str y, v]) b = some (.tup [.str y, v]) := upd_same
          exact ⟨gD.1 b _ (ne_of_none k6 hb).symm q1' (fun ps z => by cases z), (ef.ge gb).gp gD k7⟩
  rintro H5 ⟨hk, S5, es, k1, k2, k3⟩
  rw [List.length_map] at S5 k2
  rw [List.take_length] at k2
  refine ⟨D5, es.map (·.1), es.map fun e => (.inr e.2.1, e.2.2), rfl, SqL.of k1, paired_of es (fun e he => Or.inl (Or.inl (k3 e he).1)), fun cd hcd => ?_⟩
  have ek : (es.map fun e : Addr × Str × V => ((.inr e.2.1 : Key), e.2.2)).map (·.1) = ns.map Sum.inr := by
    rw [← k2, List.map_map, List.map_map]
    rfl
  have ndk : ((es.map fun e : Addr × Str × V => ((.inr e.2.1 : Key), e.2.2)).map (·.1)).Nodup := by
    rw [ek]
    exact List.pairwise_map.mpr (nnd.imp fun h z => h (Sum.inr.inj z))
  rw [mergeK_app (acc := []) ndk, List.nil_append]
  have C7 : Cmd (upd H5 cd (.dK (es.map fun e => (.inr e.2.1, e.2.2)))) cd ns fl := by
    refine ⟨_, upd_same, ndk, fun kv hkv => ?_, fun n hn => ?_, ?_⟩
    · obtain ⟨e, he, rfl⟩ := List.mem_map.mp hkv
      refine ⟨e.2.1, e.2.2, rfl, ?_, (k3 e he).2.ge (Ge.new hcd)⟩
      rw [← k2]
      exact List.mem_map.mpr ⟨e, he, rfl⟩
    · have hm := hn
      rw [← k2] at hm
      obtain ⟨e, he, rfl⟩ := List.mem_map.mp hm
      exact ⟨e.2.2, List.mem_map.mpr ⟨e, he, rfl⟩⟩
    · have := congrArg List.length k2
      rw [List.length_map] at this ⊢
      omega
  have S7 := (S5.ge (Ge.new (o := .dK (es.map fun e => (.inr e.2.1, e.2.2))) hcd)).mono (show a + 5 + 6 * ns.length ≤ a + 53 by omega)
  generalize upd H5 cd (.dK (es.map fun e => (.inr e.2.1, e.2.2))) = H7 at C7 S7 ⊢
  clear ndk ek hcd k1 k2 k3 S5 S
  dsimp only [gName]
  -- the letters, the layers
  refine ⟨_, rfl, (by decide : 5 ≤ sizeLine), fun l8 h8 => ⟨p, cc, _, a + 53, fun v => ∃ z : Str, v = .str z ∧ LetS z, rfl, S7.pen.ge (Ge.new h8), by omega, Or.inl ⟨l8, _, rfl, (S7.pen.fresh h8).1, upd_same, by decide, by decide, fun v hv => ?_⟩, fun H8 v g8 hp8 hv => ?_⟩⟩
  · have hv' : v ∈ (["a", "ab", "jk", "abz", "gjkx"] : List Str).map V.str := hv
    obtain ⟨z, hz, rfl⟩ := List.mem_map.mp hv'
    have all : ∀ z ∈ (["a", "ab", "jk", "abz", "gjkx"] : List Str), LetS z := by unfold LetS; decide +kernel
    exact ⟨z, rfl, all z hz⟩
  obtain ⟨lt, rfl, hlt⟩ := hv
  obtain ⟨p7, hp7x⟩ := S7.pen.lst
  have hp7y := (Ge.new (o := .lst [.str "a", .str "ab", .str "jk", .str "abz", .str "gjkx"]) h8).1 p _ hp7x (fun ps z => by cases z)
  have C8 := (C7.gp (GeP.of (p := p) (Ge.new h8)) hp7x).gp g8 hp7y
  have S8 := (S7.ge (Ge.new h8)).gp g8 hp8
  generalize upd H7 l8 (.lst [.str "a", .str "ab", .str "jk", .str "abz", .str "gjkx"]) = H7y at *
  refine ⟨(by decide : 0 ≤ sizeLine), fun Ly hLy => ⟨_, _, rfl, ?_⟩⟩
  have gLy := Ge.new (o := .lst []) hLy
  have S9 := S8.ge gLy
  have Y9 : LyC H (upd H8 Ly (.lst [])) p cc nl cd Ly fl ns [] := by
    have f := S8.pen.fresh hLy
    obtain ⟨p8, hp8x⟩ := S8.pen.lst
    exact ⟨upd_same, f.1, f.2, (fun z => by rw [z, S8.nm.2] at hLy; cases hLy), S8.g.nw hLy f.1, (fun e he => by cases he), C8.gp (GeP.of (p := p) gLy) hp8x⟩
  generalize upd H8 Ly (.lst []) = H9 at *
  refine ⟨_, rfl, _, rfl, most, 1, rfl, rfl, p, cc, most + 1, a + 54, rfl, S9.pen, by omega, by omega, by omega, fun H10 rest g10 hp10 r0 r1 => ?_⟩
  have Y10 := Y9.gp g10 S9.pen.lst.choose_spec
  have S10 := S9.gp g10 hp10
  have rle : rest ≤ 16 := by omega
  dsimp only [gName]
  have ft0 : ∀ e ∈ ([] : List (Addr × Int × Int)), H10 e.1 = some (.tup [.int e.2.1, .int e.2.2]) := fun e he => by cases he
  refine ⟨_, rfl, (by decide : 2 ≤ sizeLine), fun b0 hb0 => ?_⟩
  obtain ⟨ft1, gt1⟩ := tp_step (x := (1, 6)) ft0 hb0
  generalize upd H10 b0 (.tup [.int 1, .int 6]) = N1 at *
  refine ⟨(by decide : 2 ≤ sizeLine), fun b1 hb1 => ?_⟩
  obtain ⟨ft2, gt2⟩ := tp_step (x := (2, 6)) ft1 hb1
  generalize upd N1 b1 (.tup [.int 2, .int 6]) = N2 at *
  refine ⟨(by decide : 2 ≤ sizeLine), fun b2 hb2 => ?_⟩
  obtain ⟨ft3, gt3⟩ := tp_step (x := (3, 6)) ft2 hb2
  generalize upd N2 b2 (.tup [.int 3, .int 6]) = N3 at *
  refine ⟨(by decide : 2 ≤ sizeLine), fun b3 hb3 => ?_⟩
  obtain ⟨ft4, gt4⟩ := tp_step (x := (4, 6)) ft3 hb3
  generalize upd N3 b3 (.tup [.int 4, .int 6]) = N4 at *
  refine ⟨(by decide : 2 ≤ sizeLine), fun b4 hb4 => ?_⟩
  obtain ⟨ft5, gt5⟩ := tp_step (x := (1, 16)) ft4 hb4
  generalize upd N4 b4 (.tup [.int 1, .int 16]) = N5 at *
  have gT := gt1.trans (gt2.trans (gt3.trans (gt4.trans gt5)))
  refine ⟨(by decide : 5 ≤ sizeLine), fun l2 hl2 => ?_⟩
  have gl2 := Ge.new (o := .lst [.ref b0, .ref b1, .ref b2, .ref b3, .ref b4]) hl2
  have hl2' : upd N5 l2 (.lst [.ref b0, .ref b1, .ref b2, .ref b3, .ref b4]) l2 = some (.lst [.ref b0, .ref b1, .ref b2, .ref b3, .ref b4]) := upd_same
  have ft8 : ∀ e ∈ (([] : List (Addr × Int × Int)) ++ [(b0, ((1, 6) : Int × Int))] ++ [(b1, ((2, 6) : Int × Int))] ++ [(b2, ((3, 6) : Int × Int))] ++ [(b3, ((4, 6) : Int × Int))] ++ [(b4, ((1, 16) : Int × Int))]), upd N5 l2 (.lst [.ref b0, .ref b1, .ref b2, .ref b3, .ref b4]) e.1 = some (.tup [.int e.2.1, .int e.2.2]) := fun e he => gl2.1 e.1 _ (ft5 e he) (fun ps z => by cases z)
  have S11 := S10.ge (gT.trans gl2)
  have Y11 := Y10.gp (GeP.of (p := p) (gT.trans gl2)) S10.pen.lst.choose_spec
  have l2p := ((S10.ge gT).pen.fresh hl2).1
  generalize upd N5 l2 (.lst [.ref b0, .ref b1, .ref b2, .ref b3, .ref b4]) = N8 at *
  refine ⟨p, cc, _, a + 55, fun v => ∃ b n w, v = .ref b ∧ 1 ≤ n ∧ n ≤ 4 ∧ 1 ≤ w ∧ w ≤ 16 ∧ N8 b = some (.tup [.int n, .int w]), rfl, S11.pen.mono (by omega), by omega, Or.inl ⟨l2, _, rfl, l2p, hl2', by show 0 < 5; decide, by show 5 ≤ 100000; decide, fun v hv => ?_⟩, fun H11 v g11 hp11 ⟨bb, cn, br, ev, c1, c4, w1, w16, bb8⟩ => ?_⟩
  · obtain ⟨e, he, ee⟩ := List.mem_map.mp (show v ∈ (([] : List (Addr × Int × Int)) ++ [(b0, ((1, 6) : Int × Int))] ++ [(b1, ((2, 6) : Int × Int))] ++ [(b2, ((3, 6) : Int × Int))] ++ [(b3, ((4, 6) : Int × Int))] ++ [(b4, ((1, 16) : Int × Int))]).map (fun e => V.ref e.1) from hv)
    have hr : e.2 ∈ ([(1, 6), (2, 6), (3, 6), (4, 6), (1, 16)] : List (Int × Int)) := (show (([] : List (Addr × Int × Int)) ++ [(b0, ((1, 6) : Int × Int))] ++ [(b1, ((2, 6) : Int × Int))] ++ [(b2, ((3, 6) : Int × Int))] ++ [(b3, ((4, 6) : Int × Int))] ++ [(b4, ((1, 16) : Int × Int))]).map (·.2) = [(1, 6), (2, 6), (3, 6), (4, 6), (1, 16)] from rfl) ▸ List.mem_map_of_mem he
    have hb := (by decide +kernel : ∀ q ∈ ([(1, 6), (2, 6), (3, 6), (4, 6), (1, 16)] : List (Int × Int)), 1 ≤ q.1 ∧ q.1 ≤ 4 ∧ 1 ≤ q.2 ∧ q.2 ≤ 16) e.2 hr
    exact ⟨e.1, e.2.1, e.2.2, ee.symm, hb.1, hb.2.1, hb.2.2.1, hb.2.2.2, ft8 e he⟩
  subst ev
  obtain ⟨p11, hp11x⟩ := S11.pen.lst
  have bbp : bb ≠ p := fun z => by rw [z, hp11x] at bb8; cases bb8
  have bb11 := g11.1 bb _ bbp bb8 (fun ps z => by cases z)
  have Y12 := Y11.gp g11 hp11x
  have S12 := S11.gp g11 hp11
  clear ft0 ft1 ft2 ft3 ft4 ft5 ft8 gt1 gt2 gt3 gt4 gt5 gT gl2 hl2' Y9 Y10 Y11 S9 S10 S11 S8 C8 S7 C7
  refine ⟨bb, _, rfl, SqT.of bb11, rfl, _, _, rfl, _, _, rfl, rfl, ?_⟩
  dsimp only [gName]
  have nsp : 0 < ns.length := (by decide +kernel : ∀ ns ∈ NMS, 0 < ns.length) ns sn.1
  refine ⟨_, rfl, cn, rfl, by omega, by omega, ?_⟩
  refine for_range (lo := 0) (n := cn.toNat) (fun i σ H' => i ≤ cn.toNat ∧ ∃ (ks : List (Addr × List V)) (R : Int), StC H H' p cc (a + 56 + 230 * i) t o nl fl ol ns ∧ LyC H H' p cc nl cd Ly fl ns ks ∧ ks.length = i ∧ 0 ≤ R ∧ ((cnt ks : Nat) : Int) + R ≤ 16 ∧ ∃ x11 x12 x13 x14 x15, σ = [some (.ref p), some (.int most), some (.ref t), some (.ref o), some (.ref nl), some (.ref cd), some (.str lt), some (.ref Ly), some (.int R), some (.int cn), some (.int br), x11, x12, x13, x14, x15, none, none])
    ⟨Nat.zero_le _, [], rest, S12, Y12, rfl, r0, by show ((0 : Nat) : Int) + rest ≤ 16; omega, _, _, _, _, _, rfl⟩ ?_ ?_
  · rintro i σ H7 hi ⟨_, ks, R, S, Y, kl, R0, RC, x11, x12, x13, x14, x15, rfl⟩
    have i4 : i < 4 := by omega
    refine ⟨(by decide : 0 ≤ sizeLine), fun D hD => ?_⟩
    have fD := S.pen.fresh hD
    have nlD : D ≠ nl := fun z => by rw [z, S.nm.2] at hD; cases hD
    have DLy : D ≠ Ly := fun z => by rw [z, Y.1] at hD; cases hD
    have nwD := S.g.nw hD fD.1
    have gD0 := Ge.new (o := .lst []) hD
    have S1 := S.ge gD0
    have Y1 := Y.gp (GeP.of (p := p) gD0) S.pen.lst.choose_spec
    have hD1 : upd H7 D (.lst []) D = some (.lst []) := upd_same
    generalize upd H7 D (.lst []) = H8 at *
    refine ⟨_, rfl, _, rfl, _, rfl, p, cc, br, a + 56 + 230 * i, rfl, S1.pen, by omega, by omega, by omega, fun H2 r g2 hp2 q0 q1 => ⟨1, r, rfl, rfl, R, 1 + r, rfl, ?_⟩⟩
    have S2 := S1.gp g2 hp2
    have Y2 := Y1.gp g2 S1.pen.lst.choose_spec
    have hD2 := g2.1 D _ fD.1 hD1 (fun ps z => by cases z)
    obtain ⟨mn, emn, mn0, mnR⟩ : ∃ mn : Int, (if 1 + r < R then 1 + r else R) = mn ∧ 0 ≤ mn ∧ mn ≤ R := by
      by_cases z : 1 + r < R
      · exact ⟨1 + r, by rw [if_pos z], by omega, by omega⟩
      · exact ⟨R, by rw [if_neg z], by omega, by omega⟩
    rw [emn]
    refine ⟨mn, rfl, by omega, by omega, ?_⟩
    refine for_range (lo := 0) (n := mn.toNat) (fun j σ H' => j ≤ mn.toNat ∧ ∃ bs : List V, StC H H' p cc (a + 56 + 230 * i + 1 + 14 * j) t o nl fl ol ns ∧ LyC H H' p cc nl cd Ly fl ns ks ∧ H' D = some (.lst bs) ∧ bs.length = j ∧ (∀ b ∈ bs, Bnd H' b fl ns) ∧ ∃ x13 x14 x15, σ = [some (.ref p), some (.int most), some (.ref t), some (.ref o), some (.ref nl), some (.ref cd), some (.str lt), some (.ref Ly), some (.int R), some (.int cn), some (.int br), some (.int (0 + (i : Int))), some (.ref D), x13, x14, x15, none, none])
      ⟨Nat.zero_le _, [], S2, Y2, hD2, rfl, fun b hb => (by cases hb), _, _, _, rfl⟩ ?_ ?_
    · rintro j σ H9 hj ⟨_, bs, S3, Y3, hD3, bl, bo3, x13, x14, x15, rfl⟩
      have mn16 : mn ≤ 16 := by omega
      obtain ⟨p3', hp3'⟩ := S3.pen.lst
      refine ⟨_, rfl, p, cc, 2, a + 56 + 230 * i + 1 + 14 * j, rfl, S3.pen, by omega, by decide, by decide, fun H3' r3 g3 hp3 _ _ => ⟨rfl, _, rfl, ?_⟩⟩
      have S3' := S3.gp g3 hp3
      have Y3' := Y3.gp g3 hp3'
      have hD3' := g3.1 D _ fD.1 hD3 (fun ps z => by cases z)
      have bo3' : ∀ w ∈ bs, Bnd H3' w fl ns := fun w hw => (bo3 w hw).gp g3 hp3'
      obtain ⟨p3x, hp3x'⟩ := S3'.pen.lst
      refine ite2 (fun _ => ?_) fun _ => ?_
      · obtain ⟨ot5, zt5, _⟩ := id S3'.fz
        refine ⟨_, rfl, _, rfl, p, cc, t, a + 56 + 230 * i + 1 + 14 * j + 1, fl, rfl, S3'.pen, by omega, Or.inr ⟨ot5, zt5⟩, sf.nodup, l3, fun H4 v g4 hp4 ef4 => ?_⟩
        have S4 := S3'.gp g4 hp4
        have Y4 := Y3'.gp g4 hp3x'
        have hD4 := g4.1 D _ fD.1 hD3' (fun ps z => by cases z)
        have bo4 : ∀ w ∈ bs, Bnd H4 w fl ns := fun w hw => (bo3' w hw).gp g4 hp3x'
        refine ⟨_, rfl, p, cc, 5, a + 56 + 230 * i + 1 + 14 * j + 7, rfl, S4.pen.mono (by omega), by omega, by decide, by decide, fun H5 r5 g5 hp5 _ _ => ⟨_, _, rfl, rfl, _, rfl, ?_⟩⟩
        obtain ⟨p4, hp4x⟩ := S4.pen.lst
        have S5 := S4.gp g5 hp5
        have Y5 := Y4.gp g5 hp4x
        have hD5 := g5.1 D _ fD.1 hD4 (fun ps z => by cases z)
        have bo5 : ∀ w ∈ bs, Bnd H5 w fl ns := fun w hw => (bo4 w hw).gp g5 hp4x
        have ef5 := ef4.gp g5 hp4x
        obtain ⟨p5, hp5x⟩ := S5.pen.lst
        refine ite2 (fun _ => ?_) fun _ => ?_
        · refine ⟨_, rfl, _, rfl, p, cc, _, a + 56 + 230 * i + 1 + 14 * j + 8, fun v => ∃ n ∈ ns, v = .str n, rfl, S5.pen.mono (by omega), by omega, Or.inl ⟨nl, _, rfl, S5.nm.1, S5.nm.2, by rw [List.length_map]; exact nsp, by rw [List.length_map]; omega, fun v hv => ?_⟩, fun H6 m g6 hp6 ⟨n, hn, em⟩ => ?_⟩
          · obtain ⟨n, hn, en⟩ := List.mem_map.mp hv
            exact ⟨n, hn, en.symm⟩
          subst em
          have hD6 := g6.1 D _ fD.1 hD5 (fun ps z => by cases z)
          have bo6 : ∀ w ∈ bs, Bnd H6 w fl ns := fun w hw => (bo5 w hw).gp g6 hp5x
          have ef6 := ef5.gp g6 hp5x
          have S6 := (S5.gp g6 hp6)
          have Y6 := (Y5.gp g6 hp5x)
          refine ⟨_, rfl, .inl ⟨rfl, _, SqL.of hD6⟩, _, rfl, _, rfl, p, cc, a + 56 + 230 * i + 1 + 14 * j + 9, lt, rfl, S6.pen.mono (by omega), by omega, hlt, fun H7' x g7 hp7 x1 x4 xl => ⟨_, rfl, _, rfl, (by decide : 3 ≤ sizeLine), fun b hb => ?_⟩⟩
          obtain ⟨pz, hpz⟩ := S6.pen.lst
          have gb := Ge.new (o := .tup [.str x, v, .str n]) hb
          have hD8 := gb.1 D _ (g7.1 D _ fD.1 hD6 (fun ps z => by cases z)) (fun ps z => by cases z)
          have S8 := (S6.gp g7 hp7).ge gb
          obtain ⟨py, hpy⟩ := (S6.gp g7 hp7).pen.lst
          have Y8 := (Y6.gp g7 hpz).gp (GeP.of (p := p) gb) hpy
          have bn : Bnd (upd H7' b (.tup [.str x, v, .str n])) (.ref b) fl ns := ⟨b, x, v, .str n, rfl, upd_same, x1, x4, xl, (ef6.gp g7 hpz).ge gb, Or.inr ⟨n, hn, rfl⟩⟩
          have bo8 : ∀ w ∈ bs, Bnd (upd H7' b (.tup [.str x, v, .str n])) w fl ns := fun w hw => ((bo6 w hw).gp g7 hpz).ge gb
          generalize upd H7' b (.tup [.str x, v, .str n]) = H8' at *
          have gD : GeP D H8' (upd H8' D (.lst (bs ++ [.ref b]))) := GeP.set hD8
          refine ⟨D, bs, .ref b, rfl, rfl, hD8, Nat.lt_of_le_of_lt (show bs.length ≤ 16 by omega) (by decide), hj, bs ++ [.ref b], (S8.updL hD8 fD.1 fD.2 nlD nwD).mono (by omega), Y8.updL hD8 DLy, upd_same, by rw [List.length_append, bl]; rfl, fun w hw => ?_, _, _, _, rfl⟩
          rcases List.mem_append.mp hw with hw | hw
          · exact (bo8 w hw).gp gD hD8
          · rw [List.mem_singleton.mp hw]
            exact bn.gp gD hD8
        · have hD6 := hD5
          have bo6 := bo5
          have ef6 := ef5
          have S6 := S5
          have Y6 := Y5
          refine ⟨_, rfl, .inl ⟨rfl, _, SqL.of hD6⟩, _, rfl, _, rfl, p, cc, a + 56 + 230 * i + 1 + 14 * j + 9, lt, rfl, S6.pen.mono (by omega), by omega, hlt, fun H7' x g7 hp7 x1 x4 xl => ⟨_, rfl, _, rfl, (by decide : 3 ≤ sizeLine), fun b hb => ?_⟩⟩
          obtain ⟨pz, hpz⟩ := S6.pen.lst
          have gb := Ge.new (o := .tup [.str x, v, .non]) hb
          have hD8 := gb.1 D _ (g7.1 D _ fD.1 hD6 (fun ps z => by cases z)) (fun ps z => by cases z)
          have S8 := (S6.gp g7 hp7).ge gb
          obtain ⟨py, hpy⟩ := (S6.gp g7 hp7).pen.lst
          have Y8 := (Y6.gp g7 hpz).gp (GeP.of (p := p) gb) hpy
          have bn : Bnd (upd H7' b (.tup [.str x, v, .non])) (.ref b) fl ns := ⟨b, x, v, .non, rfl, upd_same, x1, x4, xl, (ef6.gp g7 hpz).ge gb, Or.inl rfl⟩
          have bo8 : ∀ w ∈ bs, Bnd (upd H7' b (.tup [.str x, v, .non])) w fl ns := fun w hw => ((bo6 w hw).gp g7 hpz).ge gb
          generalize upd H7' b (.tup [.str x, v, .non]) = H8' at *
          have gD : GeP D H8' (upd H8' D (.lst (bs ++ [.ref b]))) := GeP.set hD8
          refine ⟨D, bs, .ref b, rfl, rfl, hD8, Nat.lt_of_le_of_lt (show bs.length ≤ 16 by omega) (by decide), hj, bs ++ [.ref b], (S8.updL hD8 fD.1 fD.2 nlD nwD).mono (by omega), Y8.updL hD8 DLy, upd_same, by rw [List.length_append, bl]; rfl, fun w hw => ?_, _, _, _, rfl⟩
          rcases List.mem_append.mp hw with hw | hw
          · exact (bo8 w hw).gp gD hD8
          · rw [List.mem_singleton.mp hw]
            exact bn.gp gD hD8
      · intro d hd
        have gd := Ge.new (o := .dK []) hd
        have S4 := (S3'.ge gd).mono (show _ ≤ a + 56 + 230 * i + 1 + 14 * j + 7 by omega)
        have Y4 := Y3'.gp (GeP.of (p := p) gd) hp3x'
        have hD4 := gd.1 D _ hD3' (fun ps z => by cases z)
        have bo4 : ∀ w ∈ bs, Bnd (upd H3' d (.dK [])) w fl ns := fun w hw => (bo3' w hw).ge gd
        have ef4 : Eff (upd H3' d (.dK [])) (.ref d) fl := ⟨d, [], rfl, upd_same, List.nodup_nil, fun kv hkv => (by cases hkv), Nat.zero_le _⟩
        generalize upd H3' d (.dK []) = H4 at *
        refine ⟨_, rfl, p, cc, 5, a + 56 + 230 * i + 1 + 14 * j + 7, rfl, S4.pen.mono (by omega), by omega, by decide, by decide, fun H5 r5 g5 hp5 _ _ => ⟨_, _, rfl, rfl, _, rfl, ?_⟩⟩
        obtain ⟨p4, hp4x⟩ := S4.pen.lst
        have S5 := S4.gp g5 hp5
        have Y5 := Y4.gp g5 hp4x
        have hD5 := g5.1 D _ fD.1 hD4 (fun ps z => by cases z)
        have bo5 : ∀ w ∈ bs, Bnd H5 w fl ns := fun w hw => (bo4 w hw).gp g5 hp4x
        have ef5 := ef4.gp g5 hp4x
        obtain ⟨p5, hp5x⟩ := S5.pen.lst
        refine ite2 (fun _ => ?_) fun _ => ?_
        · refine ⟨_, rfl, _, rfl, p, cc, _, a + 56 + 230 * i + 1 + 14 * j + 8, fun v => ∃ n ∈ ns, v = .str n, rfl, S5.pen.mono (by omega), by omega, Or.inl ⟨nl, _, rfl, S5.nm.1, S5.nm.2, by rw [List.length_map]; exact nsp, by rw [List.length_map]; omega, fun v hv => ?_⟩, fun H6 m g6 hp6 ⟨n, hn, em⟩ => ?_⟩
          · obtain ⟨n, hn, en⟩ := List.mem_map.mp hv
            exact ⟨n, hn, en.symm⟩
          subst em
          have hD6 := g6.1 D _ fD.1 hD5 (fun ps z => by cases z)
          have bo6 : ∀ w ∈ bs, Bnd H6 w fl ns := fun w hw => (bo5 w hw).gp g6 hp5x
          have ef6 := ef5.gp g6 hp5x
          have S6 := (S5.gp g6 hp6)
          have Y6 := (Y5.gp g6 hp5x)
          refine ⟨_, rfl, .inl ⟨rfl, _, SqL.of hD6⟩, _, rfl, _, rfl, p, cc, a + 56 + 230 * i + 1 + 14 * j + 9, lt, rfl, S6.pen.mono (by omega), by omega, hlt, fun H7' x g7 hp7 x1 x4 xl => ⟨_, rfl, _, rfl, (by decide : 3 ≤ sizeLine), fun b hb => ?_⟩⟩
          obtain ⟨pz, hpz⟩ := S6.pen.lst
          have gb := Ge.new (o := .tup [.str x, .ref d, .str n]) hb
          have hD8 := gb.1 D _ (g7.1 D _ fD.1 hD6 (fun ps z => by cases z)) (fun ps z => by cases z)
          have S8 := (S6.gp g7 hp7).ge gb
          obtain ⟨py, hpy⟩ := (S6.gp g7 hp7).pen.lst
          have Y8 := (Y6.gp g7 hpz).gp (GeP.of (p := p) gb) hpy
          have bn : Bnd (upd H7' b (.tup [.str x, .ref d, .str n])) (.ref b) fl ns := ⟨b, x, .ref d, .str n, rfl, upd_same, x1, x4, xl, (ef6.gp g7 hpz).ge gb, Or.inr ⟨n, hn, rfl⟩⟩
          have bo8 : ∀ w ∈ bs, Bnd (upd H7' b (.tup [.str x, .ref d, .str n])) w fl ns := fun w hw => ((bo6 w hw).gp g7 hpz).ge gb
          generalize upd H7' b (.tup [.str x, .ref d, .str n]) = H8' at *
          have gD : GeP D H8' (upd H8' D (.lst (bs ++ [.ref b]))) := GeP.set hD8
          refine ⟨D, bs, .ref b, rfl, rfl, hD8, Nat.lt_of_le_of_lt (show bs.length ≤ 16 by omega) (by decide), hj, bs ++ [.ref b], (S8.updL hD8 fD.1 fD.2 nlD nwD).mono (by omega), Y8.updL hD8 DLy, upd_same, by rw [List.length_append, bl]; rfl, fun w hw => ?_, _, _, _, rfl⟩
          rcases List.mem_append.mp hw with hw | hw
          · exact (bo8 w hw).gp gD hD8
          · rw [List.mem_singleton.mp hw]
            exact bn.gp gD hD8
        · have hD6 := hD5
          have bo6 := bo5
          have ef6 := ef5
          have S6 := S5
          have Y6 := Y5
          refine ⟨_, rfl, .inl ⟨rfl, _, SqL.of hD6⟩, _, rfl, _, rfl, p, cc, a + 56 + 230 * i + 1 + 14 * j + 9, lt, rfl, S6.pen.mono (by omega), by omega, hlt, fun H7' x g7 hp7 x1 x4 xl => ⟨_, rfl, _, rfl, (by decide : 3 ≤ sizeLine), fun b hb => ?_⟩⟩
          obtain ⟨pz, hpz⟩ := S6.pen.lst
          have gb := Ge.new (o := .tup [.str x, .ref d, .non]) hb
          have hD8 := gb.1 D _ (g7.1 D _ fD.1 hD6 (fun ps z => by cases z)) (fun ps z => by cases z)
          have S8 := (S6.gp g7 hp7).ge gb
          obtain ⟨py, hpy⟩ := (S6.gp g7 hp7).pen.lst
          have Y8 := (Y6.gp g7 hpz).gp (GeP.of (p := p) gb) hpy
          have bn : Bnd (upd H7' b (.tup [.str x, .ref d, .non])) (.ref b) fl ns := ⟨b, x, .ref d, .non, rfl, upd_same, x1, x4, xl, (ef6.gp g7 hpz).ge gb, Or.inl rfl⟩
          have bo8 : ∀ w ∈ bs, Bnd (upd H7' b (.tup [.str x, .ref d, .non])) w fl ns := fun w hw => ((bo6 w hw).gp g7 hpz).ge gb
          generalize upd H7' b (.tup [.str x, .ref d, .non]) = H8' at *
          have gD : GeP D H8' (upd H8' D (.lst (bs ++ [.ref b]))) := GeP.set hD8
          refine ⟨D, bs, .ref b, rfl, rfl, hD8, Nat.lt_of_le_of_lt (show bs.length ≤ 16 by omega) (by decide), hj, bs ++ [.ref b], (S8.updL hD8 fD.1 fD.2 nlD nwD).mono (by omega), Y8.updL hD8 DLy, upd_same, by rw [List.length_append, bl]; rfl, fun w hw => ?_, _, _, _, rfl⟩
          rcases List.mem_append.mp hw with hw | hw
          · exact (bo8 w hw).gp gD hD8
          · rw [List.mem_singleton.mp hw]
            exact bn.gp gD hD8
    · rintro σ H9 ⟨_, bs, S3, Y3, hD3, bl, bo3, x13, x14, x15, rfl⟩
      refine ⟨_, rfl, _, rfl, D, bs, rfl, Or.inl (SqL.of hD3), R, bs.length, rfl, rfl, ?_⟩
      dsimp only [gName]
      refine ⟨_, rfl, .inl ⟨rfl, _, SqL.of Y3.1⟩, _, rfl, D, bs, rfl, Or.inl ⟨SqL.of hD3, fun ly hly => ?_⟩⟩
      have gy := Ge.new (o := .tup bs) hly
      have S4 := S3.ge gy
      have Y4 := Y3.gp (GeP.of (p := p) gy) S3.pen.lst.choose_spec
      have bo4 : ∀ b ∈ bs, Bnd (upd H9 ly (.tup bs)) b fl ns := fun b hb => (bo3 b hb).ge gy
      have hly2 : upd H9 ly (.tup bs) ly = some (.tup bs) := upd_same
      generalize upd H9 ly (.tup bs) = H10 at *
      have g := GeP.set (p := Ly) (o := .lst (ks.map (fun e => V.ref e.1) ++ [.ref ly])) Y4.1
      have lyLy : ly ≠ Ly := fun z => by
        have := Y4.1
        rw [← z, hly2] at this
        cases this
      refine ⟨Ly, _, .ref ly, rfl, rfl, Y4.1, ?_, hi, ks ++ [(ly, bs)], R - bs.length, ?_, ⟨?_, Y4.2.1, Y4.2.2.1, Y4.2.2.2.1, Y4.2.2.2.2.1, fun e he => ?_, Y4.2.2.2.2.2.2.gp g Y4.1⟩, ?_, ?_, ?_, _, _, _, _, _, rfl⟩
      · rw [List.length_map]
        exact Nat.lt_of_le_of_lt (show ks.length ≤ 4 by omega) (by decide)
      · exact (S4.updL Y4.1 Y4.2.1 Y4.2.2.1 Y4.2.2.2.1 Y4.2.2.2.2.1).mono (by omega)
      · rw [upd_same, List.map_append]
        rfl
      · rcases List.mem_append.mp he with he | he
        · have h6 := Y4.2.2.2.2.2.1 e he
          exact ⟨g.1 e.1 _ (fun z => by have := h6.1; rw [z, Y4.1] at this; cases this) h6.1 (fun ps z => by cases z), fun b hb => (h6.2 b hb).gp g Y4.1⟩
        · rw [List.mem_singleton.mp he]
          exact ⟨g.1 ly _ lyLy hly2 (fun ps z => by cases z), fun b hb => (bo4 b hb).gp g Y4.1⟩
      · rw [List.length_append, kl]
        rfl
      · omega
      · have ec : cnt (ks ++ [(ly, bs)]) = cnt ks + bs.length := by
          unfold cnt
          rw [List.map_append, List.sum_append]
          simp
        rw [ec]
        omega
  · rintro σ H7 ⟨_, ks, R, S, Y, kl, R0, RC, x11, x12, x13, x14, x15, rfl⟩
    refine ⟨_, rfl, _, rfl, _, rfl, _, rfl, Ly, _, rfl, Or.inl ⟨SqL.of Y.1, fun ly hly => ?_⟩⟩
    have gy := Ge.new (o := .tup (ks.map fun e => V.ref e.1)) hly
    have S1 := S.ge gy
    have Y1 := Y.gp (GeP.of (p := p) gy) S.pen.lst.choose_spec
    have hly1 : upd H7 ly (.tup (ks.map fun e => V.ref e.1)) ly = some (.tup (ks.map fun e => V.ref e.1)) := upd_same
    generalize upd H7 ly (.tup (ks.map fun e => V.ref e.1)) = H8 at *
    refine ⟨_, rfl, (by decide : 5 ≤ sizeLine), fun l5 h5 => ?_⟩
    have g5 := Ge.new (o := .lst [.int 1, .int 2, .int 5, .int 10, .int 1000]) h5
    have S2 := S1.ge g5
    have Y2 := Y1.gp (GeP.of (p := p) g5) S1.pen.lst.choose_spec
    have hly2 := g5.1 ly _ hly1 (fun ps z => by cases z)
    refine ⟨p, cc, _, a + 56 + 230 * cn.toNat, fun v => ∃ i : Int, v = .int i ∧ 1 ≤ i ∧ i ≤ 1000, rfl, S2.pen, by omega, Or.inl ⟨l5, _, rfl, (S1.pen.fresh h5).1, upd_same, by decide, by decide, fun v hv => ?_⟩, fun H9 v g9 hp9 ⟨w9, ew, w1, w2⟩ => ?_⟩
    · have hv' : v ∈ ([1, 2, 5, 10, 1000] : List Int).map V.int := hv
      obtain ⟨z, hz, rfl⟩ := List.mem_map.mp hv'
      have all := (by decide +kernel : ∀ z ∈ ([1, 2, 5, 10, 1000] : List Int), 1 ≤ z ∧ z ≤ 1000) z hz
      exact ⟨z, rfl, all⟩
    subst ew
    obtain ⟨pz, hpz⟩ := S2.pen.lst
    have S3 := S2.gp g9 hp9
    have Y3 := Y2.gp g9 hpz
    have lyp : ly ≠ p := fun z => by rw [z, hpz] at hly2; cases hly2
    have hly3 := g9.1 ly _ lyp hly2 (fun ps z => by cases z)
    refine ⟨(by decide : 5 ≤ sizeLine), fun m hm => ?_⟩
    have gm := Ge.new (o := .tup [.ref t, .ref o, .ref cd, .ref ly, .int w9]) hm
    have S4 := S3.ge gm
    have Y4 := Y3.gp (GeP.of (p := p) gm) S3.pen.lst.choose_spec
    have hly4 := gm.1 ly _ hly3 (fun ps z => by cases z)
    have hm4 : upd H9 m (.tup [.ref t, .ref o, .ref cd, .ref ly, .int w9]) m = some (.tup [.ref t, .ref o, .ref cd, .ref ly, .int w9]) := upd_same
    obtain ⟨ot4, zt4, _⟩ := id S4.fz
    refine q _ _ S4.g (S4.pen.mono (by omega)) ⟨m, t, _, fl, rfl, hm4, S4.fz⟩ ⟨m, t, o, cd, ly, fl, ol, ns, ks, w9, rfl, hm4, Or.inr ⟨ot4, zt4⟩, S4.hol, S4.s1, S4.s2, S4.s3, Y4.2.2.2.2.2.2, w1, w2, hly4, by omega, by omega, by omega, Y4.2.2.2.2.2.1⟩
end
end Pr
set_option maxRecDepth 100000
set_option maxHeartbeats 4000000
/-! what stays over a call of the event -/
namespace Pr
open PySem PySem.Spec PyProof.Rows L2 GxR Gx Rp Dl Pd Tx Zq Zs Zl
section
variable {K : PySem.W.Frag} {H : Hp} {x : Addr} {φ : Heap → Prop}
theorem gx_at (hx : H x = some (.ext φ)) {a : Addr} {o : HO} (h : H a = some o) (n : ∀ f, o ≠ .ext f) : wos (isx x) H a = some o := by
  rw [wos_ne (fun z => by rw [z, hx] at h; cases h; exact n _ rfl)]
  exact h
theorem gx_rd (hx : H x = some (.ext φ)) {a : Addr} {u : HO} (n : ∀ f, u ≠ .ext f) (h : Rd H a u) : Rd (wos (isx x) H) a u := h.elim (fun e => Or.inl (gx_at hx e n)) fun ⟨o, e⟩ => Or.inr ⟨o, gx_at hx e fun _ z => by cases z⟩
theorem gx_da (hx : H x = some (.ext φ)) {v : V} {d : PyData} (h : Da K H v d) : Da K (wos (isx x) H) v d := da_map (fun _ _ => gx_rd hx (fun _ q => by cases q)) (fun _ _ => gx_rd hx (fun _ q => by cases q)) d v h fun _ _ _ q _ _ => gx_rd hx (fun _ q => by cases q) q
theorem gx_k (hx : H x = some (.ext φ)) {fl : List Str} {ly : Addr} {bss : List (List BI)} (h : KAt H fl ly bss) : KAt (wos (isx x) H) fl ly bss := by
  obtain ⟨es, h1, h2⟩ := h
  refine ⟨es, gx_at hx h1 (fun _ q => by cases q), Paired.imp (fun e l ⟨a, vs, e1, e2, e3⟩ => ⟨a, vs, e1, gx_at hx e2 (fun _ q => by cases q), Paired.imp (fun v b ⟨c, d, f1, f2, f3, f4⟩ => ⟨c, d, f1, gx_at hx f2 (fun _ q => by cases q), gx_at hx f3 (fun _ q => by cases q), f4⟩) e3⟩) h2⟩
theorem gx_map (hx : H x = some (.ext φ)) {m t o cd ly : Addr} {fl ns : List Str} {bss : List (List BI)} {wt : Int} {cks : List (Key × V)} {eks : Str → List (Key × V)} {d : PyData} (k : MapK K H m t o cd ly fl ns bss wt cks eks d) : MapK K (wos (isx x) H) m t o cd ly fl ns bss wt cks eks d :=
  ⟨gx_at hx k.hm (fun _ q => by cases q), gx_rd hx (fun _ q => by cases q) k.ht, k.nd, k.l3, gx_k hx k.hk, gx_da hx k.da, k.dm, k.dl, gx_at hx k.hcd (fun _ q => by cases q), ⟨gx_rd hx (fun _ q => by cases q) k.ca.1, k.ca.2.1, fun q hq => let ⟨n, c, h1, h2, h3⟩ := k.ca.2.2 q hq; ⟨n, c, h1, ⟨gx_at hx h2.1 (fun _ q => by cases q), h2.2⟩, h3⟩⟩, k.e3, k.bo, k.n4, k.n16, k.sn⟩
theorem gx_tb (hx : H x = some (.ext φ)) {T : List Addr} (h : Tb T H) : Tb T (wos (isx x) H) := fun P hP => by
  obtain ⟨ps, e, ok⟩ := h P hP
  exact ⟨ps, gx_at hx e (fun _ q => by cases q), ok⟩
theorem gx_ge {H' : Hp} (hx : H x = some (.ext φ)) (g : GeP x H H') : Ge (wos (isx x) H) H' := by
  have at_ : ∀ a o, wos (isx x) H a = some o → a ≠ x ∧ H a = some o := fun a o e => by
    have n : a ≠ x := fun z => by
      unfold wos at e
      rw [if_pos (show isx x a from z)] at e
      cases e
    exact ⟨n, by rw [wos_ne (show ¬ isx x a from n)] at e; exact e⟩
  refine ⟨fun a o e n => ?_, fun a ⟨ps, e, t⟩ => ?_⟩
  · obtain ⟨h1, h2⟩ := at_ a o e
    exact g.1 a o h1 h2 n
  · exact g.2 a ⟨ps, (at_ a _ e).2, t⟩
/-- a keymap, the flags' tuple, the tables, the pen: they stay over a call of the event -/
theorem ev_map {H' : Hp} {q : Str} (lm : LamT H x q) (g : GeP x H H') {m t o cd ly : Addr} {fl ns : List Str} {bss : List (List BI)} {wt : Int} {cks : List (Key × V)} {eks : Str → List (Key × V)} {d : PyData} (k : MapK K H m t o cd ly fl ns bss wt cks eks d) : MapK K H' m t o cd ly fl ns bss wt cks eks d := by
  obtain ⟨ps, h1, _⟩ := lm
  exact (gx_map h1 k).ge (gx_ge h1 g)
theorem ev_tb {H' : Hp} {q : Str} {T : List Addr} (lm : LamT H x q) (g : GeP x H H') (h : Tb T H) : Tb T H' := by
  obtain ⟨ps, h1, _⟩ := lm
  exact (gx_ge h1 g).tb (gx_tb h1 h)
theorem ev_pen {H' : Hp} {q : Str} {p cc : Addr} {a : Nat} (lm : LamT H x q) (g : GeP x H H') (h : PenAt H p cc a) : PenAt H' p cc a := by
  obtain ⟨ns, i, v, h1, h2, h3⟩ := h
  exact ⟨ns, i, v, g.1 p _ (lm.ne h1 fun f z => by cases z) h1 (fun ps z => by cases z), g.1 cc _ (lm.ne h2 fun f z => by cases z) h2 (fun ps z => by cases z), h3⟩
theorem lamT_gp {H' : Hp} {q : Str} {p : Addr} {xs : List V} (lm : LamT H x q) (g : GeP p H H') (hp : H p = some (.lst xs)) : LamT H' x q := by
  obtain ⟨ps, h1, h2, h3⟩ := lm
  have ne : ∀ a o, H a = some o → (∀ ys, o ≠ .lst ys) → a ≠ p := fun a o e n z => by
    rw [z, hp] at e
    exact n _ (Option.some.inj e).symm
  exact ⟨ps, g.1 _ _ (ne _ _ h1 fun ys z => by cases z) h1 (fun ps z => by cases z), h2, fun pos cv e => by
    obtain ⟨c, e1, e2⟩ := h3 pos cv e
    exact ⟨c, e1, g.1 _ _ (ne _ _ e2 fun ys z => by cases z) e2 (fun ps z => by cases z)⟩⟩
theorem map_kc {K : PySem.W.Frag} {H : Hp} {v : V} (mh : MapH H v) : ∃ m t o cd ly fl ns bss wt cks eks d, v = .ref m ∧ MapK K H m t o cd ly fl ns bss wt cks eks d ∧ CmOk bss cks := by
  obtain ⟨d, hd, hm⟩ := map_da (K := K) mh
  obtain ⟨m, t, o, cd, ly, fl, ol, ns, ks, i, rfl, em, et, _, s1, _, s3, ⟨cks, c1, c2, c3, c4, _⟩, _, _, hly, _, k4, kc, hk⟩ := mh
  obtain ⟨bss, h1, h2, h3⟩ := lays_at ks hk
  obtain ⟨a1, a2⟩ := cmd_at c1 c2 c3 s3
  have l3 : fl.length ≤ 3 := s1.length_le
  refine ⟨m, t, o, cd, ly, fl, ns, bss, i, cks, eksOf H cks, d, rfl, ⟨em, et, s1.nodup, l3, ⟨_, hly, h1⟩, hd, hm, flag_len hd em et, c1, a1, fun n c z => Nat.le_trans (a2 n c z) l3, h2, ?_, ?_, s3⟩, fun l hl bi hb => ?_⟩
  · have z := Paired.length h1
    rw [List.length_map] at z
    omega
  · rw [List.length_flatten, h3]
    exact kc
  · rcases (h2 l hl bi hb).2.1 with z | ⟨n, hn, z⟩
    · exact Or.inl z
    · obtain ⟨v, hv⟩ := c4 n hn
      exact Or.inr ⟨n, v, z, hv⟩
theorem mz_fz {m t o cd ly : Addr} {fl ns : List Str} {bss : List (List BI)} {wt : Int} {cks : List (Key × V)} {eks : Str → List (Key × V)} {d : PyData} (mz : MapZ H (.ref m)) (k : MapK K H m t o cd ly fl ns bss wt cks eks d) : Fz H t fl := by
  obtain ⟨m', t', rest, fl', e, h1, fz⟩ := mz
  cases e
  have e1 := h1.symm.trans k.hm
  cases e1
  obtain ⟨ot, z1, z2⟩ := fz
  have e2 := rd_one (fun o w z => by cases z) (fun o w z => by cases z) k.ht (Or.inr ⟨ot, z1⟩)
  have e3 : fl.map V.str = fl'.map V.str := by
    injection e2
  exact ⟨ot, by rw [e3]; exact z1, z2⟩
end
end Pr
set_option maxRecDepth 100000
set_option maxHeartbeats 4000000
/-! the law of k22: frames; a statement and what holds behind it -/
namespace Pr
open PySem PySem.Spec PyProof.Rows L2 GxR Gx Rp Dl Pd Tx Zq Zs Zl
section
variable {X : Cx}
def tMid (t u : TS) : TS := fun D σ H => ∃ J : L2.St → Hp → Prop, t { D with nx := J } σ H ∧ ∀ σ' H', J σ' H' → u D σ' H'
theorem pss_mid {st : Stmt} {rest : List Stmt} {t u : TS} (h1 : PS X st t) (h2 : PSs X rest u) : PSs X (st :: rest) (tMid t u) := by
  refine ⟨fun pins s σ H D I ⟨J, h, k⟩ => ?_⟩
  refine wpAny_execs_cons (thn (h1.run pins s σ H { D with nx := J } I h) fun f s1 q => ?_)
  cases f with
  | next =>
    obtain ⟨σ', H', I', q⟩ := q
    exact h2.run pins s1 σ' H' D I' (k σ' H' q)
  | ret v => exact q
  | brk => exact q
  | cont => exact q
end
def H3 (x : Str) : Prop := 1 ≤ x.length ∧ x.length ≤ 3 ∧ letters x = true
theorem h3_take {y : Str} {m : Nat} (h1 : 1 ≤ y.length) (hl : letters y = true) (m1 : 1 ≤ m) (m3 : m ≤ 3) : H3 (mkS (y.cps.toList.take m)) := by
  have e : (mkS (y.cps.toList.take m)).length = min m y.length := by
    rw [mkS_len, List.length_take]
    rfl
  refine ⟨by rw [e]; omega, by rw [e]; omega, ?_⟩
  unfold letters at hl ⊢
  rw [List.all_eq_true] at hl ⊢
  intro c hc
  exact hl c (List.mem_of_mem_take hc)
theorem ev_fz {H H' : Hp} {x t : Addr} {q : Str} {fl : List Str} (lm : LamT H x q) (g : GeP x H H') (h : Fz H t fl) : Fz H' t fl := by
  obtain ⟨ot, h1, h2⟩ := h
  exact ⟨ot, g.1 t _ (lm.ne h1 fun f z => by cases z) h1 (fun ps z => by cases z), h2⟩

theorem word3 {x : Str} (h : H3 x) : isWord 3 (.str x) = true := by
  obtain ⟨h1, h3, hl⟩ := h
  show (decide (1 ≤ (x.length : Int)) && decide ((x.length : Int) ≤ 3) && letters x) = true
  rw [hl, decide_eq_true (show 1 ≤ (x.length : Int) by omega), decide_eq_true (show (x.length : Int) ≤ 3 by omega)]
  rfl
theorem evd_da {K : PySem.W.Frag} {H H' : Hp} {x : Addr} {q : Str} {v : V} {d : PyData} (lm : LamT H x q) (g : GeP x H H') (h : Da K H v d) : Da K H' v d := by
  obtain ⟨ps, h1, _⟩ := lm
  exact (gx_ge h1 g).da (gx_da h1 h)
structure FrC (K : PySem.W.Frag) (T : List Addr) (Pt p cc : Addr) (n : Nat) (m t o cd ly : Addr) (fl ns : List Str) (bss : List (List BI)) (wt : Int) (cks : List (Key × V)) (eks : Str → List (Key × V)) (d : PyData) (s : Addr) (bs : List Bool) (tb : Addr) (tbl : List (Key × V)) (v : V) (dv : PyData) (H : Hp) : Prop where
  tab : Tb T H
  lm : LamT H Pt qEvt
  pn : PenAt H p cc n
  km : MapK K H m t o cd ly fl ns bss wt cks eks d
  fz : Fz H t fl
  hs : H s = some (.tup (bs.map V.bl))
  ht : H tb = some (.dK tbl)
  da : Da K H v dv
section
variable {K : PySem.W.Frag} {T : List Addr} {Pt p cc : Addr} {n : Nat} {m t o cd ly : Addr} {fl ns : List Str} {bss : List (List BI)} {wt : Int} {cks : List (Key × V)} {eks : Str → List (Key × V)} {d : PyData} {s : Addr} {bs : List Bool} {tb : Addr} {tbl : List (Key × V)} {v : V} {dv : PyData} {H H' : Hp}
theorem FrC.ge (f : FrC K T Pt p cc n m t o cd ly fl ns bss wt cks eks d s bs tb tbl v dv H) (g : Ge H H') : FrC K T Pt p cc n m t o cd ly fl ns bss wt cks eks d s bs tb tbl v dv H' :=
  ⟨g.tb f.tab, lamT_ge f.lm g, f.pn.ge g, f.km.ge g, f.fz.ge g, g.1 s _ f.hs (fun ps z => by cases z), g.dk f.ht, g.da f.da⟩
theorem FrC.ev (f : FrC K T Pt p cc n m t o cd ly fl ns bss wt cks eks d s bs tb tbl v dv H) (g : GeP Pt H H') (l : LamT H' Pt qEvt) : FrC K T Pt p cc n m t o cd ly fl ns bss wt cks eks d s bs tb tbl v dv H' :=
  ⟨ev_tb f.lm g f.tab, l, ev_pen f.lm g f.pn, ev_map f.lm g f.km, ev_fz f.lm g f.fz, g.1 s _ (f.lm.ne f.hs fun f z => by cases z) f.hs (fun ps z => by cases z), g.1 tb _ (f.lm.ne f.ht fun f z => by cases z) f.ht (fun ps z => by cases z), evd_da f.lm g f.da⟩
end
section
variable {σ : L2.St} {H : Hp} {Q : VK} {K : PySem.W.Frag}
theorem seq_cat2 {te1 te2 te3 : TE} {i : Nat} {rest : TS} {D : Ends} (h : te1 σ H fun x H1 => te2 σ H1 fun y H2 => rCat x y H2 fun z H3 => te3 σ H3 fun w H4 => rCat z w H4 fun u H5 => rest D (σ.set i (some u)) H5) : tSeq (tAsg (tOp rCat (tOp rCat te1 te2) te3) (gName i)) rest D σ H := h
/-- the keys of a dict, cut -/
theorem lc_cut {i j m : Nat} {mi : Int} {kn : Str} {tb : Addr} {tbl : List (Key × V)} (h6 : σ[i]? = some (some (.ref tb))) (ht : H tb = some (.dK tbl)) (l60 : tbl.length ≤ 60) (keyL : ∀ q ∈ tbl, ∃ y, q.1 = Sum.inr y ∧ 1 ≤ y.length ∧ y.length ≤ 4 ∧ letters y = true) (m1 : 1 ≤ m) (m3 : m ≤ 3) (w1 : ∀ v, wipe ((wipe σ [j]).set j (some v)) [j] = wipe σ [j]) (w2 : ∀ v, ((wipe σ [j]).set j (some v))[j]? = some (some v))
    (q : ∀ H' D (ss : List Str), Ge H H' → H' D = some (.lst (ss.map V.str)) → ss.length = tbl.length → (∀ x ∈ ss, H3 x) → Q (.ref D) H') (hm : mi = (m : Nat)) : tLockE (tLc (iKeys (tVar i)) (gName j) tYes (tSl rSlS (tVar j) tNoPart (tPart (tC (.int mi)))) ([(kn, j)].map (·.2))) σ H Q := by
  subst hm
  refine ⟨tb, .dK tbl, ht, True.intro, fun od => ⟨_, h6, tb, od, rfl, Or.inl ⟨tbl, upd_same, fun D hD => ?_⟩⟩⟩
  have dD : D ≠ tb := fun z => by rw [z, upd_same] at hD; cases hD
  refine lc_it (n := tbl.length) (walk_keys (d := tb) (o := od) (kvs := tbl)) (fun i H' => i ≤ tbl.length ∧ Ge (upd H tb (.frz od (.dK tbl))) H' ∧ ∃ ss : List Str, H' D = some (.lst (ss.map V.str)) ∧ ss.length = i ∧ ∀ x ∈ ss, H3 x)
    ⟨Nat.zero_le _, Ge.new hD, [], upd_same, rfl, fun x hx => (by cases hx)⟩ (fun i H' _ z => z.2.1.1 tb _ upd_same (fun ps z => by cases z)) ?_ ?_
  · rintro i v H6 H7 hi ⟨_, g6, ss, h6, l6, o6⟩ ⟨rfl, key, val, ek, rfl⟩
    obtain ⟨y, ey, y1, y4, yl⟩ := keyL _ (List.mem_of_getElem? ek)
    have ey : key = Sum.inr y := ey
    subst ey
    have e1 : cutS y none (some ((m : Nat) : Int)) = mkS (y.cps.toList.take m) := cut_take y.cps.toList m
    refine ⟨w1 _, ?_⟩
    simp only [tYes, if_true]
    refine ⟨_, w2 _, (m : Int), rfl, y, rfl, Nat.le_trans y4 (by decide), _, h6, ?_, hi, Ge.upd g6 hD, ss ++ [mkS (y.cps.toList.take m)], ?_, ?_, ?_⟩
    · rw [List.length_map]
      exact Nat.lt_of_le_of_lt (show _ ≤ 60 by omega) (by decide)
    · rw [upd_same, List.map_append, ← e1]
      rfl
    · rw [List.length_append, l6]
      rfl
    · intro x hx
      rcases List.mem_append.mp hx with hx | hx
      · exact o6 x hx
      · rw [List.mem_singleton.mp hx]
        exact h3_take y1 yl m1 m3
  · rintro H6 ⟨_, g6, ss, h6, l6, o6⟩
    obtain ⟨q1, q2⟩ := ge_unlock ht g6
    exact ⟨q1, q _ D ss q2 (by rw [upd_ne dD]; exact h6) l6 o6⟩
end
section
variable {P : Program} {w : World} {K : PySem.W.Frag} {mg : Str → Option Value} {base : Heap} {T : List Addr}
end
end Pr
set_option maxRecDepth 100000
set_option maxHeartbeats 4000000
/-! law k22 -/
namespace Pr
open PySem PySem.Spec PyProof.Rows L2 GxR Gx Rp Dl Pd Tx Zq Zs Zl
section
variable {P : Program} {w : World} {K : PySem.W.Frag} {mg : Str → Option Value} {base : Heap} {T : List Addr}
theorem two_of {α : Type} : ∀ {l : List α}, l.length = 2 → ∃ a b, l = [a, b]
  | [a, b], _ => ⟨a, b, rfl⟩
def spLawC (K : PySem.W.Frag) (T : List Addr) (Pt : Addr) : Sp := fun vs H Q _ => ∃ (a : Addr) (ns : List Int), vs = [.ref a] ∧ SqL K H a (ns.map V.int) ∧ ns.length ≤ 63 ∧ Tb T H ∧ LamT H Pt qEvt ∧ ∀ H', LamT H' Pt qEvt → Q (.bl true) H'
abbrev nLaw : List Str := ["_law_script", "_law_pen", "_law_turn", "_law_keymap", "_law_again", "_law_state", "_law_table_here", "_law_some", "_law_held", "_law_once", "_law_value", "_law_seen", "_law_due", "_law_found", "_law_keys", "_law_one"]
theorem scLaw : FnScope nLaw ["_law_script"] (defScope s_law) := ⟨rfl, rfl, rfl, by decide +kernel, rfl, by decide +kernel, by decide +kernel⟩
theorem ok_lawC {f c Pt : Addr} {fd : FuncData} (F : FunC K "law" s_law f fd c) (B : Bn mg) (Do : DfP P w K mg base 1 "_law_open" ["_law_script"] (spOpen K)) (Dm : DfP P w K mg base 5 "_law_draw_map" ["_law_pen", "_law_most"] spDMp) (Ds : DfP P w K mg base 3 "_law_draw_state" ["_law_pen", "_law_keymap"] spState) (Dt : DfP P w K mg base 3 "_law_table" ["_law_keymap", "_law_state"] (spTblC K T)) (Dp : DfP P w K mg base 3 "_law_one_of" ["_law_pen", "_law_some"] spPick) (Dv : DfP P w K mg base 6 "_law_draw_value" ["_law_pen", "_law_table_here", "_law_held"] (spDVa K)) (Di : DfP P w K mg base 1 "_law_is_more" ["_law_value"] (spMore K)) (De : DfP P w K mg base 2 "_law_event" ["_law_table_here", "_law_keys"] (spEvS Pt)) (Dx : DfP P w K mg base 11 "is_split" ["keymap", "state", "held", "thing"] (spSplA K T)) (Dq : DfP P w K mg base 2 "_law_same" ["_law_found", "_law_due"] (spSame 1)) : Lw.FnG P w K mg base CX0 12 f fd ["_law_script"] (spLawC K T Pt) := by
  refine F.okG scLaw (fun vs H Q E ⟨_, _, h, _⟩ => by rw [h]; rfl) (fun A outer s0 H vs Q E hg hr h => ?_)
  have hu := hu_of hr
  have hu2 := hr.units
  obtain ⟨a, ns0, rfl, hs, hl, hT, hLm, q⟩ := h
  refine ⟨_, pss_cons (ps_asg (pcall Do (hr.mono (by decide)) pass0 rfl (pa_cons (pv 0) pa_nil)) (pg_name (i := 1) scLaw.nd rfl (Or.inl rfl)))
    (pss_cons (ps_for PassesOwn.never rfl (pi_range1 rfl B.range (pa_cons pe_int pa_nil)) (pg_name (i := 2) scLaw.nd rfl (Or.inl rfl))
      (pss_cons (ps_asg (pcall Dm (hr.mono (by decide)) pass0 rfl (pa_cons (pv 1) (pa_cons pe_int pa_nil))) (pg_name (i := 3) scLaw.nd rfl (Or.inl rfl)))
      (pss_one (ps_for PassesOwn.never rfl (pi_range1 rfl B.range (pa_cons pe_int pa_nil)) (pg_name (i := 4) scLaw.nd rfl (Or.inl rfl))
        (pss_cons (ps_asg (pcall Ds (hr.mono (by decide)) pass0 rfl (pa_cons (pv 1) (pa_cons (pv 3) pa_nil))) (pg_name (i := 5) scLaw.nd rfl (Or.inl rfl)))
        (pss_cons (ps_asg (pcall Dt (hr.mono (by decide)) pass0 rfl (pa_cons (pv 3) (pa_cons (pv 5) pa_nil))) (pg_name (i := 6) scLaw.nd rfl (Or.inl rfl)))
        (pss_cons (ps_asg (pe_op op_cat (pe_op op_cat (pe_lock (pe_lc (own := [("_law_keys", 14)]) (g := gName 14) (tt := tYes) rfl scLaw.nd (pi_keys (pv 6)) (blkOk_by (N := nLaw) (sc := defScope s_law) (by decide +kernel)) (fun _ _ _ _ _ => (pg_name (i := 14) scLaw.nd rfl (Or.inl rfl))) (fun _ _ _ _ _ => pts_nil) (fun _ _ _ _ _ => (pe_slice sl_str (pv 14) po_none (po_some pe_int))))) (pe_lock (pe_lc (own := [("_law_keys", 14)]) (g := gName 14) (tt := tYes) rfl scLaw.nd (pi_keys (pv 6)) (blkOk_by (N := nLaw) (sc := defScope s_law) (by decide +kernel)) (fun _ _ _ _ _ => (pg_name (i := 14) scLaw.nd rfl (Or.inl rfl))) (fun _ _ _ _ _ => pts_nil) (fun _ _ _ _ _ => (pe_slice sl_str (pv 14) po_none (po_some pe_int)))))) (pe_lst (pa_cons pe_str (pa_cons pe_str pa_nil)))) (pg_name (i := 7) scLaw.nd rfl (Or.inl rfl)))
        (pss_cons (ps_asg (pcall Dp (hr.mono (by decide)) pass0 rfl (pa_cons (pv 1) (pa_cons (pv 7) pa_nil))) (pg_name (i := 8) scLaw.nd rfl (Or.inl rfl)))
        (pss_one (ps_for PassesOwn.never rfl (pi_range1 rfl B.range (pa_cons pe_int pa_nil)) (pg_name (i := 9) scLaw.nd rfl (Or.inl rfl))
          (pss_cons (ps_asg (pcall Dv (hr.mono (by decide)) pass0 rfl (pa_cons (pv 1) (pa_cons (pv 6) (pa_cons (pv 8) pa_nil)))) (pg_name (i := 10) scLaw.nd rfl (Or.inl rfl)))
          (pss_cons (ps_par (i := 11) (j := 12) rfl scLaw.nd rfl rfl (by decide) rfl rfl (pa_cons (pe_callB (call_reprD hg hu2) rfl B.repr bt_repr (pa_cons (pe_tup (pa_cons (pv 3) (pa_cons (pv 5) (pa_cons (pv 10) pa_nil)))) pa_nil)) (pa_cons pe_bl pa_nil)) rfl)
          (pss_mid (ps_if (PW.pt (pw_and (pt_val (pe_isi (pv 10) rfl B.isinstance rfl B.tuple bt_tuple)) (pw_and (pt_cmpR op_eq (pe_callB call_len_seq rfl B.len PySem.boot_len (pa_cons (pv 10) pa_nil)) pe_int (nomark _)) (pw_and1 (pt_cmpR (op_eqD hu2) (pe_lc (own := [("_law_one", 15)]) (g := gName 15) (tt := tYes) rfl scLaw.nd (pi_tup (pv 10)) (blkOk_by (N := nLaw) (sc := defScope s_law) (by decide +kernel)) (fun _ _ _ _ _ => (pg_name (i := 15) scLaw.nd rfl (Or.inl rfl))) (fun _ _ _ _ _ => pts_nil) (fun _ _ _ _ _ => (pcall Di (hr.mono (by decide)) pass0 rfl (pa_cons (pv 15) pa_nil)))) (pe_op op_rep (pe_lst (pa_cons pe_bl pa_nil)) pe_int) (nomark _)))))) (pss_one (ps_asg (pe_cmpR (op_neD hu2) (pcall De (hr.mono (by decide)) pass0 rfl (pa_cons (pv 6) (pa_cons (pe_op op_add_str (pv 8) (pe_ix ix_tup (pv 10) pe_int (fun _ _ => rfl))) pa_nil))) (pcall De (hr.mono (by decide)) pass0 rfl (pa_cons (pv 6) (pa_cons (pe_op op_add_str (pv 8) (pe_ix ix_tup (pv 10) pe_int (fun _ _ => rfl))) pa_nil))) (nomark _)) (pg_name (i := 12) scLaw.nd rfl (Or.inl rfl)))) pss_nil)
          (pss_cons (ps_asg (pcall Dx (hr.mono (by decide)) pass0 rfl (pa_cons (pv 3) (pa_cons (pv 5) (pa_cons (pv 8) (pa_cons (pv 10) pa_nil))))) (pg_name (i := 13) scLaw.nd rfl (Or.inl rfl)))
          (pss_one (ps_if (PW.pt (pw_or (pt_not (pt_val (pcall Dq (hr.mono (by decide)) pass0 rfl (pa_cons (pv 13) (pa_cons (pv 12) pa_nil))))) (pw_or1 (pt_cmpR op_ne (pe_callB (call_reprD hg hu2) rfl B.repr bt_repr (pa_cons (pe_tup (pa_cons (pv 3) (pa_cons (pv 5) (pa_cons (pv 10) pa_nil)))) pa_nil)) (pv 11) (nomark _))))) (pss_one (ps_ret pe_bl)) pss_nil))))))))))))))))
    (pss_one (ps_ret pe_bl))), ?_⟩
  have smallN : ∀ n : Nat, n ≤ 10000 → n ≤ sizeLine := fun n hn => Nat.le_trans hn (by decide)
  refine ⟨_, rfl, a, ns0, rfl, hs, hl, fun H1 p cc g1 hp1 => ?_⟩
  dsimp only [gName]
  refine ⟨5, rfl, by decide, by decide, for_range (lo := 0) (n := 5) (fun k σ H' => k ≤ 5 ∧ Tb T H' ∧ LamT H' Pt qEvt ∧ PenAt H' p cc (2600 * k) ∧ ∃ x2 x3 x4 x5 x6 x7 x8 x9 x10 x11 x12 x13 x14 x15, σ = [some (.ref a), some (.ref p), x2, x3, x4, x5, x6, x7, x8, x9, x10, x11, x12, x13, x14, x15])
    ⟨Nat.zero_le _, g1.tb hT, lamT_ge hLm g1, hp1, _, _, _, _, _, _, _, _, _, _, _, _, _, _, rfl⟩ ?_ ?_⟩
  rotate_left
  · rintro σ H2 ⟨_, hT2, hL2, _, x2, x3, x4, x5, x6, x7, x8, x9, x10, x11, x12, x13, x14, x15, rfl⟩
    exact q H2 hL2
  rintro k σ H2 hk ⟨_, hT2, hL2, hp2, x2, x3, x4, x5, x6, x7, x8, x9, x10, x11, x12, x13, x14, x15, rfl⟩
  refine ⟨_, rfl, p, cc, 2600 * k, 16, rfl, by decide, by decide, hp2, by omega, fun H3 v g3 hp3 mz mh => ?_⟩
  obtain ⟨m, t, o, cd, ly, fl, ns, bss, wt, cks, eks, d, rfl, mk, cmk⟩ := map_kc (K := K) mh
  have fz := mz_fz mz mk
  obtain ⟨p2, hp2x⟩ := hp2.lst
  have hT3 := g3.tb hT2
  have hL3 := lamT_gp hL2 g3 hp2x
  dsimp only [gName]
  refine ⟨3, rfl, by decide, by decide, for_range (lo := 0) (n := 3) (fun j σ H' => j ≤ 3 ∧ Tb T H' ∧ LamT H' Pt qEvt ∧ PenAt H' p cc (2600 * k + 2000 + 170 * j) ∧ MapK K H' m t o cd ly fl ns bss wt cks eks d ∧ Fz H' t fl ∧ ∃ y4 y5 y6 y7 y8 y9 y10 y11 y12 y13 y14 y15, σ = [some (.ref a), some (.ref p), some (.int (0 + (k : Int))), some (.ref m), y4, y5, y6, y7, y8, y9, y10, y11, y12, y13, y14, y15])
    ⟨Nat.zero_le _, hT3, hL3, hp3, mk, fz, _, _, _, _, _, _, _, _, _, _, _, _, rfl⟩ ?_ ?_⟩
  rotate_left
  · rintro σ H4 ⟨_, hT4, hL4, hp4, _, _, y4, y5, y6, y7, y8, y9, y10, y11, y12, y13, y14, y15, rfl⟩
    exact ⟨hk, hT4, hL4, hp4.mono (by omega), _, _, _, _, _, _, _, _, _, _, _, _, _, _, rfl⟩
  rintro j σ H4 hj ⟨_, hT4, hL4, hp4, mk4, fz4, y4, y5, y6, y7, y8, y9, y10, y11, y12, y13, y14, y15, rfl⟩
  refine ⟨_, rfl, _, rfl, p, cc, m, t, _, 2600 * k + 2000 + 170 * j, fl, rfl, hp4, by omega, mk4.hm, mk4.ht, mk4.l3, fun H5 s bs g5 hp5 hs5 hbl => ?_⟩
  obtain ⟨p4, hp4x⟩ := hp4.lst
  have mk5 := mk4.gp g5 hp4x
  have fz5 := fz4.gp g5 hp4x
  have hT5 := g5.tb hT4
  have hL5 := lamT_gp hL4 g5 hp4x
  have ks5 := mk5.ks hs5 hbl hT5
  dsimp only [gName]
  refine ⟨_, rfl, _, rfl, .ref m, .ref s, m, t, o, cd, ly, s, fl, bss, bs, wt, cks, rfl, ks5, fz5, by have := mk5.n16; omega, fun l hl b hb => Nat.le_trans (mk5.bo l hl b hb).1 mk5.l3, cmk, fun H6 tb tbl g6 nw6 htb nd6 hC tl60 tk => ?_⟩
  dsimp only [gName]
  have keyL : ∀ q ∈ tbl, ∃ y, q.1 = Sum.inr y ∧ 1 ≤ y.length ∧ y.length ≤ 4 ∧ letters y = true := fun q hq => by
    obtain ⟨bi, hb, e⟩ := tk q hq
    obtain ⟨l, hl, hbl2⟩ := List.mem_flatten.mp hb
    obtain ⟨_, _, x1, x4, xl⟩ := mk5.bo l hl bi hbl2
    exact ⟨bi.x, e, x1, x4, xl⟩
  refine seq_cat2 ?_
  refine lc_cut (i := 6) (j := 14) (mi := 3) (kn := "_law_keys") (m := 3) ?a1 htb tl60 keyL (by decide) (by decide) ?a2 ?a3 (fun H7 D1 ss1 g7 hD1 l1 o1 => ?_) rfl
  case a1 => rfl
  case a2 => exact fun v => rfl
  case a3 => exact fun v => rfl
  refine lc_cut (i := 6) (j := 14) (mi := 1) (kn := "_law_keys") (m := 1) ?b1 (g7.dk htb) tl60 keyL (by decide) (by decide) ?b2 ?b3 (fun H8 D2 ss2 g8 hD2 l2 o2 => ?_) rfl
  case b1 => rfl
  case b2 => exact fun v => rfl
  case b3 => exact fun v => rfl
  refine ⟨D1, D2, ss1.map V.str, ss2.map V.str, rfl, rfl, g8.1 D1 _ hD1 (fun ps z => by cases z), hD2, by rw [List.length_map, List.length_map]; exact smallN _ (by omega), fun D3 hD3 => ?_⟩
  have g9 := Ge.new (o := .lst (ss1.map V.str ++ ss2.map V.str)) hD3
  refine ⟨(by decide : 2 ≤ sizeLine), fun D4 hD4 => ?_⟩
  have g10 := Ge.new (o := .lst [.str "q", .str "aa"]) hD4
  refine ⟨D3, D4, ss1.map V.str ++ ss2.map V.str, (["q", "aa"] : List Str).map V.str, rfl, rfl, g10.1 D3 _ upd_same (fun ps z => by cases z), upd_same, by rw [List.length_append, List.length_map, List.length_map, List.length_map]; exact smallN _ (show _ + _ + 2 ≤ _ by omega), fun D5 hD5 => ?_⟩
  have g11 := Ge.new (o := .lst ((ss1.map V.str ++ ss2.map V.str) ++ (["q", "aa"] : List Str).map V.str)) hD5
  have hD5' : upd (upd (upd H8 D3 (.lst (ss1.map V.str ++ ss2.map V.str))) D4 (.lst [.str "q", .str "aa"])) D5 (.lst ((ss1.map V.str ++ ss2.map V.str) ++ (["q", "aa"] : List Str).map V.str)) D5 = some (.lst (((ss1 ++ ss2) ++ (["q", "aa"] : List Str)).map V.str)) := by rw [upd_same, List.map_append, List.map_append]
  have gA : Ge H5 _ := ((((g6.trans g7).trans g8).trans g9).trans g10).trans g11
  have g6A : Ge H6 _ := ((((g7.trans g8).trans g9).trans g10).trans g11)
  have o8 : ∀ x ∈ (ss1 ++ ss2) ++ (["q", "aa"] : List Str), Pr.H3 x := fun x hx => by
    rcases List.mem_append.mp hx with hx | hx
    · rcases List.mem_append.mp hx with hx | hx
      · exact o1 x hx
      · exact o2 x hx
    · exact (by decide +kernel : ∀ x ∈ (["q", "aa"] : List Str), 1 ≤ x.length ∧ x.length ≤ 3 ∧ letters x = true) x hx
  have l8 : ((ss1 ++ ss2) ++ (["q", "aa"] : List Str)).length = tbl.length + tbl.length + 2 := by
    rw [List.length_append, List.length_append, l1, l2]
    rfl
  have nD5 : D5 ≠ p := ((hp5.ge (((((g6.trans g7).trans g8).trans g9).trans g10))).fresh hD5).1
  dsimp only [gName]
  generalize upd (upd (upd H8 D3 (.lst (ss1.map V.str ++ ss2.map V.str))) D4 (.lst [.str "q", .str "aa"])) D5 (.lst ((ss1.map V.str ++ ss2.map V.str) ++ (["q", "aa"] : List Str).map V.str)) = HA at *
  generalize (ss1 ++ ss2) ++ (["q", "aa"] : List Str) = ss3 at *
  have mkA := mk5.ge gA
  have fzA := fz5.ge gA
  have hTA := gA.tb hT5
  have hLA := lamT_ge hL5 gA
  have hsA := gA.1 s _ hs5 (fun ps z => by cases z)
  have htbA := g6A.dk htb
  have hpA := hp5.ge gA
  have sp : s ≠ p := fun z => by
    obtain ⟨p6, hp6x⟩ := hp5.lst
    rw [z, hp6x] at hs5
    cases hs5
  refine ⟨_, rfl, _, rfl, p, cc, _, 2600 * k + 2000 + 170 * j + 3, fun v => ∃ x, v = .str x ∧ Pr.H3 x, rfl, hpA, by omega, Or.inl ⟨D5, _, rfl, nD5, hD5', by rw [List.length_map, l8]; omega, by rw [List.length_map, l8]; omega, fun v hv => ?_⟩, fun H12 v g12 hp12 ⟨held, e, hh⟩ => ?_⟩
  · obtain ⟨x, hx, rfl⟩ := List.mem_map.mp hv
    exact ⟨x, rfl, o8 x hx⟩
  subst e
  dsimp only [gName]
  obtain ⟨px, hpAx⟩ := hpA.lst
  have lk : held.length = held.cps.toList.length := rfl
  obtain ⟨hd1, hd3, hdl⟩ := hh
  have hk0 : held.cps.toList ≠ [] := fun z => by rw [z] at lk; simp only [List.length_nil] at lk; omega
  have hlc := letters_isL hdl
  refine ⟨8, rfl, by decide, by decide, for_range (lo := 0) (n := 8) (fun i σ H' => i ≤ 8 ∧ Tb T H' ∧ LamT H' Pt qEvt ∧ PenAt H' p cc (2600 * k + 2000 + 170 * j + 4 + 20 * i) ∧ MapK K H' m t o cd ly fl ns bss wt cks eks d ∧ Fz H' t fl ∧ H' s = some (.tup (bs.map V.bl)) ∧ H' tb = some (.dK tbl) ∧ ∃ z7 z9 z10 z11 z12 z13 z14 z15, σ = [some (.ref a), some (.ref p), some (.int (0 + (k : Int))), some (.ref m), some (.int (0 + (j : Int))), some (.ref s), some (.ref tb), z7, some (.str held), z9, z10, z11, z12, z13, z14, z15])
    ⟨Nat.zero_le _, g12.tb hTA, lamT_gp hLA g12 hpAx, hp12, mkA.gp g12 hpAx, fzA.gp g12 hpAx, g12.1 s _ sp hsA (fun ps z => by cases z), g12.dk hpAx htbA, _, _, _, _, _, _, _, _, rfl⟩ ?_ ?_⟩
  rotate_left
  · rintro σ H13 ⟨_, hT13, hL13, hp13, mk13, fz13, hs13, htb13, z7, z9, z10, z11, z12, z13, z14, z15, rfl⟩
    exact ⟨by omega, hT13, hL13, hp13.mono (by omega), mk13, fz13, _, _, _, _, _, _, _, _, _, _, _, _, rfl⟩
  rintro i σ H13 hi ⟨_, hT13, hL13, hp13, mk13, fz13, hs13, htb13, z7, z9, z10, z11, z12, z13, z14, z15, rfl⟩
  refine ⟨_, rfl, _, rfl, _, rfl, p, cc, tb, _, tbl, held, rfl, hp13, by omega, htb13, tl60, keyL, hd3, fun H14 v dv g14 hp14 hda good => ?_⟩
  dsimp only [gName]
  obtain ⟨py, hp13x⟩ := hp13.lst
  have fr : FrC K T Pt p cc (2600 * k + 2000 + 170 * j + 4 + 20 * i + 20) m t o cd ly fl ns bss wt cks eks d s bs tb tbl v dv H14 := ⟨g14.tb hT13, lamT_gp hL13 g14 hp13x, hp14, mk13.gp g14 hp13x, fz13.gp g14 hp13x, g14.1 s _ sp hs13 (fun ps z => by cases z), g14.dk hp13x htb13, wos_ge.da hda⟩
  obtain ⟨f1, f2, f3⟩ := shown_le d fr.km.dm.2.1
  have szd : Sz d 3000000 10 := ⟨f2, Nat.le_trans f1 (Nat.le_trans fr.km.dm.2.2.2.1 (by decide)), fr.km.dm.2.2.2.2⟩
  have szs : Sz (.tuple (bs.map PyData.bool)) 3000000 10 := (sz_bools (by rw [hbl]; exact fr.km.l3)).mono (by decide) (by decide)
  have szv : Sz dv 3000000 10 := ⟨good.shown.1, Nat.le_trans good.shown.2 (by decide), Nat.le_trans good.n (by decide)⟩
  obtain ⟨q1, q2, q3⟩ : Sz (.tuple [d, .tuple (bs.map PyData.bool), dv]) (3 * (3000000 + 2) + 4) (10 + 1) := sz_tup (fun e he => by
    simp only [List.mem_cons, List.not_mem_nil, or_false] at he
    rcases he with rfl | rfl | rfl <;> assumption) (Nat.le_refl 3)
  have rp : ∀ (X : Hp) (q : Addr), FrC K T Pt p cc (2600 * k + 2000 + 170 * j + 4 + 20 * i + 20) m t o cd ly fl ns bss wt cks eks d s bs tb tbl v dv X → X q = some (.tup [.ref m, .ref s, v]) → Da K X (.ref q) (.tuple [d, .tuple (bs.map PyData.bool), dv]) := fun X q fX hq => .tup (Or.inl hq) (.cons fX.km.da (.cons (.tup (Or.inl fX.hs) (da_bools bs)) (.cons fX.da .nil)))
  have cn : CmNs bss ns := fun l hl bi hb => (fr.km.bo l hl bi hb).2.1
  have nmo : ∀ n ∈ ns, NmOk n := fun n hn => nm_names n (fr.km.sn.subset hn)
  have key2 : ∀ q ∈ tbl, ∃ y, q.1 = Sum.inr y ∧ 1 ≤ y.length ∧ y.length ≤ 4 ∧ PyData.strOk y = true := fun q hq => by
    obtain ⟨y, e, y1, y4, yl⟩ := keyL q hq
    exact ⟨y, e, y1, y4, mk_ok (ks := y.cps.toList) (letters_isL yl)⟩
  refine ⟨_, rfl, _, rfl, _, rfl, (by decide : 3 ≤ sizeLine), fun pr hpr => ?_⟩
  have fr1 := fr.ge (Ge.new (o := .tup [.ref m, .ref s, v]) hpr)
  refine ⟨.ref pr, .tuple [d, .tuple (bs.map PyData.bool), dv], rfl, rp _ pr fr1 upd_same, q1, Nat.le_trans q3 (by decide), Nat.le_trans q2 (by decide), ?_⟩
  refine ⟨_, _, rfl, ?_⟩
  generalize upd H14 pr (.tup [.ref m, .ref s, v]) = H15 at *
  generalize eSeen : (PyData.tuple [d, .tuple (bs.map PyData.bool), dv]).shown = seen at *
  dsimp only []
  refine ⟨fun σ H' => FrC K T Pt p cc (2600 * k + 2000 + 170 * j + 4 + 20 * i + 20) m t o cd ly fl ns bss wt cks eks d s bs tb tbl v dv H' ∧ ∃ y13 y14 y15, σ = [some (.ref a), some (.ref p), some (.int (0 + (k : Int))), some (.ref m), some (.int (0 + (j : Int))), some (.ref s), some (.ref tb), z7, some (.str held), some (.int (0 + (i : Int))), some v, some (.str seen), some (.bl (splC (cmdOf (factsK fl bs) bss) held.cps.toList dv)), y13, y14, y15], ?_, ?_⟩
  · cases ety : isTy "tuple" dv with
    | false =>
      have eF : splC (cmdOf (factsK fl bs) bss) held.cps.toList dv = false := spl_no fun a b e _ _ => by
        rw [e] at ety
        simp [isTy, tyName] at ety
      rw [eF]
      refine rd_tIsi rfl fr1.da ⟨_, rfl, ?_⟩
      rw [ety]
      exact iteF (iteF ⟨fr1, _, _, _, rfl⟩)
    | true =>
    obtain ⟨ds, rfl⟩ : ∃ ds, dv = .tuple ds := by
      cases dv with
      | tuple ds => exact ⟨ds, rfl⟩
      | _ => first | exact absurd ety (by decide) | (simp [isTy, tyName] at ety)
    obtain ⟨sm1, sm2⟩ := small_tup (wg_small _ (Nat.le_trans good.w (by decide)))
    obtain ⟨pv, xs, rfl, hpv, hds⟩ : ∃ pv xs, v = .ref pv ∧ Rd H15 pv (.tup xs) ∧ DaAll K H15 xs ds := by
      have z := fr1.da
      cases z with
      | tup h1 h2 => exact ⟨_, _, rfl, h1, h2⟩
    have ll := daAll_len hds
    refine rd_tIsi rfl fr1.da ⟨_, rfl, ?_⟩
    refine iteT ⟨_, rfl, pv, xs, rfl, Or.inr (Or.inl hpv), rfl, _, rfl, ?_⟩
    by_cases l2 : ds.length = 2
    case neg =>
      have eF : splC (cmdOf (factsK fl bs) bss) held.cps.toList (.tuple ds) = false := spl_no fun a b e _ _ => l2 (by injection e with e; rw [e]; rfl)
      rw [eF, decide_eq_false (show ¬ V.int ((xs.length : Nat) : Int) = V.int 2 from fun z => by have := V.int.inj z; omega)]
      exact iteF (iteF ⟨fr1, _, _, _, rfl⟩)
    case pos =>
    rw [decide_eq_true (show V.int ((xs.length : Nat) : Int) = V.int 2 by rw [← ll, l2]; rfl)]
    refine iteT ?_
    refine ⟨_, rfl, pv, rfl, ⟨_, Or.inl hpv⟩, fun D9 hD9 => ?_⟩
    refine lc_tup (K := K) (xs := xs) (fun i H' => i ≤ xs.length ∧ Ge H15 H' ∧ H' D9 = some (.lst ((ds.take i).map fun d => V.bl (futD d))))
      ⟨Nat.zero_le _, Ge.new hD9, upd_same⟩ (fun i H' _ z => Or.inl (z.2.1.rd (fun ps z => by cases z) hpv)) ?_ ?_
    · rintro i9 x H17 hx ⟨_, g17, h17⟩
      have hi9 : i9 < xs.length := (List.getElem?_eq_some_iff.mp hx).1
      obtain ⟨dx, edx, hdx⟩ := daAll_get hds hx
      refine ⟨rfl, ?_⟩
      simp only [tYes, if_true]
      refine ⟨_, rfl, x, dx, rfl, g17.da hdx, small_at sm2 (List.mem_of_getElem? edx), fun H18 g18 => ⟨_, g18.1 D9 _ h17 (fun ps z => by cases z), by rw [List.length_map, List.length_take]; exact Nat.lt_of_le_of_lt (show _ ≤ 1000 by omega) (by decide), hi9, Ge.upd (g17.trans g18) hD9, ?_⟩⟩
      rw [upd_same, List.take_succ, edx, List.map_append]
      rfl
    rintro H17 ⟨_, g17, h17⟩
    obtain ⟨d1, d2, rfl⟩ := two_of l2
    rw [← ll, List.take_length] at h17
    refine ⟨(by decide : 1 ≤ sizeLine), fun l9 hl9 => ?_⟩
    have n9 := Ge.new (o := .lst [.bl true]) hl9
    refine ⟨l9, 2, [.bl true], rfl, rfl, upd_same, by decide, by decide, by decide, fun r9 hr9 => ?_⟩
    have n10 := Ge.new (o := .lst (List.replicate (2 : Int).toNat [V.bl true]).flatten) hr9
    have g19 := (g17.trans n9).trans n10
    have h19 := n10.1 D9 _ (n9.1 D9 _ h17 (fun ps z => by cases z)) (fun ps z => by cases z)
    have sh : ∀ a b : Bool, SeqAt.shaped (.list [.bool a, .bool b]) = true := by decide +kernel
    have ev2 : ∀ a b : Bool, PyData.eqv (.list [.bool a, .bool b]) (.list [.bool true, .bool true]) = (a && b) := by
      intro a b
      cases a <;> cases b <;> rfl
    refine ⟨.list [.bool (futD d1), .bool (futD d2)], .list [.bool true, .bool true], .lst (SqL.of h19) (.cons (.bl _) (.cons (.bl _) .nil)), .lst (SqL.of upd_same) (.cons (.bl _) (.cons (.bl _) .nil)), sh _ _, sh _ _, _, rfl, ?_⟩
    rw [ev2]
    have frX := fr1.ge g19
    have hpvX := g19.rd (fun ps z => by cases z) hpv
    generalize upd (upd H17 l9 (.lst [.bl true])) r9 (.lst (List.replicate (2 : Int).toNat [V.bl true]).flatten) = HX at *
    cases e12 : futD d1 && futD d2 with
    | false =>
      have eF : splC (cmdOf (factsK fl bs) bss) held.cps.toList (.tuple [d1, d2]) = false := spl_no fun a b e f1 f2 => by
        injection e with e
        injection e with ea eb
        injection eb with eb
        rw [ea, eb, f1, f2] at e12
        cases e12
      rw [eF]
      exact iteF ⟨frX, _, _, _, rfl⟩
    | true =>
    rw [Bool.and_eq_true] at e12
    obtain ⟨f1, f2⟩ := e12
    obtain ⟨ra, rfl, l1a, la0⟩ := fut_str f1
    obtain ⟨rb, rfl, l1b, lb0⟩ := fut_str f2
    have eT : splC (cmdOf (factsK fl bs) bss) held.cps.toList (.tuple [.str (mkS ra), .str (mkS rb)]) = !decide (firstEv (cmdOf (factsK fl bs) bss) (held.cps.toList ++ ra) = firstEv (cmdOf (factsK fl bs) bss) (held.cps.toList ++ rb)) := by
      show (futD (.str (mkS ra)) && futD (.str (mkS rb)) && _) = _
      rw [f1, f2]
      rfl
    rw [eT]
    cases hds with
    | cons h1 h2 =>
    cases h2 with
    | cons h2 h3 =>
    cases h1
    cases h2
    cases h3
    have rla : (mkS ra).length = ra.length := mkS_len ra
    have rlb : (mkS rb).length = rb.length := mkS_len rb
    have ha0 : held.cps.toList ++ ra ≠ [] := fun z => hk0 (List.append_eq_nil_iff.mp z).1
    have hb0 : held.cps.toList ++ rb ≠ [] := fun z => hk0 (List.append_eq_nil_iff.mp z).1
    have e1 : held ++ mkS ra = mkS (held.cps.toList ++ ra) := mkS_app2 held.cps.toList ra
    have e2 : held ++ mkS rb = mkS (held.cps.toList ++ rb) := mkS_app2 held.cps.toList rb
    have ok1 := first_evok cn (ks := held.cps.toList ++ ra) (fun c hc => (List.mem_append.mp hc).elim (hlc c) (la0 c)) ha0 (F := factsK fl bs)
    have ok2 := first_evok cn (ks := held.cps.toList ++ rb) (fun c hc => (List.mem_append.mp hc).elim (hlc c) (lb0 c)) hb0 (F := factsK fl bs)
    refine iteT ⟨_, rfl, _, rfl, _, rfl, pv, _, _, _, rfl, rfl, Or.inl hpvX, atI_nat (j := 0) rfl, _, _, rfl, rfl, smallN _ (show held.length + (mkS ra).length ≤ 10000 by omega), ?_⟩
    rw [e1]
    refine ⟨tb, tbl, cmdOf (factsK fl bs) bss, held.cps.toList ++ ra, rfl, frX.ht, by omega, key2, hC, ha0, by rw [List.length_append]; omega, frX.lm, fun HC a1 gC hLC ha1 => ?_⟩
    have frC := frX.ev gC hLC
    have hpvC : Rd HC pv (.tup [.str (mkS ra), .str (mkS rb)]) := hpvX.elim (fun e => Or.inl (gC.1 pv _ (frX.lm.ne e fun f z => by cases z) e (fun ps z => by cases z))) fun ⟨u, e⟩ => Or.inr ⟨u, gC.1 pv _ (frX.lm.ne e fun f z => by cases z) e (fun ps z => by cases z)⟩
    refine ⟨_, rfl, _, rfl, _, rfl, pv, _, _, _, rfl, rfl, Or.inl hpvC, atI_nat (j := 1) rfl, _, _, rfl, rfl, smallN _ (show held.length + (mkS rb).length ≤ 10000 by omega), ?_⟩
    rw [e2]
    refine ⟨tb, tbl, cmdOf (factsK fl bs) bss, held.cps.toList ++ rb, rfl, frC.ht, by omega, key2, hC, hb0, by rw [List.length_append]; omega, frC.lm, fun HE a2 gE hLE ha2 => ?_⟩
    have ha1E := gE.1 a1 _ (hLC.ne ha1 fun f z => by cases z) ha1 (fun ps z => by cases z)
    refine ⟨(firstEv (cmdOf (factsK fl bs) bss) (held.cps.toList ++ ra)).d, (firstEv (cmdOf (factsK fl bs) bss) (held.cps.toList ++ rb)).d, ev_dp ⟨a1, rfl, ha1E⟩, ev_dp ⟨a2, rfl, ha2⟩, sh_ev1 ok1 nmo, sh_ev1 ok2 nmo, ?_⟩
    rw [eqv_ev2]
    exact ⟨frC.ev gE hLE, _, _, _, rfl⟩
  · rintro σ H16 ⟨fr2, y13, y14, y15, rfl⟩
    refine ⟨_, rfl, _, rfl, _, rfl, _, rfl, m, t, o, cd, ly, s, fl, bss, bs, wt, cks, v, dv, ns, held.cps.toList, rfl, fr2.km.ks fr2.hs hbl fr2.tab, by have := fr2.km.n16; omega, cmk, cn, nmo, hlc, word3 ⟨hd1, hd3, hdl⟩, hk0, by omega, fr2.da, wg_small _ (Nat.le_trans good.w (by decide)), fun H17 g17 => ?_⟩
    dsimp only [gName]
    have fr3 := fr2.ge g17
    refine ⟨_, rfl, _, rfl, _, _, rfl, Or.inl ⟨_, rfl, rfl⟩, fun H18 g18 => ⟨_, rfl, ?_⟩⟩
    have fr4 := fr3.ge g18
    refine iteF ⟨_, rfl, _, rfl, _, rfl, (by decide : 3 ≤ sizeLine), fun q9 hq9 => ?_⟩
    have fr5 := fr4.ge (Ge.new (o := .tup [.ref m, .ref s, v]) hq9)
    refine ⟨.ref q9, .tuple [d, .tuple (bs.map PyData.bool), dv], rfl, rp _ q9 fr5 upd_same, q1, Nat.le_trans q3 (by decide), by rw [eSeen]; exact Nat.le_trans q2 (by decide), ?_⟩
    rw [eSeen]
    refine ⟨_, rfl, rfl, ?_⟩
    rw [decide_eq_true (rfl : V.str seen = V.str seen)]
    exact ⟨_, rfl, iteF ⟨by omega, fr5.tab, fr5.lm, fr5.pn.mono (by omega), fr5.km, fr5.fz, fr5.hs, fr5.ht, _, _, _, _, _, _, _, _, rfl⟩⟩
end
end Pr
set_option maxRecDepth 100000
set_option maxHeartbeats 2000000
/-! law k21, its one table taken over; tables that are told with their address -/
namespace Pr
open PySem PySem.Spec PyProof.Rows L2 GxR Gx Rp Dl Pd Tx Zq Zs Zl
theorem tab_told2 {fa : List He.Fa} {fn : List He.DefD} {ts : List He.Tab} {tf : List He.Defn} {ex : PySem.W.Frag → Bool} {w : World} {h : Heap} {K : PySem.W.Frag} (X : K.In h) (S : He.SaysX fa fn ts tf ex w h K) {p : He.Defn} (hp : p ∈ tf) {c : Addr} (e : He.codeOf K p = c) : TbX K h c (He.cT K p).2 := by
  refine ⟨S.empty p hp, S.out p hp, ?_⟩
  have z := PySem.W.codeHd_of_K X (S.hd p hp)
  rw [← e]
  exact z
section
variable {P : Program} {w : World} {K : PySem.W.Frag} {mg : Str → Option Value} {base : Heap} {T : List Addr}
def spLawX (K : PySem.W.Frag) (T : List Addr) (Pt : Addr) : Sp := fun vs H Q _ => ∃ (a : Addr) (ns : List Int), vs = [.ref a] ∧ SqL K H a (ns.map V.int) ∧ ns.length ≤ 63 ∧ Tb T H ∧ Pt ∉ T ∧ H Pt = some (.tbl #[]) ∧ ∀ H', Q (.bl true) H'
theorem sql_upd {H : Hp} {a Pt : Addr} {o : HO} {xs : List V} (h : SqL K H a xs) (hP : H Pt = some (.tbl #[])) : SqL K (upd H Pt o) a xs := by
  rcases h with (h | ⟨u, h⟩) | h
  · exact Or.inl (Or.inl (by rw [upd_ne (fun z => by rw [z, hP] at h; cases h)]; exact h))
  · exact Or.inl (Or.inr ⟨u, by rw [upd_ne (fun z => by rw [z, hP] at h; cases h)]; exact h⟩)
  · exact Or.inr h
theorem ok_law {f c Pt : Addr} {fd : FuncData} (F : FunC K "law" s_law f fd c) (B : Bn mg) (Do : DfP P w K mg base 1 "_law_open" ["_law_script"] (spOpen K)) (Dm : DfP P w K mg base 5 "_law_draw_map" ["_law_pen", "_law_most"] spDMp) (Ds : DfP P w K mg base 3 "_law_draw_state" ["_law_pen", "_law_keymap"] spState) (Dt : DfP P w K mg base 3 "_law_table" ["_law_keymap", "_law_state"] (spTblC K T)) (Dp : DfP P w K mg base 3 "_law_one_of" ["_law_pen", "_law_some"] spPick) (Dv : DfP P w K mg base 6 "_law_draw_value" ["_law_pen", "_law_table_here", "_law_held"] (spDVa K)) (Di : DfP P w K mg base 1 "_law_is_more" ["_law_value"] (spMore K)) (De : DfP P w K mg base 2 "_law_event" ["_law_table_here", "_law_keys"] (spEvS Pt)) (Dx : DfP P w K mg base 11 "is_split" ["keymap", "state", "held", "thing"] (spSplA K T)) (Dq : DfP P w K mg base 2 "_law_same" ["_law_found", "_law_due"] (spSame 1)) : Lw.FnG P w K mg base CX0 12 f fd ["_law_script"] (spLawX K T Pt) :=
  fng_swap Pt (ok_lawC F B Do Dm Ds Dt Dp Dv Di De Dx Dq) (fun vs H Q E ⟨_, _, h, _⟩ => by rw [h]; rfl) fun vs H Q E ⟨a, ns, e, hs, hl, hT, hn, hP, q⟩ =>
    ⟨hP, a, ns, e, sql_upd hs hP, hl, fun P2 hp => by
      have ne : P2 ≠ Pt := fun z => hn (by rw [← z]; exact hp)
      obtain ⟨ps, e1, e2⟩ := hT P2 hp
      exact ⟨ps, by rw [upd_ne ne]; exact e1, e2⟩, ⟨#[], upd_same, by simp [TriplesOk], fun pos cv e => by simp [PySem.codeAmong] at e⟩, fun H' ⟨ps, h1, _⟩ => ⟨ps, h1, q _⟩⟩
end
end Pr
set_option maxRecDepth 100000
set_option maxHeartbeats 4000000
namespace Pr
open PySem PySem.Spec PyProof.Rows L2 GxR Gx Rp Dl Pd Tx HX
theorem law_end {l : PySem.W.OpenLaw} {w : World} {K : PySem.W.Frag} {h : Heap} {mg : Str → Option Value} {fa0 : Addr} (X : K.In h) (G : h.Ns mainGlobals mg) (hfa : mg "law" = some (.ref fa0)) (S : He.SaysX fa fn [] tf exf w h K) :
    Lw.LawAtG l w K CX0 12 63 "_law_script" mg fa0 h := by
  have SD := S.t.d
  obtain ⟨fd0, q0⟩ := SD.def_ 0 (d := dd0) rfl
  obtain ⟨g0, D0, e0⟩ := def_told (st := s_is_boolean) (SD.fact 0 (f := .glo "is_boolean") rfl) q0
  clear q0
  clear e0
  obtain ⟨fd1, q1⟩ := SD.def_ 1 (d := dd1) rfl
  obtain ⟨g1, D1, e1⟩ := def_told (st := s_is_integer) (SD.fact 1 (f := .glo "is_integer") rfl) q1
  clear q1
  clear e1
  obtain ⟨fd2, q2⟩ := SD.def_ 2 (d := dd2) rfl
  obtain ⟨g2, D2, e2⟩ := def_told (st := s_is_word) (SD.fact 2 (f := .glo "is_word") rfl) q2
  clear q2
  obtain ⟨P2, T2, hP2⟩ : ∃ P, TbX K h g2 P ∧ (He.cT K ("is_word", none)).2 = P := ⟨_, tab_told2 X S (p := ("is_word", none)) (List.mem_of_getElem? (i := 0) rfl) e2, rfl⟩
  clear e2
  obtain ⟨fd3, q3⟩ := SD.def_ 3 (d := dd3) rfl
  obtain ⟨g3, D3, e3⟩ := def_told (st := s_is_name) (SD.fact 3 (f := .glo "is_name") rfl) q3
  clear q3
  clear e3
  obtain ⟨fd4, q4⟩ := SD.def_ 4 (d := dd4) rfl
  obtain ⟨g4, D4, e4⟩ := def_told (st := s_is_keys) (SD.fact 4 (f := .glo "is_keys") rfl) q4
  clear q4
  clear e4
  obtain ⟨fd5, q5⟩ := SD.def_ 5 (d := dd5) rfl
  obtain ⟨g5, D5, e5⟩ := def_told (st := s_is_within) (SD.fact 5 (f := .glo "is_within") rfl) q5
  clear q5
  clear e5
  obtain ⟨fd6, q6⟩ := SD.def_ 6 (d := dd6) rfl
  obtain ⟨g6, D6, e6⟩ := def_told (st := s_is_ascending) (SD.fact 6 (f := .glo "is_ascending") rfl) q6
  clear q6
  clear e6
  obtain ⟨fd7, q7⟩ := SD.def_ 7 (d := dd7) rfl
  obtain ⟨g7, D7, e7⟩ := def_told (st := s_are_names) (SD.fact 7 (f := .glo "are_names") rfl) q7
  clear q7
  obtain ⟨P7, T7, hP7⟩ : ∃ P, TbX K h g7 P ∧ (He.cT K ("are_names", none)).2 = P := ⟨_, tab_told2 X S (p := ("are_names", none)) (List.mem_of_getElem? (i := 1) rfl) e7, rfl⟩
  clear e7
  obtain ⟨fd8, q8⟩ := SD.def_ 8 (d := dd8) rfl
  obtain ⟨g8, D8, e8⟩ := def_told (st := s_are_flags) (SD.fact 8 (f := .glo "are_flags") rfl) q8
  clear q8
  clear e8
  obtain ⟨fd9, q9⟩ := SD.def_ 9 (d := dd9) rfl
  obtain ⟨g9, D9, e9⟩ := def_told (st := s_are_outside) (SD.fact 9 (f := .glo "are_outside") rfl) q9
  clear q9
  obtain ⟨P9, T9, hP9⟩ : ∃ P, TbX K h g9 P ∧ (He.cT K ("are_outside", none)).2 = P := ⟨_, tab_told2 X S (p := ("are_outside", none)) (List.mem_of_getElem? (i := 2) rfl) e9, rfl⟩
  clear e9
  obtain ⟨fd10, q10⟩ := SD.def_ 10 (d := dd10) rfl
  obtain ⟨g10, D10, e10⟩ := def_told (st := s_are_settings) (SD.fact 10 (f := .glo "are_settings") rfl) q10
  clear q10
  obtain ⟨P10, T10, hP10⟩ : ∃ P, TbX K h g10 P ∧ (He.cT K ("are_settings", none)).2 = P := ⟨_, tab_told2 X S (p := ("are_settings", none)) (List.mem_of_getElem? (i := 3) rfl) e10, rfl⟩
  clear e10
  obtain ⟨fd11, q11⟩ := SD.def_ 11 (d := dd11) rfl
  obtain ⟨g11, D11, e11⟩ := def_told (st := s_are_commands) (SD.fact 11 (f := .glo "are_commands") rfl) q11
  clear q11
  obtain ⟨P11, T11, hP11⟩ : ∃ P, TbX K h g11 P ∧ (He.cT K ("are_commands", none)).2 = P := ⟨_, tab_told2 X S (p := ("are_commands", none)) (List.mem_of_getElem? (i := 4) rfl) e11, rfl⟩
  clear e11
  obtain ⟨fd12, q12⟩ := SD.def_ 12 (d := dd12) rfl
  obtain ⟨g12, D12, e12⟩ := def_told (st := s_is_binding) (SD.fact 12 (f := .glo "is_binding") rfl) q12
  clear q12
  clear e12
  obtain ⟨fd13, q13⟩ := SD.def_ 13 (d := dd13) rfl
  obtain ⟨g13, D13, e13⟩ := def_told (st := s_are_layers) (SD.fact 13 (f := .glo "are_layers") rfl) q13
  clear q13
  obtain ⟨P13, T13, hP13⟩ : ∃ P, TbX K h g13 P ∧ (He.cT K ("are_layers", none)).2 = P := ⟨_, tab_told2 X S (p := ("are_layers", none)) (List.mem_of_getElem? (i := 5) rfl) e13, rfl⟩
  clear e13
  obtain ⟨fd14, q14⟩ := SD.def_ 14 (d := dd14) rfl
  obtain ⟨g14, D14, e14⟩ := def_told (st := s_is_map) (SD.fact 14 (f := .glo "is_map") rfl) q14
  clear q14
  clear e14
  obtain ⟨fd15, q15⟩ := SD.def_ 15 (d := dd15) rfl
  obtain ⟨g15, D15, e15⟩ := def_told (st := s_check_map) (SD.fact 15 (f := .glo "check_map") rfl) q15
  clear q15
  clear e15
  obtain ⟨fd16, q16⟩ := SD.def_ 16 (d := dd16) rfl
  obtain ⟨g16, D16, e16⟩ := def_told (st := s_fits_state) (SD.fact 16 (f := .glo "fits_state") rfl) q16
  clear q16
  obtain ⟨P16, T16, hP16⟩ : ∃ P, TbX K h g16 P ∧ (He.cT K ("fits_state", none)).2 = P := ⟨_, tab_told2 X S (p := ("fits_state", none)) (List.mem_of_getElem? (i := 6) rfl) e16, rfl⟩
  clear e16
  obtain ⟨fd17, q17⟩ := SD.def_ 17 (d := dd17) rfl
  obtain ⟨g17, D17, e17⟩ := def_told (st := s_check_state) (SD.fact 17 (f := .glo "check_state") rfl) q17
  clear q17
  clear e17
  obtain ⟨fd18, q18⟩ := SD.def_ 18 (d := dd18) rfl
  obtain ⟨g18, D18, e18⟩ := def_told (st := s_facts_of) (SD.fact 18 (f := .glo "facts_of") rfl) q18
  clear q18
  clear e18
  obtain ⟨fd19, q19⟩ := SD.def_ 19 (d := dd19) rfl
  obtain ⟨g19, D19, e19⟩ := def_told (st := s_holds) (SD.fact 19 (f := .glo "holds") rfl) q19
  clear q19
  obtain ⟨P19, T19, hP19⟩ : ∃ P, TbX K h g19 P ∧ (He.cT K ("holds", none)).2 = P := ⟨_, tab_told2 X S (p := ("holds", none)) (List.mem_of_getElem? (i := 7) rfl) e19, rfl⟩
  clear e19
  obtain ⟨fd20, q20⟩ := SD.def_ 20 (d := dd20) rfl
  obtain ⟨g20, D20, e20⟩ := def_told (st := s_bound_in) (SD.fact 20 (f := .glo "bound_in") rfl) q20
  clear q20
  clear e20
  obtain ⟨fd21, q21⟩ := SD.def_ 21 (d := dd21) rfl
  obtain ⟨g21, D21, e21⟩ := def_told (st := s_check_held) (SD.fact 21 (f := .glo "check_held") rfl) q21
  clear q21
  clear e21
  obtain ⟨fd22, q22⟩ := SD.def_ 22 (d := dd22) rfl
  obtain ⟨g22, D22, e22⟩ := def_told (st := s_is_future) (SD.fact 22 (f := .glo "is_future") rfl) q22
  clear q22
  clear e22
  obtain ⟨fd23, q23⟩ := SD.def_ 23 (d := dd23) rfl
  obtain ⟨g23, D23, e23⟩ := def_told (st := s_first_event) (SD.fact 23 (f := .glo "first_event") rfl) q23
  clear q23
  clear e23
  obtain ⟨fd24, q24⟩ := SD.def_ 24 (d := dd24) rfl
  obtain ⟨g24, D24, e24⟩ := def_told (st := s_is_split) (SD.fact 24 (f := .glo "is_split") rfl) q24
  clear q24
  obtain ⟨P24, T24, hP24⟩ : ∃ P, TbX K h g24 P ∧ (He.cT K ("is_split", none)).2 = P := ⟨_, tab_told2 X S (p := ("is_split", none)) (List.mem_of_getElem? (i := 8) rfl) e24, rfl⟩
  clear e24
  obtain ⟨fd25, q25⟩ := SD.def_ 25 (d := dd25) rfl
  obtain ⟨g25, D25, e25⟩ := def_told (st := s_law_spread) (SD.fact 25 (f := .glo "_law_spread") rfl) q25
  clear q25
  clear e25
  obtain ⟨fd26, q26⟩ := SD.def_ 26 (d := dd26) rfl
  obtain ⟨g26, D26, e26⟩ := def_told (st := s_law_open) (SD.fact 26 (f := .glo "_law_open") rfl) q26
  clear q26
  clear e26
  obtain ⟨fd27, q27⟩ := SD.def_ 27 (d := dd27) rfl
  obtain ⟨g27, D27, e27⟩ := def_told (st := s_law_take) (SD.fact 27 (f := .glo "_law_take") rfl) q27
  clear q27
  clear e27
  obtain ⟨fd28, q28⟩ := SD.def_ 28 (d := dd28) rfl
  obtain ⟨g28, D28, e28⟩ := def_told (st := s_law_one_of) (SD.fact 28 (f := .glo "_law_one_of") rfl) q28
  clear q28
  clear e28
  obtain ⟨fd29, q29⟩ := SD.def_ 29 (d := dd29) rfl
  obtain ⟨g29, D29, e29⟩ := def_told (st := s_law_draw_condition) (SD.fact 29 (f := .glo "_law_draw_condition") rfl) q29
  clear q29
  clear e29
  obtain ⟨fd30, q30⟩ := SD.def_ 30 (d := dd30) rfl
  obtain ⟨g30, D30, e30⟩ := def_told (st := s_law_draw_keys) (SD.fact 30 (f := .glo "_law_draw_keys") rfl) q30
  clear q30
  clear e30
  obtain ⟨fd31, q31⟩ := SD.def_ 31 (d := dd31) rfl
  obtain ⟨g31, D31, e31⟩ := def_told (st := s_law_draw_map) (SD.fact 31 (f := .glo "_law_draw_map") rfl) q31
  clear q31
  clear e31
  obtain ⟨fd32, q32⟩ := SD.def_ 32 (d := dd32) rfl
  obtain ⟨g32, D32, e32⟩ := def_told (st := s_law_draw_state) (SD.fact 32 (f := .glo "_law_draw_state") rfl) q32
  clear q32
  clear e32
  obtain ⟨fd33, q33⟩ := SD.def_ 33 (d := dd33) rfl
  obtain ⟨g33, D33, e33⟩ := def_told (st := s_law_holds) (SD.fact 33 (f := .glo "_law_holds") rfl) q33
  clear q33
  clear e33
  obtain ⟨fd34, q34⟩ := SD.def_ 34 (d := dd34) rfl
  obtain ⟨g34, D34, e34⟩ := def_told (st := s_law_winners) (SD.fact 34 (f := .glo "_law_winners") rfl) q34
  clear q34
  clear e34
  obtain ⟨fd35, q35⟩ := SD.def_ 35 (d := dd35) rfl
  obtain ⟨g35, D35, e35⟩ := def_told (st := s_law_table) (SD.fact 35 (f := .glo "_law_table") rfl) q35
  clear q35
  clear e35
  obtain ⟨fd36, q36⟩ := SD.def_ 36 (d := dd36) rfl
  obtain ⟨g36, D36, e36⟩ := def_told (st := s_law_wrong_sign) (SD.fact 36 (f := .glo "_law_wrong_sign") rfl) q36
  clear q36
  clear e36
  obtain ⟨fd37, q37⟩ := SD.def_ 37 (d := dd37) rfl
  obtain ⟨g37, D37, e37⟩ := def_told (st := s_law_spoilt) (SD.fact 37 (f := .glo "_law_spoilt") rfl) q37
  clear q37
  clear e37
  obtain ⟨fd38, q38⟩ := SD.def_ 38 (d := dd38) rfl
  obtain ⟨g38, D38, e38⟩ := def_told (st := s_law_is_more) (SD.fact 38 (f := .glo "_law_is_more") rfl) q38
  clear q38
  clear e38
  obtain ⟨fd39, q39⟩ := SD.def_ 39 (d := dd39) rfl
  obtain ⟨g39, D39, e39⟩ := def_told (st := s_law_draw_more) (SD.fact 39 (f := .glo "_law_draw_more") rfl) q39
  clear q39
  clear e39
  obtain ⟨fd40, q40⟩ := SD.def_ 40 (d := dd40) rfl
  obtain ⟨g40, D40, e40⟩ := def_told (st := s_law_draw_value) (SD.fact 40 (f := .glo "_law_draw_value") rfl) q40
  clear q40
  clear e40
  obtain ⟨fd41, q41⟩ := SD.def_ 41 (d := dd41) rfl
  obtain ⟨g41, D41, e41⟩ := def_told (st := s_law_same) (SD.fact 41 (f := .glo "_law_same") rfl) q41
  clear q41
  clear e41
  obtain ⟨fd42, q42⟩ := SD.def_ 42 (d := dd42) rfl
  obtain ⟨g42, D42, e42⟩ := def_told (st := s_law_event) (SD.fact 42 (f := .glo "_law_event") rfl) q42
  clear q42
  obtain ⟨P42, T42, hP42⟩ : ∃ P, TbX K h g42 P ∧ (He.cT K ("_law_event", none)).2 = P := ⟨_, tab_told2 X S (p := ("_law_event", none)) (List.mem_of_getElem? (i := 9) rfl) e42, rfl⟩
  clear e42
  obtain ⟨fd43, q43⟩ := SD.def_ 43 (d := dd43) rfl
  obtain ⟨g43, D43, e43⟩ := def_told (st := s_law) (SD.fact 43 (f := .glo "law") rfl) q43
  clear q43
  clear e43
  have hfe : fa0 = He.ga K "law" := by
    have z := PySem.W.mg_of X G D43.1
    rw [hfa] at z
    cases z
    rfl
  subst hfe
  obtain ⟨t1, c1⟩ := He.int_ok X G (SD.fact 44 (f := .int "LONGEST_NAME" 8) rfl)
  obtain ⟨t2, c2⟩ := He.int_ok X G (SD.fact 45 (f := .int "MOST_KEYS" 4) rfl)
  obtain ⟨t3, c3⟩ := He.int_ok X G (SD.fact 46 (f := .int "MOST_FLAGS" 3) rfl)
  obtain ⟨t4, c4⟩ := He.int_ok X G (SD.fact 47 (f := .int "MOST_COMMANDS" 8) rfl)
  obtain ⟨t5, c5⟩ := He.int_ok X G (SD.fact 48 (f := .int "MOST_LAYERS" 4) rfl)
  obtain ⟨t6, c6⟩ := He.int_ok X G (SD.fact 49 (f := .int "MOST_BINDINGS" 16) rfl)
  obtain ⟨t7, c7⟩ := He.int_ok X G (SD.fact 50 (f := .int "LONGEST_WAIT" 1000) rfl)
  obtain ⟨t8, c8⟩ := He.int_ok X G (SD.fact 51 (f := .int "MOST_HELD" 3) rfl)
  have b0 := He.free_ok X G (SD.fact 52 (f := .free "isinstance") rfl)
  have b1 := He.free_ok X G (SD.fact 53 (f := .free "len") rfl)
  have b2 := He.free_ok X G (SD.fact 54 (f := .free "all") rfl)
  have b3 := He.free_ok X G (SD.fact 55 (f := .free "sum") rfl)
  have b4 := He.free_ok X G (SD.fact 56 (f := .free "zip") rfl)
  have b5 := He.free_ok X G (SD.fact 57 (f := .free "range") rfl)
  have b6 := He.free_ok X G (SD.fact 58 (f := .free "repr") rfl)
  have b7 := He.free_ok X G (SD.fact 59 (f := .free "enumerate") rfl)
  have b8 := He.free_ok X G (SD.fact 60 (f := .free "tuple") rfl)
  have b9 := He.free_ok X G (SD.fact 61 (f := .free "list") rfl)
  have b10 := He.free_ok X G (SD.fact 62 (f := .free "dict") rfl)
  have b11 := He.free_ok X G (SD.fact 63 (f := .free "str") rfl)
  have b12 := He.free_ok X G (SD.fact 64 (f := .free "int") rfl)
  have b13 := He.free_ok X G (SD.fact 65 (f := .free "bool") rfl)
  have b14 := He.free_ok X G (SD.fact 66 (f := .free "sorted") rfl)
  have b15 := He.free_ok X G (SD.fact 67 (f := .free "min") rfl)
  have B : Bn mg := ⟨b0, b1, b2, b3, b4, b5, b6, b7, b8, b9, b10, b11, b12, b13⟩
  let cs : List (Addr × Addr) := [(g2, P2), (g7, P7), (g9, P9), (g10, P10), (g11, P11), (g13, P13), (g16, P16), (g19, P19), (g24, P24)]
  let csA : List (Addr × Addr) := (g42, P42) :: cs
  have alls : ∀ R : Addr × Addr → Prop, R (g42, P42) → R (g2, P2) → R (g7, P7) → R (g9, P9) → R (g10, P10) → R (g11, P11) → R (g13, P13) → R (g16, P16) → R (g19, P19) → R (g24, P24) → ∀ p ∈ csA, R p := fun R r42 r2 r7 r9 r10 r11 r13 r16 r19 r24 p hp => by
    have hp' : p = (g42, P42) ∨ p = (g2, P2) ∨ p = (g7, P7) ∨ p = (g9, P9) ∨ p = (g10, P10) ∨ p = (g11, P11) ∨ p = (g13, P13) ∨ p = (g16, P16) ∨ p = (g19, P19) ∨ p = (g24, P24) := by simpa [cs, csA] using hp
    rcases hp' with rfl | rfl | rfl | rfl | rfl | rfl | rfl | rfl | rfl | rfl <;> assumption
  have alls2 : ∀ R : Addr × Addr → Prop, R (g2, P2) → R (g7, P7) → R (g9, P9) → R (g10, P10) → R (g11, P11) → R (g13, P13) → R (g16, P16) → R (g19, P19) → R (g24, P24) → ∀ p ∈ cs, R p := fun R r2 r7 r9 r10 r11 r13 r16 r19 r24 p hp => by
    have hp' : p = (g2, P2) ∨ p = (g7, P7) ∨ p = (g9, P9) ∨ p = (g10, P10) ∨ p = (g11, P11) ∨ p = (g13, P13) ∨ p = (g16, P16) ∨ p = (g19, P19) ∨ p = (g24, P24) := by simpa [cs] using hp
    rcases hp' with rfl | rfl | rfl | rfl | rfl | rfl | rfl | rfl | rfl <;> assumption
  have dis := fun p hp => of_decide_eq_true (List.all_eq_true.mp S.more p hp)
  have n2 : P2 ≠ P42 := by
    rw [← hP2, ← hP42]
    exact dis _ (List.mem_of_getElem? (i := 0) rfl)
  have n7 : P7 ≠ P42 := by
    rw [← hP7, ← hP42]
    exact dis _ (List.mem_of_getElem? (i := 1) rfl)
  have n9 : P9 ≠ P42 := by
    rw [← hP9, ← hP42]
    exact dis _ (List.mem_of_getElem? (i := 2) rfl)
  have n10 : P10 ≠ P42 := by
    rw [← hP10, ← hP42]
    exact dis _ (List.mem_of_getElem? (i := 3) rfl)
  have n11 : P11 ≠ P42 := by
    rw [← hP11, ← hP42]
    exact dis _ (List.mem_of_getElem? (i := 4) rfl)
  have n13 : P13 ≠ P42 := by
    rw [← hP13, ← hP42]
    exact dis _ (List.mem_of_getElem? (i := 5) rfl)
  have n16 : P16 ≠ P42 := by
    rw [← hP16, ← hP42]
    exact dis _ (List.mem_of_getElem? (i := 6) rfl)
  have n19 : P19 ≠ P42 := by
    rw [← hP19, ← hP42]
    exact dis _ (List.mem_of_getElem? (i := 7) rfl)
  have n24 : P24 ≠ P42 := by
    rw [← hP24, ← hP42]
    exact dis _ (List.mem_of_getElem? (i := 8) rfl)
  refine ⟨fd43, csA, spLawX K (cs.map (·.2)) P42, alls (fun p => h.get? p.2 = some { cls := .none, data := .fields #[] }) T42.e T2.e T7.e T9.e T10.e T11.e T13.e T16.e T19.e T24.e, alls (fun p => K.lookup p.2 = none) T42.n T2.n T7.n T9.n T10.n T11.n T13.n T16.n T19.n T24.n,
    alls (fun p => PySem.W.CodeHd h p.1 p.2) T42.hd T2.hd T7.hd T9.hd T10.hd T11.hd T13.hd T16.hd T19.hd T24.hd, ?_, fun H a ns hl _ hT hS => ⟨a, ns, rfl, hS, hl, fun Pt hPt => ?_, fun z => ?_, hT (g42, P42) List.mem_cons_self, fun _ => rfl⟩, fun base Xb Gb TB => ?_⟩
  · obtain ⟨_, ⟨oc, od, kV, doc, pm, an, ct, osl, rfl, _⟩, _, _⟩ := D43
    exact fun s u => .of_eq rfl
  · obtain ⟨p, hp, rfl⟩ := List.mem_map.mp hPt
    exact ⟨#[], hT p (List.mem_cons_of_mem _ hp), by simp [TriplesOk]⟩
  · obtain ⟨p, hp, e⟩ := List.mem_map.mp z
    exact alls2 (fun p => p.2 ≠ P42) n2 n7 n9 n10 n11 n13 n16 n19 n24 p hp e
  · have inT : ∀ {c Pt : Addr}, (c, Pt) ∈ cs → Pt ∈ cs.map (·.2) := fun hp => List.mem_map.mpr ⟨_, hp, rfl⟩
    have i2 : (g2, P2) ∈ csA := by simp [csA, cs]
    have u2 : (g2, P2) ∈ cs := by simp [cs]
    have i7 : (g7, P7) ∈ csA := by simp [csA, cs]
    have u7 : (g7, P7) ∈ cs := by simp [cs]
    have i9 : (g9, P9) ∈ csA := by simp [csA, cs]
    have u9 : (g9, P9) ∈ cs := by simp [cs]
    have i10 : (g10, P10) ∈ csA := by simp [csA, cs]
    have u10 : (g10, P10) ∈ cs := by simp [cs]
    have i11 : (g11, P11) ∈ csA := by simp [csA, cs]
    have u11 : (g11, P11) ∈ cs := by simp [cs]
    have i13 : (g13, P13) ∈ csA := by simp [csA, cs]
    have u13 : (g13, P13) ∈ cs := by simp [cs]
    have i16 : (g16, P16) ∈ csA := by simp [csA, cs]
    have u16 : (g16, P16) ∈ cs := by simp [cs]
    have i19 : (g19, P19) ∈ csA := by simp [csA, cs]
    have u19 : (g19, P19) ∈ cs := by simp [cs]
    have i24 : (g24, P24) ∈ csA := by simp [csA, cs]
    have u24 : (g24, P24) ∈ cs := by simp [cs]
    have i42 : (g42, P42) ∈ csA := by simp [csA, cs]
    have xBoo := D0.df X G (base := base) (ok_is_boolean (P := l.prog) (w := w) (base := base) (T := cs.map (·.2)) D0.F B) (fun _ _ _ _ _ _ us hl => match us, hl with | [_], _ => rfl)
    have xInt := D1.df X G (base := base) (ok_is_integer (P := l.prog) (w := w) (base := base) (T := cs.map (·.2)) D1.F B) (fun _ _ _ _ _ _ us hl => match us, hl with | [_], _ => rfl)
    have xWor := D2.df X G (base := base) (ok_is_word (P := l.prog) (w := w) D2.F B (TB _ i2) (inT u2)) (fun _ _ _ _ _ _ us hl => match us, hl with | [_, _], _ => rfl)
    have xNam := D3.df X G (base := base) (ok_is_name (P := l.prog) (w := w) D3.F xWor c1) (fun _ _ _ _ _ _ us hl => match us, hl with | [_], _ => rfl)
    have xKey := D4.df X G (base := base) (ok_is_keys (P := l.prog) (w := w) D4.F xWor c2) (fun _ _ _ _ _ _ us hl => match us, hl with | [_], _ => rfl)
    have xWit := D5.df X G (base := base) (ok_is_within (P := l.prog) (w := w) D5.F xInt) (fun _ _ _ _ _ _ us hl => match us, hl with | [_, _, _], _ => rfl)
    have xAsc := D6.df X G (base := base) (ok_is_ascending (P := l.prog) (w := w) (base := base) D6.F B) (fun _ _ _ _ _ _ us hl => match us, hl with | [_], _ => rfl)
    have xNms := D7.df X G (base := base) (ok_are_names (P := l.prog) (w := w) D7.F B (TB _ i7) (inT u7) xNam xAsc) (fun _ _ _ _ _ _ us hl => match us, hl with | [_], _ => rfl)
    have xFla := D8.df X G (base := base) (ok_are_flags (P := l.prog) (w := w) D8.F B xNms c3) (fun _ _ _ _ _ _ us hl => match us, hl with | [_], _ => rfl)
    have xOut := D9.df X G (base := base) (ok_are_outside (P := l.prog) (w := w) D9.F B (TB _ i9) (inT u9) xNms) (fun _ _ _ _ _ _ us hl => match us, hl with | [_, _], _ => rfl)
    have xSet := D10.df X G (base := base) (ok_are_settings (P := l.prog) (w := w) D10.F B (TB _ i10) (inT u10) xBoo) (fun _ _ _ _ _ _ us hl => match us, hl with | [_, _], _ => rfl)
    have xCom := D11.df X G (base := base) (ok_are_commands (P := l.prog) (w := w) D11.F B (TB _ i11) (inT u11) xNam xSet c4) (fun _ _ _ _ _ _ us hl => match us, hl with | [_, _], _ => rfl)
    have xBin := D12.df X G (base := base) (ok_is_binding (P := l.prog) (w := w) D12.F B xKey xSet xNam) (fun _ _ _ _ _ _ us hl => match us, hl with | [_, _, _], _ => rfl)
    have xLay := D13.df X G (base := base) (ok_are_layers (P := l.prog) (w := w) D13.F B (TB _ i13) (inT u13) xBin c5 c6) (fun _ _ _ _ _ _ us hl => match us, hl with | [_, _, _], _ => rfl)
    have xMap := D14.df X G (base := base) (ok_is_map (P := l.prog) (w := w) D14.F B xFla xOut xCom xLay xWit c7) (fun _ _ _ _ _ _ us hl => match us, hl with | [_], _ => rfl)
    have xChe := D15.df X G (base := base) (ok_check_map (P := l.prog) (w := w) D15.F xMap) (fun _ _ _ _ _ _ us hl => match us, hl with | [_], _ => rfl)
    have xFit := D16.df X G (base := base) (ok_fits_state (P := l.prog) (w := w) D16.F B (TB _ i16) (inT u16) xBoo) (fun _ _ _ _ _ _ us hl => match us, hl with | [_, _], _ => rfl)
    have xChs := D17.df X G (base := base) (ok_check_state (P := l.prog) (w := w) D17.F xChe xFit) (fun _ _ _ _ _ _ us hl => match us, hl with | [_, _], _ => rfl)
    have xFac := D18.df X G (base := base) (ok_facts_of (P := l.prog) (w := w) (base := base) D18.F B) (fun _ _ _ _ _ _ us hl => match us, hl with | [_, _], _ => rfl)
    have xHol := D19.df X G (base := base) (ok_holds (P := l.prog) (w := w) D19.F B (TB _ i19) (inT u19)) (fun _ _ _ _ _ _ us hl => match us, hl with | [_, _], _ => rfl)
    have xBoI := D20.df X G (base := base) (ok_bound_in (P := l.prog) (w := w) D20.F xFac xHol) (fun _ _ _ _ _ _ us hl => match us, hl with | [_, _], _ => rfl)
    have xChH := D21.df X G (base := base) (ok_check_held (P := l.prog) (w := w) D21.F xChs xWor c8) (fun _ _ _ _ _ _ us hl => match us, hl with | [_, _, _], _ => rfl)
    have xIsF := D22.df X G (base := base) (ok_is_futureA (P := l.prog) (w := w) D22.F xWor c2) (fun _ _ _ _ _ _ us hl => match us, hl with | [_], _ => rfl)
    have xFie := D23.df X G (base := base) (ok_first_event (P := l.prog) (w := w) (base := base) D23.F B c2) (fun _ _ _ _ _ _ us hl => match us, hl with | [_, _], _ => rfl)
    have xSpl := D24.df X G (base := base) (ok_is_splitA (P := l.prog) (w := w) D24.F B (TB _ i24) (inT u24) xChH xBoI xIsF xFie) (fun _ _ _ _ _ _ us hl => match us, hl with | [_, _, _, _], _ => rfl)
    have xSpr := D25.df X G (base := base) (ok_law_spread (P := l.prog) (w := w) (base := base) (mg := mg) D25.F) (fun _ _ _ _ _ _ us hl => match us, hl with | [_, _], _ => rfl)
    have xOpe := D26.df X G (base := base) (ok_law_open (P := l.prog) (w := w) (base := base) D26.F B) (fun _ _ _ _ _ _ us hl => match us, hl with | [_], _ => rfl)
    have xTak := D27.df X G (base := base) (ok_law_take (P := l.prog) (w := w) D27.F B xSpr) (fun _ _ _ _ _ _ us hl => match us, hl with | [_, _], _ => rfl)
    have xOne := D28.df X G (base := base) (ok_law_one_of (P := l.prog) (w := w) D28.F B xTak) (fun _ _ _ _ _ _ us hl => match us, hl with | [_, _], _ => rfl)
    have xDCo := D29.df X G (base := base) (ok_law_draw_condition (P := l.prog) (w := w) D29.F B xTak) (fun _ _ _ _ _ _ us hl => match us, hl with | [_, _], _ => rfl)
    have xDKe := D30.df X G (base := base) (ok_law_draw_keys (P := l.prog) (w := w) D30.F B xOne) (fun _ _ _ _ _ _ us hl => match us, hl with | [_, _], _ => rfl)
    have xDMp := D31.df X G (base := base) (ok_law_draw_map (P := l.prog) (w := w) D31.F B b15 xOne xTak xDCo xDKe) (fun _ _ _ _ _ _ us hl => match us, hl with | [_, _], _ => rfl)
    have xDSt := D32.df X G (base := base) (ok_law_draw_state (P := l.prog) (w := w) D32.F B xTak) (fun _ _ _ _ _ _ us hl => match us, hl with | [_, _], _ => rfl)
    have xHds := D33.df X G (base := base) (ok_law_holds (P := l.prog) (w := w) (base := base) (T := cs.map (·.2)) D33.F) (fun _ _ _ _ _ _ us hl => match us, hl with | [_, _, _], _ => rfl)
    have xWin := D34.df X G (base := base) (ok_law_winners (P := l.prog) (w := w) D34.F B xHds) (fun _ _ _ _ _ _ us hl => match us, hl with | [_, _], _ => rfl)
    have xTbl := D35.df X G (base := base) (ok_law_tableC (P := l.prog) (w := w) D35.F B b14 xWin) (fun _ _ _ _ _ _ us hl => match us, hl with | [_, _], _ => rfl)
    have xWsg := D36.df X G (base := base) (ok_law_wrong_sign (P := l.prog) (w := w) D36.F xOne) (fun _ _ _ _ _ _ us hl => match us, hl with | [_], _ => rfl)
    have xSpo := D37.df X G (base := base) (ok_law_spoilt (P := l.prog) (w := w) D37.F B xTak xWsg) (fun _ _ _ _ _ _ us hl => match us, hl with | [_, _], _ => rfl)
    have xIsM := D38.df X G (base := base) (ok_law_is_more (P := l.prog) (w := w) D38.F B) (fun _ _ _ _ _ _ us hl => match us, hl with | [_], _ => rfl)
    have xDMo := D39.df X G (base := base) (ok_law_draw_more (P := l.prog) (w := w) D39.F B xDKe xOne) (fun _ _ _ _ _ _ us hl => match us, hl with | [_, _, _], _ => rfl)
    have xDVa := D40.df X G (base := base) (ok_law_draw_value (P := l.prog) (w := w) D40.F xDMo xOne xSpo) (fun _ _ _ _ _ _ us hl => match us, hl with | [_, _, _], _ => rfl)
    have xSa0 := D41.df X G (base := base) (same_never (P := l.prog) (w := w) D41.F) (fun _ _ _ _ _ _ us hl => match us, hl with | [_, _], _ => rfl)
    have xSa1 := D41.df X G (base := base) (ok_law_same (P := l.prog) (w := w) D41.F B xSa0) (fun _ _ _ _ _ _ us hl => match us, hl with | [_, _], _ => rfl)
    have xEvt := D42.df X G (base := base) (ok_law_eventS (P := l.prog) (w := w) D42.F B b14 (TB _ i42)) (fun _ _ _ _ _ _ us hl => match us, hl with | [_, _], _ => rfl)
    exact ok_law (P := l.prog) (w := w) D43.F B xOpe xDMp xDSt xTbl xOne xDVa xIsM xEvt xSpl xSa1
end Pr
open PySem PySem.W PySem.Calls PyProof.Rows
set_option maxRecDepth 100000
set_option maxHeartbeats 0
theorem PySem.Challenge.cw_keywait_k22_splits_recognized_holds : PySem.Challenge.rw_keywait_k22_splits_recognized.Holds := by
  w_on; o_law
  refine HandSHeadRun.head_any (r := OpenLaw.row PySem.Challenge.rw_keywait_k22_splits_recognized) (q := view (OpenLaw.row PySem.Challenge.rw_keywait_k22_splits_recognized).prog [61]) (H := HX.hk) (ob := HX.ob) (M := 20000) (loose := HX.names) (d := HandSHeadRun.topDef (OpenLaw.row PySem.Challenge.rw_keywait_k22_splits_recognized).prog 61) (kwd := []) HX.ob_eq
    (by kernel_rfl) (fun s => by kernel_rfl) HX.run (by kernel_rfl) (by kernel_rfl) (by kernel_rfl) (by rfl) (by first | assumption | decide +kernel) (by decide +kernel) ⟨rfl, rfl, rfl, rfl, rfl, by decide +kernel⟩ ?hw ?hc
  case hw => w_witness2
  case hc =>
    refine Pr.walkX (l := PySem.Challenge.rw_keywait_k22_splits_recognized) (n := 63) (k := 12) (x := "_law_script") rfl (by decide) (by kernel_rfl) ⟨rfl, by decide, by decide⟩ ?F
    intro w mg fa h Y G hmg0
    obtain ⟨K, KX, c⟩ := Y
    have hmg : mg ("law" : PySem.Str) = some (.ref fa) := by
      have e : (HandSHeadRun.topDef (OpenLaw.row PySem.Challenge.rw_keywait_k22_splits_recognized).prog 61).name = ("law" : PySem.Str) := by kernel_rfl
      rw [← e]
      exact hmg0
    exact ⟨K, KX, Pr.law_end KX G hmg c⟩
