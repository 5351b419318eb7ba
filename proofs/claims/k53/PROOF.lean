import PyProof.Rows.All
import Wide.All
import OpenK.AllK
import Wide.FinOn
import HandS.ForMost
import HandS.Exc
import HandS.GenCall
import HandS.AnyAll
import HandS.GenList
import HandS.Zip
import HandS.TupAny
import HandS.IsInst
import HandS.Walk
import HandS.EndOwn
import HandS.Style
import PyProof.StrLawsRepr
import PyProof.FitsInt
import KE.KDictZip
import KE.GoesEnum
import HandS.Iter
import HandS.DictComp
import KE.SortData
import HandS.More
import HandS.Deep
import HandS.Dict
import HandS.TupMul
import PyProof.StrBlock2
import KE.DataCmp
import HandS.Flow
import HandS.ExcIs
import HandS.ExcOwn
import HandS.List
import HandS.Text
import HandS.HeadHook4
import HandS.ForExc
import KE.GoesMore
import PyProof.StrOps2
import KE.KStateDown
import HandS.Head0
import HandS.Head1
import HandS.Head2
import HandS.HeadEnd
import HandS.HeadHook1
import HandS.HeadHook2
import HandS.HeadHook3
import HandS.HeadWalk
import PySem.Challenge.RW_keywait_k53_typing_refused
set_option Elab.async false
set_option linter.all false
set_option maxRecDepth 100000
set_option maxHeartbeats 2000000
/-! Generator expressions whose element is any expression of the hand layer, under all, any, sum. -/
namespace Gx
open PySem PySem.Spec PyProof.Rows L2 GenW GxR

abbrev gexp (elt tg iter : Expr) (ifs : List Expr) (scope : Scope) (gpos : Pos) : Expr := .GeneratorExp elt [⟨tg, iter, ifs, 0⟩] scope gpos
/-- the frame of the expression -/
abbrev gcx (X : Cx) (s : Shared) (H : Hp) (scope : Scope) (cl : List (Str × Addr)) (C : Addr) (code : Value) (A' : Around) (fp : List Addr) (pn : List (Addr × Obj)) : Cx :=
  { X with A := A', s_0 := s, H_0 := H, env := genEnv scope cl C code builtinsNs X.env, outer := X.stack, stack := genEnv scope cl C code builtinsNs X.env :: X.stack, ex := fp, fn := fun _ => false, calm := true, pn := pn, xe := fun _ _ => False }

theorem over_cs {A : Around} {elt tg iter : Expr} {ifs : List Expr} {scope : Scope} {gpos : Pos} {it acc : Value} {env : Env} : A.over (.compStart (gexp elt tg iter ifs scope gpos) 0 it acc env) [] = A.deeper env := by
  first
    | rfl
    | (obtain ⟨hd, d, fr, gs, u⟩ := A; simp [Around.over, Around.deeper, marksOver, frameCount, unitsOf, envsOf, guardsOf, pushEnvs, pushGuards, Code.envs, Code.env?, Code.isFrame, Code.guards, Code.isGuard, Code.weight, Code.frames, Code.isCreation, Code.isCaller, Code.cUnits])
theorem over_cl {A : Around} {elt tg iter : Expr} {ifs : List Expr} {scope : Scope} {gpos : Pos} {it acc : Value} {env : Env} : A.over (.compLoop (gexp elt tg iter ifs scope gpos) 0 it acc env) [] = A.deeper env := by
  first
    | rfl
    | (obtain ⟨hd, d, fr, gs, u⟩ := A; simp [Around.over, Around.deeper, marksOver, frameCount, unitsOf, envsOf, guardsOf, pushEnvs, pushGuards, Code.envs, Code.env?, Code.isFrame, Code.guards, Code.isGuard, Code.weight, Code.frames, Code.isCreation, Code.isCaller, Code.cUnits])

section
variable {X : Cx} {pins : List (Addr × Obj)} {σ : L2.St} {H : Hp} {s : Shared}
/-- what a captured name's cell is -/
theorem clo_at {scope : Scope} {own : List (Str × Nat)} (I : Inv X pins σ H s) (ok : BlkOk X.N X.env.scope scope own) {y : Str} {c : Addr} (hm : (y, c) ∈ cloFrom X.env.cells scope.names []) :
    X.env.cells.lookup y = some c ∧ c < s.heap.objs.size ∧ scope.names.lookup y = some .free := by
  rcases cloFrom_mem hm with z | ⟨h1, h2⟩
  · cases z
  · have hc : ∃ c', X.env.cells.lookup y = some c' := (ok.free _ h1 rfl).elim (fun k => I.ok.has _ (.inl k)) fun k => I.ok.has _ (.inr k)
    obtain ⟨c', hc'⟩ := hc
    rw [hc'] at h2
    have e : c = c' := h2
    obtain ⟨v, z⟩ := I.cell _ _ hc'
    rw [e]
    exact ⟨hc', z.lt, ok.uniq _ h1⟩
theorem clo_get {scope : Scope} {own : List (Str × Nat)} (I : Inv X pins σ H s) (ok : BlkOk X.N X.env.scope scope own) {y : Str} {c : Addr} (h : (cloFrom X.env.cells scope.names []).lookup y = some c) :
    X.env.cells.lookup y = some c ∧ c < s.heap.objs.size ∧ scope.names.lookup y = some .free := clo_at I ok (PySem.mem_of_lookup h)
theorem clo_has {scope : Scope} {own : List (Str × Nat)} (I : Inv X pins σ H s) (ok : BlkOk X.N X.env.scope scope own) {y : Str} (h : scope.names.lookup y = some .free) :
    ∃ c, (cloFrom X.env.cells scope.names []).lookup y = some c ∧ X.env.cells.lookup y = some c := by
  obtain ⟨c, e⟩ := mem_lookup (cloFrom_has (cells := X.env.cells) (acc := []) (PySem.mem_of_lookup h))
  exact ⟨c, e, (clo_get I ok e).1⟩

theorem gen_ok {scope : Scope} {own : List (Str × Nat)} {fp : List Addr} {code : Value} {A' : Around} {pn : List (Addr × Obj)} (I : Inv X pins σ H s) (ok : BlkOk X.N X.env.scope scope own) (hfp : ∀ b ∈ fp, FpOk X pins H b ∧ b < s.heap.objs.size)
    (noCell : ∀ {y : Str}, (y, NameKind.cell) ∉ scope.names) (hA : A'.handled = none) (hF : A'.frames = some (genEnv scope (cloFrom X.env.cells scope.names []) s.heap.objs.size code builtinsNs X.env :: X.stack)) :
    (gcx X s H scope (cloFrom X.env.cells scope.names []) s.heap.objs.size code A' fp pn).Ok where
  mod := I.ok.mod
  kind := ok.kind
  glob := I.ok.glob
  blt := rfl
  above := Nat.le_refl _
  inj := fun y z c e1 e2 => I.ok.inj y z c (clo_get I ok e1).1 (clo_get I ok e2).1
  has := fun y hy => by
    rcases hy with hy | hy
    · have hm := PySem.mem_of_lookup (show scope.names.lookup y = some .cell from hy)
      have hl : scope.names.lookup y = some .cell := hy
      exact absurd hl (by
        intro _
        exact False.elim (noCell hm))
    · obtain ⟨c, e, _⟩ := clo_has I ok (show scope.names.lookup y = some .free from hy)
      exact ⟨c, e⟩
  cab := fun y c z _ => by cases z
  hd := fun _ => hA
  frames := hF
  stk := .inr ⟨rfl, rfl⟩
  exf := fun b hb => ⟨Nat.ne_of_lt (hfp b hb).2, fun y c e => (hfp b hb).1.2.2.2.2.1 y c (clo_get I ok e).1⟩
  bs := I.bs
  bsz := Nat.le_trans I.ok.bsz I.sz
  noex := fun b o e hb => by
    rcases (hfp b hb).1.2.2.2.1 with z | z
    · exact I.ok.noex b o e z
    · exact absurd (Nat.lt_of_lt_of_le (Heap.lt_size e) (Nat.le_trans I.ok.bsz z)) (Nat.lt_irrefl _)
  exfs := fun b hb z => by
    rcases List.mem_cons.mp (I.stkSub b z) with z | z
    · exact (hfp b hb).1.2.1 z
    · exact (hfp b hb).1.2.2.1 z
  funs := I.stack
  frf := I.stkFree

theorem gen_start {scope : Scope} {own : List (Str × Nat)} {fp : List Addr} {code : Value} {A' : Around} {h' : Heap} {go : Obj} {g' : Array GenState} {t' : Nat} {it : Value} (I : Inv X pins σ H s) (ok : BlkOk X.N X.env.scope scope own) (hN : X.N.Nodup) (hfp : ∀ b ∈ fp, FpOk X pins H b ∧ b < s.heap.objs.size)
    (noCell : ∀ {y : Str}, (y, NameKind.cell) ∉ scope.names) (hA : A'.handled = none) (hF : A'.frames = some (genEnv scope (cloFrom X.env.cells scope.names []) s.heap.objs.size code builtinsNs X.env :: X.stack))
    (hns : h'.Ns s.heap.objs.size (fun y => if y = ".0" then some it else none)) (hsb : Heap.SameBut s.heap.objs.size (s.heap.push { cls := .type "frame", data := .dict #[] }) h') (hgo : ∀ v, go.data ≠ .cell v) (hgf : ∀ h : Heap, (h.push go).get? h.objs.size = some go) (hbare : AllBare g') :
    Inv (gcx X s H scope (cloFrom X.env.cells scope.names []) s.heap.objs.size code A' fp [(h'.objs.size, go)]) [] (wipe σ (own.map (·.2))) H { s with heap := h'.push go, gens := g', toks := t' } := by
  have hsz : h'.objs.size = s.heap.objs.size + 1 := by rw [hsb.1, Heap.size_push]
  have kp : ∀ b o, s.heap.get? b = some o → (h'.push go).get? b = some o := fun b o e =>
    Heap.get?_push_of_some _ (hsb.extBut b o (Nat.ne_of_lt (Heap.lt_size e)) (Heap.get?_push_of_some _ e))
  have okB := gen_ok (pn := [(h'.objs.size, go)]) I ok hfp noCell hA hF
  refine ⟨okB, rfl, hbare, Un.kept kp, ⟨_, hns.push _, fun i y av e1 e2 e3 => ?_⟩, fun y c e => ?_, I.hok.fresh (Nat.le_refl _), fun y c e => ?_, fun p hp => ?_, I.hok.kept kp, by rw [wipe_length]; exact I.len⟩
  · obtain ⟨e2, hne⟩ := wipe_some e2
    have e3 : Vis scope y := e3
    have noOwn : ∀ k, scope.names.lookup y = some k → k = .local ∨ k = .cell → False := fun k e hk => by
      rcases ok.own _ (PySem.mem_of_lookup e) hk with e' | e'
      · obtain ⟨p, hp, hpy⟩ := List.mem_map.mp e'
        have e4 := ok.ix p hp
        have q : p.1 = y := hpy
        rw [q] at e4
        exact hne (List.mem_map.mpr ⟨p, hp, nodup_ix hN e4 e1⟩)
      · exact e' (List.mem_of_getElem? e1)
    rcases e3 with z | z | z
    · exact (noOwn _ z (.inl rfl)).elim
    · exact (noOwn _ z (.inr rfl)).elim
    · have hv : Vis X.env.scope y := (ok.free _ (PySem.mem_of_lookup z) rfl).elim (fun k => .inr (.inl k)) (fun k => .inr (.inr k))
      obtain ⟨m, hn, hl⟩ := I.loc
      obtain ⟨u, r, q⟩ := hl i y av e1 e2 hv
      obtain ⟨c, h1, h2⟩ := clo_has I ok z
      refine ⟨u, r, .inr ⟨.inr z, c, h1, ?_⟩⟩
      rcases q with ⟨k, _⟩ | ⟨_, c', e', z'⟩
      · have k : X.env.scope.names.lookup y = some .local := k
        rcases ok.free _ (PySem.mem_of_lookup z) rfl with k' | k'
        · rw [show X.env.scope.names.lookup y = _ from k'] at k
          cases k
        · rw [show X.env.scope.names.lookup y = _ from k'] at k
          cases k
      · rw [h2] at e'
        cases e'
        exact z'.keeps kp
  · obtain ⟨h1, _, _⟩ := clo_get I ok e
    obtain ⟨v, z⟩ := I.cell y c h1
    exact ⟨v, z.keeps kp⟩
  · exact I.freeC y c (clo_get I ok e).1
  · have e : p = (h'.objs.size, go) := by simpa using hp
    rw [e]
    have hle : s.heap.objs.size ≤ h'.objs.size := by omega
    refine ⟨hgf _, I.hok.fresh hle, ?_, fun z => ?_, hgo⟩
    · show h'.objs.size ≠ s.heap.objs.size
      omega
    · rcases List.mem_cons.mp (I.stkSub _ z) with z | z
      · have hlt := I.lt
        rw [← z] at hlt
        exact absurd (Nat.lt_of_lt_of_le hlt hle) (Nat.lt_irrefl _)
      · exact I.nofs hle z
end
end Gx
namespace Gx
open PySem PySem.Spec PyProof.Rows L2 GenW GxR
open Sem (wp)

/-- while the frame sleeps: its consumer changes the objects at ss alone -/
structure Asl (ss : List Addr) (s s' : Shared) : Prop where
  os : s'.os = s.os
  bare : AllBare s'.gens
  keep : ∀ b o, b ∉ ss → s.heap.get? b = some o → s'.heap.get? b = some o
  own : ∀ b ∈ ss, ∃ o, s'.heap.get? b = some o ∧ ∀ v, o.data ≠ .cell v
/-- between two turns -/
structure Rest (Y : Cx) (ss : List Addr) (σ : L2.St) (H : Hp) (s : Shared) : Prop where
  inv : Inv Y (pinsAt ss s.heap) σ H s
  own : ∀ b ∈ ss, ∃ o, s.heap.get? b = some o ∧ ∀ v, o.data ≠ .cell v
/-- the consumer's own objects stand apart -/
def ApL (Y : Cx) (ss : List Addr) : Prop := ∀ b ∈ ss, Y.s_0.heap.objs.size ≤ b ∧ b ≠ Y.env.locals ∧ (∀ x c, Y.env.cells.lookup x = some c → c ≠ b) ∧ ∀ p ∈ Y.pn, p.1 ≠ b

section
variable {Y : Cx} {ss : List Addr} {σ σ' : L2.St} {H H' : Hp} {s s' : Shared}
theorem Rest.free (r : Rest Y ss σ H s) : ∀ b ∈ ss, H b = none := fun b hb => by
  obtain ⟨o, e, _⟩ := r.own b hb
  exact (r.inv.pin (b, o) (List.mem_append_right _ (mem_pinsAt hb e))).2.1
/-- behind a turn -/
theorem Rest.turn {pl : List (Addr × Obj)} (r : Rest Y ss σ H s) (J : Inv Y (pinsAt ss s.heap ++ pl) σ' H' s') : Rest Y ss σ' H' s' := by
  have same : ∀ b ∈ ss, ∀ o, s.heap.get? b = some o → s'.heap.get? b = some o := fun b hb o e => (J.pin (b, o) (List.mem_append_right _ (List.mem_append_left _ (mem_pinsAt hb e)))).1
  have own : ∀ b ∈ ss, ∃ o, s'.heap.get? b = some o ∧ ∀ v, o.data ≠ .cell v := fun b hb => by
    obtain ⟨o, e, d⟩ := r.own b hb
    exact ⟨o, same b hb o e, d⟩
  refine ⟨J.pins_of fun p hp => ?_, own⟩
  obtain ⟨hb, e⟩ := of_pinsAt hp
  obtain ⟨o, e0, _⟩ := r.own p.1 hb
  obtain ⟨z1, z2, z3, z4, z5⟩ := J.pin (p.1, o) (List.mem_append_right _ (List.mem_append_left _ (mem_pinsAt hb e0)))
  have z1' : s'.heap.get? p.1 = some o := z1
  rw [e] at z1'
  cases z1'
  exact ⟨e, z2, z3, z4, z5⟩
theorem Rest.weak (r : Rest Y ss σ H s) (hl : σ'.length = σ.length) (w : ∀ (i : Nat) v, σ'[i]? = some (some v) → σ[i]? = some (some v)) : Rest Y ss σ' H s := ⟨r.inv.weak hl w, r.own⟩
/-- woken again -/
theorem Rest.woken (r : Rest Y ss σ H s) (ap : ApL Y ss) (z : Asl ss s s') : Rest Y ss σ H s' := by
  have hfree := r.free
  obtain ⟨hh, g, d, t, o⟩ := s'
  obtain ⟨z1, z2, z3, z4⟩ := z
  have ho : o = s.os := z1
  subst ho
  have I0 : Inv Y [] σ H s := r.inv.pins_of fun p hp => absurd hp (by simp)
  have nt : ∀ b u, H b = some u → b ∉ ss := fun b u q hb => by
    rw [hfree b hb] at q
    cases q
  have J : Inv Y [] σ H { s with heap := hh, gens := g, drawn := d, toks := t } := by
    refine I0.step (g' := g) (t' := t) (d' := d) (ch := ss) (fun b hb => ?_)
      (fun b ob _ _ hc q _ => z3 b ob hc q) (fun b ob _ _ hc q _ => ⟨ob.slots, z3 b ob hc q⟩) (fun _ _ _ _ n => n) (fun b ob hc q => ⟨ob, z3 b ob hc q⟩)
      (fun _ _ q => q) (fun _ _ _ q => q) (fun b ps q => ⟨#[], by rw [q]; simp⟩) (fun m hm => ?_) (fun b u q => ?_) z2
    · obtain ⟨a1, a2, a3, a4⟩ := ap b hb
      exact ⟨.inr a1, a2, a3, fun p hp => a4 p (by simpa using hp)⟩
    · obtain ⟨ob, es, ep, ho, w⟩ := hm
      exact ⟨ob, es, ep, z3 _ ob (fun hb => (ap _ hb).2.1 rfl) ho, w⟩
    · refine (I0.hok b u q).stay (fun c v hc y => z3 c v ?_ y) (fun _ y => y) fun _ _ y => y
      rcases hc with y | y
      · rw [y]
        exact nt b u q
      · exact nt c _ y
  refine ⟨J.pins_of fun p hp => ?_, z4⟩
  obtain ⟨hb, e⟩ := of_pinsAt hp
  obtain ⟨o', e', dd⟩ := z4 p.1 hb
  rw [e] at e'
  cases e'
  obtain ⟨a1, a2, a3, a4⟩ := ap p.1 hb
  obtain ⟨o0, e0, _⟩ := r.own p.1 hb
  obtain ⟨_, _, _, y4, _⟩ := r.inv.pin (p.1, o0) (List.mem_append_right _ (mem_pinsAt hb e0))
  exact ⟨e, hfree p.1 hb, a2, y4, dd⟩
end

section
variable {α : Type} (Y : Cx) (ss : List Addr) (σ : L2.St) (Lk : α → Shared → Prop) (Got : α → (α → Hp → Prop) → V → Hp → Prop) (Fin : α → Hp → Prop)
/-- an item is handed out -/
def gxY : Protocol := fun _ s₀ v s kap =>
  (∀ b ∈ ss, ∀ o, s₀.heap.get? b = some o → s.heap.get? b = some o) ∧ ∃ a H y Nx σ', RelV y v ∧ Rest Y ss σ' H s ∧ Lk a s ∧ Got a Nx y H ∧ ∀ a' s', Nx a' H → Asl ss s s' → Lk a' s' → kap (.send .none) s'
/-- no more items -/
def gxE (_ : Nat) (s₀ : Shared) (s : Shared) : Prop := (∀ b ∈ ss, ∀ o, s₀.heap.get? b = some o → s.heap.get? b = some o) ∧ ∃ a H σ', Rest Y ss σ' H s ∧ Lk a s ∧ Fin a H
/-- what is asked of the turns -/
def Turns (J : It) (g : TG) (tt : TT) (te : TE) (vs : List Nat) (W : Nat → Nat → α → Hp → Prop) : Prop := ∀ i m a H, W i m a H →
  (J.stop i H ∧ Fin a H) ∨ (J.go i H ∧ ∃ Nx : α → Hp → Prop, (∀ a' H', Nx a' H' → ∃ m', m' < m ∧ W (i + 1) m' a' H') ∧ ∀ x H', J.yld i H x H' → g x σ H' fun σ2 H2 => wipe σ2 vs = σ ∧ tt σ2 H2 fun b H3 =>
    if b = true then te σ2 H3 fun y H4 => Got a Nx y H4 else Nx a H3)
end

section
variable {α : Type} {Y : Cx} {ss : List Addr} {σ : L2.St} {Lk : α → Shared → Prop} {Got : α → (α → Hp → Prop) → V → Hp → Prop} {Fin : α → Hp → Prop}
theorem seg_turns {A : Around} {elt tg iter : Expr} {ifs : List Expr} {scope : Scope} {gpos : Pos} {it : Addr} {fp : List Addr} {tn : Nat → Heap → Prop} {J : It} {g : TG} {tt : TT} {te : TE} {vs : List Nat} {W : Nat → Nat → α → Hp → Prop}
    (hov : A.deeper Y.env = Y.A) (hxe : Y.xe = fun _ _ => False) (hc : Y.calm = true) (hco : Y.env.scope.isCoroutine = false) (hex : Y.ex = fp) (hvs : wipe σ vs = σ)
    (ap : ApL Y ss) (hfs : ∀ b ∈ fp, b ∉ ss) (hpn : ∀ p ∈ Y.pn, p.1 ∉ fp)
    (hLk : ∀ a s s', (∀ b ∈ ss, ∀ o, s.heap.get? b = some o → s'.heap.get? b = some o) → Lk a s → Lk a s')
    (T : Turn Y.prog Y.w Y.K tg J fp it tn) (pg : PG Y tg g) (pt : PTs Y ifs tt) (pe : PE Y elt te) (turns : Turns σ Got Fin J g tt te vs W) :
    ∀ (m n i : Nat) (a : α) (s₀ s : Shared) (H : Hp), m < n → (∀ b ∈ ss, ∀ o, s₀.heap.get? b = some o → s.heap.get? b = some o) → Rest Y ss σ H s → tn i s.heap → (∀ b ∈ fp, H b = none) → Lk a s → W i m a H →
      Seg (model Y.prog Y.w) A (fun n s₀ r s₁ => r = .ok .next ∧ gxE Y ss Lk Fin n s₀ s₁) (gxY Y ss Lk Got) n s₀
        (.compLoop (gexp elt tg iter ifs scope gpos) 0 (.ref it) .none Y.env) ((model Y.prog Y.w).den (.compLoop (gexp elt tg iter ifs scope gpos) 0 (.ref it) .none Y.env)) [] s := by
  have ov : A.over (.compLoop (gexp elt tg iter ifs scope gpos) 0 (.ref it) .none Y.env) [] = Y.A := over_cl.trans hov
  intro m
  induction m using Nat.strongRecOn with
  | ind m ih =>
    intro n i a s₀ s H hmn hk0 r st fr lk w
    have stat : ∀ {pl : List (Addr × Obj)} {σ' : L2.St} {H' : Hp} {s' : Shared}, Inv Y pl σ' H' s' → (∀ p ∈ pl, p.1 ∉ fp) → (∀ b ∈ fp, H' b = none) → ∀ b ∈ fp, FpOk Y pl H' b := fun {pl σ' H' s'} I' hpl hn b hb => by
      have hb' : b ∈ Y.ex := by rw [hex]; exact hb
      refine ⟨hn b hb, (I'.ok.exf b hb').1, I'.ok.exfs b hb', .inl hb', fun x c e => (I'.ok.exf b hb').2 x c e, fun p hp => ?_⟩
      rcases List.mem_append.mp hp with z | z
      · exact fun q => hpn p z (by rw [q]; exact hb)
      · exact fun q => hpl p z (by rw [q]; exact hb)
    have hpl : ∀ {h : Heap}, ∀ p ∈ pinsAt ss h, p.1 ∉ fp := fun {h} p hp hf => hfs p.1 hf (of_pinsAt hp).1
    show Seg _ A _ _ _ s₀ _ ((compTurn (gexp elt tg iter ifs scope gpos) 0 (.ref it) .none Y.env).onRaise (leaving Y.env)) [] s
    rw [compTurn_gen, Sem.onRaise_eq_wrap]
    refine seg_bind_wrap (wpAny_standAt ?_)
    rcases turns i m a H w with ⟨stop, q⟩ | ⟨go, Nx, hNx, step⟩
    · refine seg_bind_wrap ?_
      rw [ov]
      refine wpAny_mono (T.done Y rfl rfl rfl hc i _ s σ H (fun _ _ => False) r.inv (stat r.inv hpl fr) st stop) (fun rr s1 ⟨hr, I1⟩ => ?_) fun _ _ z => z.elim
      subst hr
      have r1 : Rest Y ss σ H s1 := r.turn (pl := []) (by rw [List.append_nil]; exact I1)
      have ks : ∀ b ∈ ss, ∀ o, s.heap.get? b = some o → s1.heap.get? b = some o := fun b hb o e => (I1.pin (b, o) (List.mem_append_right _ (mem_pinsAt hb e))).1
      refine seg_end (.ok .next) ⟨rfl, fun b hb o e => ks b hb o (hk0 b hb o e), a, H, σ, r1, hLk a s s1 ks lk, q⟩
    · refine seg_bind_wrap ?_
      rw [ov]
      refine wpAny_mono (T.item Y rfl rfl rfl hc i _ s σ H (fun _ _ => False) r.inv (stat r.inv hpl fr) st go) (fun rr s1 ⟨u, hr, h1⟩ => ?_) fun _ _ z => z.elim
      subst hr
      dsimp only
      refine seg_bind_wrap ?_
      rw [ov]
      refine wpAny_mono h1 (fun _ s2 ⟨x, H2, I2, r2, y2, st2, fr2⟩ => ?_) fun _ _ z => z.elim
      have I2' := I2.pinned (stat I2 hpl fr2) (T.obj _ _ st2)
      refine seg_bind_wrap ?_
      rw [ov]
      refine wpAny_mono (pg.run _ s2 σ H2 x u _ I2' r2 (step x H2 y2)) (fun _ s3 ⟨σ3, H3, I3, hw3, q3⟩ => ?_) fun _ _ z => by rw [hxe] at z; exact z.elim
      refine seg_bind_wrap ?_
      rw [ov]
      refine wpAny_mono (pt.run _ s3 σ3 H3 _ I3 q3) (fun b s4 ⟨H4, I4, q4⟩ => ?_) fun _ _ z => by rw [hxe] at z; exact z.elim
      -- the turn's end
      have fin : ∀ {s' : Shared} {H' : Hp}, Inv Y (pinsAt ss s.heap ++ pinsAt fp s2.heap) σ3 H' s' → Rest Y ss σ H' s' ∧ tn (i + 1) s'.heap ∧ (∀ b ∈ fp, H' b = none) ∧ Lk a s' ∧ (∀ b ∈ ss, ∀ o, s₀.heap.get? b = some o → s'.heap.get? b = some o) := fun {s' H'} I' => by
        have pin' : ∀ b ∈ fp, ∀ o, s2.heap.get? b = some o → s'.heap.get? b = some o ∧ H' b = none := fun b hb o e =>
          let z := I'.pin (b, o) (List.mem_append_right _ (List.mem_append_right _ (mem_pinsAt hb e)))
          ⟨z.1, z.2.1⟩
        have hl : σ.length = σ3.length := by rw [← hw3, wipe_length]
        refine ⟨(r.turn I').weak hl fun j v e => ?_, T.keep _ _ _ st2 fun b hb o e => (pin' b hb o e).1, fun b hb => ?_, hLk a s s' (fun b hb o e => (I'.pin (b, o) (List.mem_append_right _ (List.mem_append_left _ (mem_pinsAt hb e)))).1) lk, fun b hb o e => (I'.pin (b, o) (List.mem_append_right _ (List.mem_append_left _ (mem_pinsAt hb (hk0 b hb o e))))).1⟩
        · rw [← hw3] at e
          exact (wipe_some e).1
        · obtain ⟨o, e, _⟩ := T.obj _ _ st2 b hb
          exact (pin' b hb o e).2
      cases b with
      | false =>
        have q4 : Nx a H4 := q4
        obtain ⟨f1, f2, f3, f4, f5⟩ := fin I4
        obtain ⟨m', hm', w'⟩ := hNx a H4 q4
        simp only [Bool.false_eq_true, if_false]
        exact seg_again rfl (ih m' hm' n (i + 1) a s₀ s4 H4 (by omega) f5 f1 f2 f3 f4 w')
      | true =>
        simp only [if_true] at q4 ⊢
        have hy : ∀ v, yieldOut Y.env v = yieldValue v := fun v => by simp only [yieldOut, hco, Bool.false_eq_true, if_false]
        simp only [hy]
        rw [Sem.bind_eq_wrap', Sem.bind_eq_wrap', Sem.wrap_wrap, Sem.wrap_wrap]
        refine seg_wrap ?_
        rw [ov]
        refine wpAny_mono (pe.run _ s4 σ3 H4 _ I4 q4) (fun v s5 ⟨y, H5, I5, r5, q5⟩ => ?_) fun _ _ z => by rw [hxe] at z; exact z.elim
        obtain ⟨f1, f2, f3, f4, f5⟩ := fin I5
        obtain ⟨n, rfl⟩ : ∃ k, n = k + 1 := ⟨n - 1, by omega⟩
        refine seg_at (seg_yield rfl rfl rfl ⟨f5, a, H5, y, Nx, σ, r5, f1, f4, q5, fun a' s6 hn hs hl => ?_⟩)
        obtain ⟨m', hm', w'⟩ := hNx a' H5 hn
        refine seg_again rfl (ih m' hm' n (i + 1) a' s6 s6 H5 (by omega) (fun _ _ _ e => e) (f1.woken ap hs) (T.keep _ _ _ f2 fun b hb o e => hs.keep b o (hfs b hb) e) f3 hl w')
end
end Gx
namespace Gx
open PySem PySem.Spec PyProof.Rows L2 GenW GxR
open Sem (wp)

section
variable {α : Type} {Y : Cx} {ss : List Addr} {σ : L2.St} {Lk : α → Shared → Prop} {Got : α → (α → Hp → Prop) → V → Hp → Prop} {Fin : α → Hp → Prop}
theorem seg_begin {A : Around} {elt tg iter : Expr} {ifs : List Expr} {scope : Scope} {gpos : Pos} {it : Addr} {R : GenEnd} {Pr : Protocol} {n : Nat} {s₀ s : Shared} {tn : Nat → Heap → Prop}
    (hself : ∀ (A : Around) (s : Shared) (Q : Value → Shared → Prop) (E : Value → Shared → Prop), tn 0 s.heap → Q (.ref it) s → wpAny (model Y.prog Y.w) A (pyIter (.ref it)) Q E s) (st : tn 0 s.heap)
    (loop : Seg (model Y.prog Y.w) A R Pr n s₀ (.compLoop (gexp elt tg iter ifs scope gpos) 0 (.ref it) .none Y.env) ((model Y.prog Y.w).den (.compLoop (gexp elt tg iter ifs scope gpos) 0 (.ref it) .none Y.env)) [] s) :
    Seg (model Y.prog Y.w) A R Pr n s₀ (.compStart (gexp elt tg iter ifs scope gpos) 0 (.ref it) .none Y.env) ((model Y.prog Y.w).den (.compStart (gexp elt tg iter ifs scope gpos) 0 (.ref it) .none Y.env)) [] s := by
  show Seg _ A _ _ _ s₀ _ ((compStart (gexp elt tg iter ifs scope gpos) 0 (.ref it) .none Y.env).onRaise (leaving Y.env)) [] s
  unfold compStart
  rw [Sem.onRaise_eq_wrap]
  show Seg _ A _ _ _ s₀ _ ((ask >>= _).wrap _ _ _ _) [] s
  refine seg_bind_wrap (wpAny_askSetting ?_)
  split
  · exact seg_again rfl loop
  · first
      | exact seg_bind_wrap (wpAny_rule (seg_bind_wrap (wpAny_standAt (seg_bind_wrap (hself _ s _ _ st (seg_again rfl loop))))))
      | (refine seg_bind_wrap (wpAny_rule ?_); show Seg _ A _ _ _ s₀ _ ((standAt iter.pos >>= _).wrap _ _ _ _) [] s; exact seg_bind_wrap (wpAny_standAt (seg_bind_wrap (hself _ s _ _ st (seg_again rfl loop)))))

/-- the generator at a, its state g, can be woken -/
def Ready (Y : Cx) (ss : List Addr) (Lk : α → Shared → Prop) (Got : α → (α → Hp → Prop) → V → Hp → Prop) (Fin : α → Hp → Prop) (A : Around) (a : Addr) (g n : Nat) (s : Shared) : Prop :=
  s.heap.IsGen a g ∧ s.heap.NoLimit ∧ AllBare s.gens ∧ ∃ gs, s.gens[g]? = some gs ∧ gs.Goes (model Y.prog Y.w) A.in1 (fun n s₀ r s₁ => r = .ok .next ∧ gxE Y ss Lk Fin n s₀ s₁) (gxY Y ss Lk Got) n (.send .none) (s.setGen g .running)

theorem asl_gens {s s' : Shared} (h : s'.heap = s.heap) (ho : s'.os = s.os) (hb : AllBare s'.gens) : Asl [] s s' := ⟨ho, hb, fun b o _ e => by rw [h]; exact e, fun b hb => absurd hb (by simp)⟩

/-- one item more, or the end -/
theorem pull {A : Around} {a : Addr} {go : Obj} {g n : Nat} {s : Shared} {E : Value → Shared → Prop} (hh : A.handled = none) (hroom : A.depth < recursionLimit) (hpn : (a, go) ∈ Y.pn) (hgo : ∀ h : Heap, h.get? a = some go → h.IsGen a g) (ap : ApL Y ss) (lkk : ∀ {al : α} {s s2 : Shared}, Lk al s → s2.heap = s.heap → Lk al s2) (hLk : ∀ a s s2, (∀ b ∈ ss, ∀ o, s.heap.get? b = some o → s2.heap.get? b = some o) → Lk a s → Lk a s2) (rd : Ready Y ss Lk Got Fin A a g n s) :
    wpAny (model Y.prog Y.w) A (pyNext (.ref a)) (fun r s1 => AllBare s1.gens ∧ (∀ b ∈ ss, ∀ o, s.heap.get? b = some o → s1.heap.get? b = some o) ∧ ((r = none ∧ ∃ al H σ', Rest Y ss σ' H s1 ∧ Lk al s1 ∧ Fin al H) ∨
      ∃ v al H y Nx σ', r = some v ∧ RelV y v ∧ Rest Y ss σ' H s1 ∧ Lk al s1 ∧ Got al Nx y H ∧ ∀ al' s', Nx al' H → Asl ss s1 s' → s'.gens = s1.gens → Lk al' s' → ∃ k, n = k + 1 ∧ Ready Y ss Lk Got Fin A a g k s')) E s := by
  obtain ⟨hg, hl, hb, gs, hgs, hgoes⟩ := rd
  have hgl : g < s.gens.size := (Array.getElem?_eq_some_iff.mp hgs).1
  have quiet : ∀ {σ' : L2.St} {H : Hp} {s1 s2 : Shared}, Rest Y ss σ' H s1 → (∀ b o, s1.heap.get? b = some o → s2.heap.get? b = some o) → s2.os = s1.os → AllBare s2.gens → Rest Y ss σ' H s2 := fun {σ' H s1 s2} r hk ho hb =>
    r.woken ap ⟨ho, hb, fun b o _ e => hk b o e, fun b hb => let ⟨o, e, d⟩ := r.own b hb; ⟨o, hk b o e, d⟩⟩
  refine wpAny_gsz (n := g + 1) hgl (wpAny_pyNext_genexpQ (P := gxE Y ss Lk Fin) hh hl hroom hg hgs hgoes (fun v s₁ gs' hbare hv => ?_) fun s₁ hp h' hk => ?_)
  · intro hsz
    obtain ⟨ks, al, H, y, Nx, σ', rv, r1, lk, got, kap⟩ := hv
    have hb1 : AllBare (s₁.setGen g gs').gens := allBare_setGen r1.inv.bare hbare
    have hsz1 : g < s₁.gens.size := by
      have q : (s₁.setGen g gs').gens.size = s₁.gens.size := setGen_size _ _ _
      have hsz' : g + 1 ≤ (s₁.setGen g gs').gens.size := hsz
      omega
    have r2 : Rest Y ss σ' H (s₁.setGen g gs') := quiet r1 (fun _ _ e => e) rfl hb1
    refine ⟨hb1, ks, .inr ⟨v, al, H, y, Nx, σ', rfl, rv, r2, lkk lk rfl, got, fun al' s' nx z hgens lk' => ?_⟩⟩
    have hb3 : AllBare (s'.setGen g .running).gens := allBare_setGen z.bare rfl
    have kp := kap al' (s'.setGen g .running) nx ⟨z.os, hb3, z.keep, z.own⟩ (lkk lk' rfl)
    cases n with
    | zero => exact False.elim kp
    | succ k =>
      refine ⟨k, rfl, ?_⟩
      have r3 : Rest Y ss σ' H s' := r2.woken ap z
      refine ⟨hgo _ (r3.inv.pin (a, go) (List.mem_append_left _ hpn)).1, r3.inv.nolimit, z.bare, gs', ?_, kp⟩
      rw [hgens]
      exact setGen_at hsz1
  · intro hsz
    obtain ⟨ks, al, H, σ', r1, lk, f⟩ := hp
    have hb1 : AllBare (s₁.setGen g .finished).gens := allBare_setGen r1.inv.bare rfl
    exact ⟨hb1, fun b hb o e => hk b o (ks b hb o e), .inl ⟨rfl, al, H, σ', quiet r1 hk rfl hb1, hLk _ _ _ (fun b _ o e => hk b o e) lk, f⟩⟩
end
end Gx
namespace Gx
open PySem PySem.Spec PyProof.Rows L2 GenW GxR
open Sem (wp)

def noLk : Unit → Shared → Prop := fun _ _ => True
def gotAll (Q : VK) : Unit → (Unit → Hp → Prop) → V → Hp → Prop := fun _ Nx y H => ∃ c, y = .bl c ∧ if c = true then Nx () H else Q (.bl false) H
def gotAny (Q : VK) : Unit → (Unit → Hp → Prop) → V → Hp → Prop := fun _ Nx y H => ∃ c, y = .bl c ∧ if c = true then Q (.bl true) H else Nx () H
section
variable {Y : Cx} {Q : VK} {R : Result → Shared → Prop}
/-- all of a generator that is ready -/
theorem all_loop {A : Around} {a : Addr} {go : Obj} {g : Nat} (hh : A.handled = none) (hroom : A.depth < recursionLimit) (hpn : (a, go) ∈ Y.pn) (hgo : ∀ h : Heap, h.get? a = some go → h.IsGen a g)
    (hR : ∀ c s1 σ' H, Rest Y [] σ' H s1 → AllBare s1.gens → Q (.bl c) H → R (.ok (.ret (.bool c))) s1) :
    ∀ (n : Nat) (s : Shared), Ready Y [] noLk (gotAll Q) (fun _ H => Q (.bl true) H) A.in1 a g n s → codeAny (model Y.prog Y.w) A (.builtin "all.loop" ⟨[.ref a], []⟩) R s := by
  intro n
  induction n with
  | zero =>
    intro s rd
    refine codeAny_builtin F.entry_all_loop ?_
    rw [Around.under_plainId F.plain_all_loop _]
    show wpAny _ A.in1 (pyNext (.ref a) >>= _) _ _ s
    refine wpAny_bind (wpAny_mono (pull (A := A.in1) hh hroom hpn hgo (fun b hb => absurd hb (by simp)) (fun _ _ => True.intro) (fun _ _ _ _ _ => True.intro) rd) (fun r s1 ⟨hb1, _, h⟩ => ?_) fun _ _ e => e)
    rcases h with ⟨rfl, al, H, σ', r1, _, q⟩ | ⟨v, al, H, y, Nx, σ', rfl, rv, r1, _, ⟨c, hc, q⟩, more⟩
    · exact wpAny_bind (wpAny_rule (wpAny_pure (hR true s1 σ' H r1 hb1 q)))
    · subst hc
      obtain rfl : v = Value.bool c := rv
      refine wpAny_bind (wpAny_holding (wpAny_truthy_bool ?_))
      refine wpAny_bind (wpAny_letGo ?_)
      cases c with
      | true =>
        obtain ⟨k, hk, _⟩ := more () s1 q (asl_gens rfl rfl hb1) rfl True.intro
        cases hk
      | false =>
        simp only [Bool.false_eq_true, if_false]
        exact wpAny_bind (wpAny_rule (wpAny_pure (hR false s1 σ' H r1 hb1 q)))
  | succ n ih =>
    intro s rd
    refine codeAny_builtin F.entry_all_loop ?_
    rw [Around.under_plainId F.plain_all_loop _]
    show wpAny _ A.in1 (pyNext (.ref a) >>= _) _ _ s
    refine wpAny_bind (wpAny_mono (pull (A := A.in1) hh hroom hpn hgo (fun b hb => absurd hb (by simp)) (fun _ _ => True.intro) (fun _ _ _ _ _ => True.intro) rd) (fun r s1 ⟨hb1, _, h⟩ => ?_) fun _ _ e => e)
    rcases h with ⟨rfl, al, H, σ', r1, _, q⟩ | ⟨v, al, H, y, Nx, σ', rfl, rv, r1, _, ⟨c, hc, q⟩, more⟩
    · exact wpAny_bind (wpAny_rule (wpAny_pure (hR true s1 σ' H r1 hb1 q)))
    · subst hc
      obtain rfl : v = Value.bool c := rv
      refine wpAny_bind (wpAny_holding (wpAny_truthy_bool ?_))
      refine wpAny_bind (wpAny_letGo ?_)
      cases c with
      | true =>
        obtain ⟨k, hk, rd'⟩ := more () s1 q (asl_gens rfl rfl hb1) rfl True.intro
        obtain rfl : n = k := Nat.succ.inj hk
        simp only [if_true]
        exact wpAny_pure ⟨plainId_quiet F.plain_all_loop _, ih s1 rd'⟩
      | false =>
        simp only [Bool.false_eq_true, if_false]
        exact wpAny_bind (wpAny_rule (wpAny_pure (hR false s1 σ' H r1 hb1 q)))
theorem any_loop {A : Around} {a : Addr} {go : Obj} {g : Nat} (hh : A.handled = none) (hroom : A.depth < recursionLimit) (hpn : (a, go) ∈ Y.pn) (hgo : ∀ h : Heap, h.get? a = some go → h.IsGen a g)
    (hR : ∀ c s1 σ' H, Rest Y [] σ' H s1 → AllBare s1.gens → Q (.bl c) H → R (.ok (.ret (.bool c))) s1) :
    ∀ (n : Nat) (s : Shared), Ready Y [] noLk (gotAny Q) (fun _ H => Q (.bl false) H) A.in1 a g n s → codeAny (model Y.prog Y.w) A (.builtin "any.loop" ⟨[.ref a], []⟩) R s := by
  intro n
  induction n with
  | zero =>
    intro s rd
    refine codeAny_builtin F.entry_any_loop ?_
    rw [Around.under_plainId F.plain_any_loop _]
    show wpAny _ A.in1 (pyNext (.ref a) >>= _) _ _ s
    refine wpAny_bind (wpAny_mono (pull (A := A.in1) hh hroom hpn hgo (fun b hb => absurd hb (by simp)) (fun _ _ => True.intro) (fun _ _ _ _ _ => True.intro) rd) (fun r s1 ⟨hb1, _, h⟩ => ?_) fun _ _ e => e)
    rcases h with ⟨rfl, al, H, σ', r1, _, q⟩ | ⟨v, al, H, y, Nx, σ', rfl, rv, r1, _, ⟨c, hc, q⟩, more⟩
    · exact wpAny_bind (wpAny_rule (wpAny_pure (hR false s1 σ' H r1 hb1 q)))
    · subst hc
      obtain rfl : v = Value.bool c := rv
      refine wpAny_bind (wpAny_holding (wpAny_truthy_bool ?_))
      refine wpAny_bind (wpAny_letGo ?_)
      cases c with
      | false =>
        obtain ⟨k, hk, _⟩ := more () s1 q (asl_gens rfl rfl hb1) rfl True.intro
        cases hk
      | true =>
        simp only [if_true]
        exact wpAny_bind (wpAny_rule (wpAny_pure (hR true s1 σ' H r1 hb1 q)))
  | succ n ih =>
    intro s rd
    refine codeAny_builtin F.entry_any_loop ?_
    rw [Around.under_plainId F.plain_any_loop _]
    show wpAny _ A.in1 (pyNext (.ref a) >>= _) _ _ s
    refine wpAny_bind (wpAny_mono (pull (A := A.in1) hh hroom hpn hgo (fun b hb => absurd hb (by simp)) (fun _ _ => True.intro) (fun _ _ _ _ _ => True.intro) rd) (fun r s1 ⟨hb1, _, h⟩ => ?_) fun _ _ e => e)
    rcases h with ⟨rfl, al, H, σ', r1, _, q⟩ | ⟨v, al, H, y, Nx, σ', rfl, rv, r1, _, ⟨c, hc, q⟩, more⟩
    · exact wpAny_bind (wpAny_rule (wpAny_pure (hR false s1 σ' H r1 hb1 q)))
    · subst hc
      obtain rfl : v = Value.bool c := rv
      refine wpAny_bind (wpAny_holding (wpAny_truthy_bool ?_))
      refine wpAny_bind (wpAny_letGo ?_)
      cases c with
      | false =>
        obtain ⟨k, hk, rd'⟩ := more () s1 q (asl_gens rfl rfl hb1) rfl True.intro
        obtain rfl : n = k := Nat.succ.inj hk
        simp only [Bool.false_eq_true, if_false]
        exact wpAny_pure ⟨plainId_quiet F.plain_any_loop _, ih s1 rd'⟩
      | true =>
        simp only [if_true]
        exact wpAny_bind (wpAny_rule (wpAny_pure (hR true s1 σ' H r1 hb1 q)))
end
end Gx
namespace Gx
open PySem PySem.Spec PyProof.Rows L2 GenW GxR
open Sem (wp)

/-- the running total stands in the consumer's list -/
def sumLk (S : Addr) : Int → Shared → Prop := fun i s => ∃ t c, s.heap.get? S = some { cls := .type "list", dict := none, data := .seq #[.int i t] c, slots := #[] }
def gotSum (Q : VK) : Int → (Int → Hp → Prop) → V → Hp → Prop := fun i Nx y H => ∃ j, y = .int j ∧ (-(2 ^ 63) ≤ j ∧ j < 2 ^ 63) ∧ (-(2 ^ 63) ≤ i + j ∧ i + j < 2 ^ 63) ∧ Nx (i + j) H
theorem sumLk_keep {S : Addr} : ∀ (i : Int) (s s2 : Shared), (∀ b ∈ [S], ∀ o, s.heap.get? b = some o → s2.heap.get? b = some o) → sumLk S i s → sumLk S i s2 := fun i s s2 hk ⟨t, c, e⟩ => ⟨t, c, hk S (by simp) _ e⟩
theorem sumLk_one {S : Addr} {i j : Int} {s : Shared} (h : sumLk S i s) (h' : sumLk S j s) : i = j := by
  obtain ⟨t, c, e⟩ := h
  obtain ⟨t', c', e'⟩ := h'
  rw [e] at e'
  have z := congrArg Obj.data (Option.some.inj e')
  injection z with z1 _
  have z2 := congrArg Array.toList z1
  simp at z2
  exact z2.1
section
variable {Y : Cx} {Q : VK} {R : Result → Shared → Prop}
theorem sum_loop {A : Around} {a S : Addr} {go : Obj} {g : Nat} (hh : A.handled = none) (hroom : A.depth < recursionLimit) (hpn : (a, go) ∈ Y.pn) (hgo : ∀ h : Heap, h.get? a = some go → h.IsGen a g) (ap : ApL Y [S])
    (hR : ∀ i t s1 σ' H, Rest Y [S] σ' H s1 → AllBare s1.gens → Q (.int i) H → R (.ok (.ret (.int i t))) s1) :
    ∀ (n : Nat) (i : Int) (s : Shared), sumLk S i s → Ready Y [S] (sumLk S) (gotSum Q) (fun i H => Q (.int i) H) A.in1 a g n s → codeAny (model Y.prog Y.w) A (.builtin "sum.loop" ⟨[.ref a, .ref S, rawInt 0, rawInt 0], []⟩) R s := by
  intro n
  induction n with
  | zero =>
    intro i s lk rd
    obtain ⟨tS, cS, hS⟩ := lk
    refine codeAny_builtin F.entry_sum_loop ?_
    rw [Around.under_plainId F.plain_sum_loop _]
    show wpAny _ A.in1 (seqItems? (.ref S) >>= _) _ _ s
    refine wpAny_bind (wpAny_seqItems hS rfl ?_)
    show wpAny _ A.in1 (tryCatch (pyNext (.ref a)) _ >>= _) _ _ s
    refine wpAny_bind (wpAny_tryCatch (wpAny_mono (pull (A := A.in1) (E := fun _ _ => False) hh hroom hpn hgo ap (fun {al s s2} l e => sumLk_keep al s s2 (fun b _ o q => by rw [e]; exact q) l) sumLk_keep rd) (fun r s1 ⟨hb1, hks, h⟩ => ?_) fun _ _ e => e.elim))
    have hS1 := hks S (by simp) _ hS
    rcases h with ⟨rfl, al, H, σ', r1, lk1, q⟩ | ⟨v, al, H, y, Nx, σ', rfl, rv, r1, lk1, ⟨j, hj, hf, hg, q⟩, more⟩
    · obtain rfl := sumLk_one lk1 ⟨tS, cS, hS1⟩
      exact wpAny_pure (hR al tS s1 σ' H r1 hb1 q)
    · obtain rfl := sumLk_one lk1 ⟨tS, cS, hS1⟩
      subst hj
      obtain ⟨tv, rfl⟩ : ∃ t, v = Value.int j t := rv
      exfalso
      have hS2 := Heap.get?_update_self (h := s1.heap) (Obj.mapSeq (fun _ => #[Value.int (al + j) 0])) hS1 rfl
      obtain ⟨k, hk, _⟩ := more (al + j) { s1 with heap := s1.heap.update S (Obj.mapSeq fun _ => #[Value.int (al + j) 0]) } q
        ⟨rfl, hb1, fun b o hb e => (Heap.get?_update_other _ _ (fun z : S = b => hb (by simp [z]))).trans e, fun b hb => by
          obtain rfl : b = S := by simpa using hb
          exact ⟨_, hS2, fun v z => by cases z⟩⟩ rfl ⟨_, _, hS2⟩
      cases hk
  | succ n ih =>
    intro i s lk rd
    obtain ⟨tS, cS, hS⟩ := lk
    refine codeAny_builtin F.entry_sum_loop ?_
    rw [Around.under_plainId F.plain_sum_loop _]
    show wpAny _ A.in1 (seqItems? (.ref S) >>= _) _ _ s
    refine wpAny_bind (wpAny_seqItems hS rfl ?_)
    show wpAny _ A.in1 (tryCatch (pyNext (.ref a)) _ >>= _) _ _ s
    refine wpAny_bind (wpAny_tryCatch (wpAny_mono (pull (A := A.in1) (E := fun _ _ => False) hh hroom hpn hgo ap (fun {al s s2} l e => sumLk_keep al s s2 (fun b _ o q => by rw [e]; exact q) l) sumLk_keep rd) (fun r s1 ⟨hb1, hks, h⟩ => ?_) fun _ _ e => e.elim))
    have hS1 := hks S (by simp) _ hS
    rcases h with ⟨rfl, al, H, σ', r1, lk1, q⟩ | ⟨v, al, H, y, Nx, σ', rfl, rv, r1, lk1, ⟨j, hj, ⟨f1, f2⟩, ⟨g1, g2⟩, q⟩, more⟩
    · obtain rfl := sumLk_one lk1 ⟨tS, cS, hS1⟩
      exact wpAny_pure (hR al tS s1 σ' H r1 hb1 q)
    · obtain rfl := sumLk_one lk1 ⟨tS, cS, hS1⟩
      subst hj
      obtain ⟨tv, rfl⟩ : ∃ t, v = Value.int j t := rv
      have hc : ((decide (-(2 ^ 63) ≤ j) && decide (j < 2 ^ 63)) && (decide (-(2 ^ 63) ≤ al + j) && decide (al + j < 2 ^ 63))) = true := by
        simp only [Bool.and_eq_true, decide_eq_true_eq]
        exact ⟨⟨f1, f2⟩, g1, g2⟩
      show wpAny _ A.in1 (if (_ : Bool) = true then (mkInt (al + j) >>= _) else _) _ _ _
      split
      · refine wpAny_bind (wpAny_mkInt ?_)
        show wpAny _ A.in1 (updateSeq S (fun _ => #[.int (al + j) s1.toks]) >>= _) _ _ _
        refine wpAny_bind ?_
        have hS2 := Heap.get?_update_self (h := s1.heap) (Obj.mapSeq (fun _ => #[Value.int (al + j) s1.toks])) hS1 rfl
        obtain ⟨k, hk, rd'⟩ := more (al + j) { s1 with toks := s1.toks + 1, heap := s1.heap.update S (Obj.mapSeq fun _ => #[Value.int (al + j) s1.toks]) } q
          ⟨rfl, hb1, fun b o hb e => (Heap.get?_update_other _ _ (fun z : S = b => hb (by simp [z]))).trans e, fun b hb => by
            obtain rfl : b = S := by simpa using hb
            exact ⟨_, hS2, fun v z => by cases z⟩⟩ rfl ⟨_, _, hS2⟩
        obtain rfl : n = k := Nat.succ.inj hk
        exact wpAny_updateSeq hS1 rfl (wpAny_pure ⟨plainId_quiet F.plain_sum_loop _, ih (al + j) _ ⟨_, _, hS2⟩ rd'⟩)
      · rename_i hneg
        exact absurd hc hneg
end
end Gx
namespace Gx
open PySem PySem.Spec PyProof.Rows L2 GenW GxR
open Sem (wp)

/-- the scope of a generator expression -/
structure GxS (N : List Str) (sc scope : Scope) (own : List (Str × Nat)) : Prop where
  blk : BlkOk N sc scope own
  co : scope.isCoroutine = false
  noCell : ∀ y ∈ scope.names, y.2 ≠ .cell
  dot : scope.names.lookup (".0" : Str) = some NameKind.local

/-- a generator that has not begun, in the state s3 -/
structure Made (X : Cx) (pins : List (Addr × Obj)) (σ : L2.St) (elt tg iter : Expr) (ifs : List Expr) (scope : Scope) (gpos : Pos) (own : List (Str × Nat)) (J : It) (H2 : Hp) (s2 : Shared) (fp : List Addr) (it : Addr) (tn : Nat → Heap → Prop) (code : Value) (a : Addr) (go : Obj) (g : Nat) (s3 : Shared) : Prop where
  inv : Inv X pins σ H2 s2
  fpk : ∀ b ∈ fp, FpOk X pins H2 b ∧ b < s2.heap.objs.size
  keep : ∀ b o, s2.heap.get? b = some o → s3.heap.get? b = some o
  os : s3.os = s2.os
  bare : AllBare s3.gens
  frame : ∀ A' : Around, A'.handled = none → A'.frames = some (genEnv scope (cloFrom X.env.cells scope.names []) s2.heap.objs.size code builtinsNs X.env :: X.stack) →
    Inv (gcx X s2 H2 scope (cloFrom X.env.cells scope.names []) s2.heap.objs.size code A' fp [(a, go)]) [] (wipe σ (own.map (·.2))) H2 s3
  turn : Turn X.prog X.w X.K tg J fp it tn
  st : tn 0 s3.heap
  gen : s3.gens[g]? = some (.fresh (.compStart (gexp elt tg iter ifs scope gpos) 0 (.ref it) .none (genEnv scope (cloFrom X.env.cells scope.names []) s2.heap.objs.size code builtinsNs X.env)))
  isg : ∀ h : Heap, h.get? a = some go → h.IsGen a g
  lt : s2.heap.objs.size < a ∧ s3.heap.objs.size > a

section
variable {X : Cx} {pins : List (Addr × Obj)} {σ : L2.St} {H : Hp} {s : Shared}
theorem gen_make {c P : Addr} {elt tg iter : Expr} {ifs : List Expr} {scope : Scope} {gpos : Pos} {own : List (Str × Nat)} {wi : TI} {k : Nat} {Q' : Value → Shared → Prop} {R : It → Hp → Prop}
    (hr : Room k X.A) (TB : TabB X.base X.mg c P) (hcode : X.env.code = .ref c) (hN : X.N.Nodup) (S : GxS X.N X.env.scope scope own) (hi : PI X tg iter wi) (hs : ∀ v, genFold iter X.env v = pure v) (I : Inv X pins σ H s)
    (h : wi σ H fun J H1 => TabG H1 P ∧ R J H1)
    (hQ : ∀ J H1 H2 s2 fp it tn code a go g s3, R J H1 → Tabbed P H1 H2 → Made X pins σ elt tg iter ifs scope gpos own J H2 s2 fp it tn code a go g s3 → Q' (.ref a) s3) :
    wpAny (model X.prog X.w) X.A (eval (gexp elt tg iter ifs scope gpos) X.env) Q' X.xe s := by
  have hfree : ∀ y ∈ scope.names, y.2 = .free → ∃ c, X.env.cells.lookup y.1 = some c := fun y hy e => by
    rcases S.blk.free y hy e with z | z
    · exact I.ok.has _ (.inl z)
    · exact I.ok.has _ (.inr z)
  refine wpAny_GeneratorExp_make S.co (closure_ok hfree) S.noCell S.dot S.blk.kind (by have := hr.dp; omega) ?_ hs
  refine wpAny_mono (hi.run pins s σ H _ I h) (fun xv s1 h1 => wpAny_mono h1 (fun itv s2 h2 => ?_) fun _ _ e => e) fun _ _ e => e
  obtain ⟨it, fp, tn, J, H1, rfl, I2, T, st2, f2, ⟨ps, hP, ht⟩, q⟩ := h2
  refine ⟨I2.nolimit, ?_⟩
  have hPs : s2.heap.get? P = some { cls := .none, data := .fields ps } := I2.hok P _ hP
  have hPlt : P < s2.heap.objs.size := Heap.lt_size hPs
  have cd : PySem.W.CodeHd s2.heap c P := TB.code.keeps I2.bk
  have fpP : ∀ b ∈ fp, b ≠ P := fun b hb z => by
    have e := (f2 b hb).1
    rw [z, hP] at e
    cases e
  -- from the code object on
  have cont : ∀ (code : Value) (h3 : Heap) (tk : Nat) (more : Array Value), Heap.ExtBut P s2.heap h3 → s2.heap.objs.size ≤ h3.objs.size → h3.get? P = some { cls := .none, data := .fields (ps ++ more) } → TriplesOk (ps ++ more).toList →
      wpAny (model X.prog X.w) X.A (builtinsFor X.env.globals X.env.builtins) (fun bi s₄ =>
        ∀ h', h'.Ns s₄.heap.objs.size (fun y => if y = ".0" then some (Value.ref it) else none) → Heap.SameBut s₄.heap.objs.size (s₄.heap.push { cls := .type "frame", data := .dict #[] }) h' →
          Q' (.ref h'.objs.size) { s₄ with
            gens := s₄.gens.push (.fresh (.compStart (gexp elt tg iter ifs scope gpos) 0 (.ref it) .none (genEnv scope (cloFrom X.env.cells scope.names []) s₄.heap.objs.size code bi X.env))),
            toks := s₄.toks + 1 + 1 + 1,
            heap := h'.push { cls := .type "generator", data := .fields #[.int s₄.gens.size 0, .str "<genexpr>" (s₄.toks + 1), .str (X.env.qual ++ "<genexpr>") (s₄.toks + 1 + 1)] } }) X.xe { s2 with heap := h3, toks := tk } := by
    intro code h3 tk more hx hsz hP3 ht3
    obtain ⟨bm, ob, e1, e2, e3, e4, e5, e6, e7, e8⟩ := TB.bm
    have keep3 : ∀ b o, b ≠ P → s2.heap.get? b = some o → h3.get? b = some o := fun b o hb e => hx b o hb e
    refine wpAny_builtinsFor (m := X.mg) (by rw [I2.ok.glob]; exact (I2.mod.glob.keeps I2.bk).extBut hx TB.gP) e1 e2 (keep3 _ _ e4 (I2.bk _ _ e5)) e6 e7 e8 ?_
    have I3 : Inv X pins σ (upd H1 P (.tbl (ps ++ more))) { s2 with heap := h3, toks := tk } := inv_tab I2 hP keep3 hP3 I2.bare
    intro h' hns hsb
    have hsz' : h'.objs.size = h3.objs.size + 1 := by rw [hsb.1, Heap.size_push]
    have f3 : ∀ b ∈ fp, FpOk X pins (upd H1 P (.tbl (ps ++ more))) b ∧ b < h3.objs.size := fun b hb => by
      refine ⟨⟨by rw [upd_ne (fpP b hb)]; exact (f2 b hb).1, (f2 b hb).2⟩, ?_⟩
      obtain ⟨o, e, _⟩ := T.obj _ _ st2 b hb
      exact Nat.lt_of_lt_of_le (Heap.lt_size e) hsz
    have kp : ∀ (u : Obj) (b : Addr) (o : Obj), h3.get? b = some o → (h'.push u).get? b = some o := fun u b o e =>
      Heap.get?_push_of_some _ (hsb.extBut b o (Nat.ne_of_lt (Heap.lt_size e)) (Heap.get?_push_of_some _ e))
    have bare3 : ∀ c : Code, AllBare (s2.gens.push (.fresh c)) := fun c => AllBare.push I2.bare rfl
    refine hQ J H1 (upd H1 P (.tbl (ps ++ more))) { s2 with heap := h3, toks := tk } fp it tn code h'.objs.size { cls := .type "generator", data := .fields #[.int s2.gens.size 0, .str "<genexpr>" (tk + 1), .str (X.env.qual ++ "<genexpr>") (tk + 1 + 1)] } s2.gens.size _ q ⟨⟨ps ++ more, upd_same, ht3⟩, fun b hb => upd_ne hb⟩
      ⟨I3, f3, kp _, rfl, bare3 _, fun A' hA hF => ?_, T, ?_, Array.getElem?_push_size .., fun h e => ⟨_, _, _, e, rfl, rfl, rfl⟩, ?_⟩
    · exact gen_start I3 S.blk hN f3 (fun {y} hm => S.noCell _ hm rfl) hA hF hns hsb (fun v z => by cases z) (fun h => Heap.get?_push_size _ rfl) (bare3 _)
    · refine T.keep 0 s2.heap _ st2 fun b hb o e => kp _ b o (keep3 b o (fpP b hb) e)
    · refine ⟨?_, ?_⟩
      · show h3.objs.size < h'.objs.size
        omega
      · show (h'.push _).objs.size > h'.objs.size
        rw [Heap.size_push]
        exact Nat.lt_succ_self _
  cases hf : codeAmong gpos ps.toList with
  | none =>
    refine wpAny_genexprCodeX hcode (cd.code hPs ht) (cd.tab hPs) hf fun c' h' tk hx hge hlt hco' _ htab' _ => ?_
    obtain ⟨o1, vs, f1, tf, fl, tg, inF, tx, tt, op, _, _, _, _, _, _, _, _, _, htr, _⟩ := hco'
    exact cont _ h' tk _ hx (Nat.le_trans hge (Nat.le_of_lt hlt)) htab'.2 htr
  | some cv =>
    refine wpAny_genexprCode_hit hcode (cd.code hPs ht) hf ?_
    exact cont cv s2.heap s2.toks #[] (Heap.ExtBut.refl _ _) (Nat.le_refl _) (by rw [Array.append_empty]; exact hPs) (by rw [Array.append_empty]; exact ht)
end
end Gx
namespace Gx
open PySem PySem.Spec PyProof.Rows L2 GenW GxR
open Sem (wp)

theorem wipe_wipe (σ : L2.St) (vs : List Nat) : wipe (wipe σ vs) vs = wipe σ vs := by
  apply List.ext_getElem?
  intro i
  have key : ∀ (τ : L2.St) (ws : List Nat), (wipe τ ws)[i]? = if i ∈ ws ∧ i < τ.length then some none else τ[i]? := by
    intro τ ws
    induction ws with
    | nil => simp [wipe]
    | cons v ws ih =>
      unfold wipe
      by_cases hv : v = i
      · subst hv
        by_cases hl : v < τ.length
        · rw [List.getElem?_set_self (by rw [wipe_length]; exact hl), if_pos ⟨List.mem_cons_self, hl⟩]
        · rw [List.getElem?_eq_none (by rw [List.length_set, wipe_length]; omega), if_neg (fun z => hl z.2), List.getElem?_eq_none (by omega)]
      · rw [List.getElem?_set_ne hv, ih]
        have e : (i ∈ v :: ws ∧ i < τ.length) ↔ (i ∈ ws ∧ i < τ.length) := by
          constructor
          · rintro ⟨z, hl⟩
            rcases List.mem_cons.mp z with z | z
            · exact absurd z.symm hv
            · exact ⟨z, hl⟩
          · rintro ⟨z, hl⟩
            exact ⟨List.mem_cons_of_mem _ z, hl⟩
        by_cases hc : i ∈ ws ∧ i < τ.length
        · rw [if_pos hc, if_pos (e.mpr hc)]
        · rw [if_neg hc, if_neg (fun z => hc (e.mp z))]
  rw [key (wipe σ vs) vs, key σ vs, wipe_length]
  by_cases hc : i ∈ vs ∧ i < σ.length
  · rw [if_pos hc, if_pos hc]
  · rw [if_neg hc]

/-- the around of the frame, under the consumer -/
abbrev gA (A : Around) (env : Env) : Around := (A.in1.in1).deeper env
theorem gA_room {k : Nat} {A : Around} (r : Room (k + 1) A) (env : Env) : Room k (gA A env) :=
  ⟨r.hd, by have := r.dp; show A.depth + 1 + 3 * k + 5 < _; omega, by have := r.un; show A.units + 1 + 1 + 3 + 16 * k + 200 < _; omega⟩
theorem gA_frames {A : Around} {st : List Env} (h : A.frames = some st) (env : Env) : (gA A env).frames = some (env :: st) := Around.frames_deeper (A := A.in1.in1) h

section
variable {X : Cx} {pins : List (Addr × Obj)} {σ : L2.St} {H : Hp} {s : Shared}
/-- what stands ready for a consumer: W the invariant of the turns -/
theorem made_ready {α : Type} {ss : List Addr} {Lk : α → Shared → Prop} {Got : α → (α → Hp → Prop) → V → Hp → Prop} {Fin : α → Hp → Prop} {k : Nat} {elt tg iter : Expr} {ifs : List Expr} {scope : Scope} {gpos : Pos} {own : List (Str × Nat)} {J : It} {H2 : Hp} {s2 : Shared} {fp : List Addr} {it : Addr} {tn : Nat → Heap → Prop} {code : Value} {a : Addr} {go : Obj} {g : Nat} {s3 s4 : Shared}
    {gt : TG} {tt : TT} {te : TE} {W : Nat → Nat → α → Hp → Prop} {m : Nat} {a0 : α} (hr : Room (k + 1) X.A) (S : GxS X.N X.env.scope scope own)
    (hg : ∀ (s : Shared) (H : Hp) (cl : List (Str × Addr)) (C : Addr) (code : Value) (A' : Around) (fp : List Addr) (pn : List (Addr × Obj)), Room k A' → PG (gcx X s H scope cl C code A' fp pn) tg gt)
    (ht : ∀ (s : Shared) (H : Hp) (cl : List (Str × Addr)) (C : Addr) (code : Value) (A' : Around) (fp : List Addr) (pn : List (Addr × Obj)), Room k A' → PTs (gcx X s H scope cl C code A' fp pn) ifs tt)
    (he : ∀ (s : Shared) (H : Hp) (cl : List (Str × Addr)) (C : Addr) (code : Value) (A' : Around) (fp : List Addr) (pn : List (Addr × Obj)), Room k A' → PE (gcx X s H scope cl C code A' fp pn) elt te)
    (M : Made X pins σ elt tg iter ifs scope gpos own J H2 s2 fp it tn code a go g s3)
    (hss : ∀ b ∈ ss, s3.heap.objs.size ≤ b) (hAs : Asl ss s3 s4) (hgn : s4.gens = s3.gens) (hLk : ∀ a s s', (∀ b ∈ ss, ∀ o, s.heap.get? b = some o → s'.heap.get? b = some o) → Lk a s → Lk a s') (lk : Lk a0 s4)
    (w0 : W 0 m a0 H2) (turns : Turns (wipe σ (own.map (·.2))) Got Fin J gt tt te (own.map (·.2)) W) :
    let Y := gcx X s2 H2 scope (cloFrom X.env.cells scope.names []) s2.heap.objs.size code (gA X.A (genEnv scope (cloFrom X.env.cells scope.names []) s2.heap.objs.size code builtinsNs X.env)) fp [(a, go)]
    ApL Y ss ∧ Ready Y ss Lk Got Fin X.A.in1 a g (m + 1) s4 := by
  intro Y
  have hA : (gA X.A (genEnv scope (cloFrom X.env.cells scope.names []) s2.heap.objs.size code builtinsNs X.env)).handled = none := hr.hd
  have hF := gA_frames M.inv.ok.frames (genEnv scope (cloFrom X.env.cells scope.names []) s2.heap.objs.size code builtinsNs X.env)
  have room := gA_room hr (genEnv scope (cloFrom X.env.cells scope.names []) s2.heap.objs.size code builtinsNs X.env)
  have I3 := M.frame _ hA hF
  have hlt := M.lt
  have hsz : s2.heap.objs.size ≤ s3.heap.objs.size := by omega
  have ap : ApL Y ss := fun b hb => by
    have h1 := hss b hb
    refine ⟨Nat.le_trans hsz h1, ?_, fun x c e z => ?_, fun p hp => ?_⟩
    · exact Nat.ne_of_gt (show s2.heap.objs.size < b by omega)
    · have h2 : c < s2.heap.objs.size := (clo_get M.inv S.blk e).2.1
      exact Nat.ne_of_lt (Nat.lt_of_lt_of_le h2 (Nat.le_trans hsz h1)) z
    · have e : p = (a, go) := List.mem_singleton.mp hp
      rw [e]
      exact Nat.ne_of_lt (Nat.lt_of_lt_of_le hlt.2 h1)
  have r3 : Rest Y ss (wipe σ (own.map (·.2))) H2 s4 := by
    have r0 : Rest Y [] (wipe σ (own.map (·.2))) H2 s3 := ⟨I3, fun b hb => absurd hb (by simp)⟩
    -- s4: the consumer's own objects are new
    have hk : ∀ b o, s3.heap.get? b = some o → s4.heap.get? b = some o := fun b o e => hAs.keep b o (fun hb => absurd (Heap.lt_size e) (Nat.not_lt.mpr (hss b hb))) e
    have r4 : Rest Y [] (wipe σ (own.map (·.2))) H2 s4 := r0.woken (fun b hb => absurd hb (by simp)) ⟨hAs.os, hAs.bare, fun b o _ e => hk b o e, fun b hb => absurd hb (by simp)⟩
    refine ⟨r4.inv.pins_of fun p hp => ?_, hAs.own⟩
    obtain ⟨hb, e⟩ := of_pinsAt hp
    obtain ⟨o, e', dd⟩ := hAs.own p.1 hb
    rw [e] at e'
    cases e'
    obtain ⟨a1, a2, a3, a4⟩ := ap p.1 hb
    refine ⟨e, I3.hok.fresh (hss p.1 hb), a2, ?_, dd⟩
    exact I3.nofs (hss p.1 hb)
  refine ⟨ap, ⟨M.isg _ (r3.inv.pin (a, go) (List.mem_append_left _ (List.mem_singleton.mpr rfl))).1, r3.inv.nolimit, hAs.bare, .fresh (.compStart (gexp elt tg iter ifs scope gpos) 0 (.ref it) .none Y.env), by rw [hgn]; exact M.gen, rfl, ?_⟩⟩
  have hbr : AllBare (s4.setGen g .running).gens := allBare_setGen hAs.bare rfl
  have r5 : Rest Y ss (wipe σ (own.map (·.2))) H2 (s4.setGen g .running) := r3.woken ap ⟨rfl, hbr, fun b o _ e => e, fun b hb => r3.own b hb⟩
  have fps : ∀ b ∈ fp, b ∉ ss := fun b hb z => by
    exact absurd (Nat.lt_of_lt_of_le (M.fpk b hb).2 (Nat.le_trans hsz (hss b z))) (Nat.lt_irrefl _)
  have st4 : tn 0 (s4.setGen g .running).heap := M.turn.keep 0 s3.heap _ M.st fun b hb o e => hAs.keep b o (fps b hb) e
  refine seg_begin (Y := Y) (tn := tn) (fun A s Q E => M.turn.self A 0 s Q E) st4 ?_
  refine seg_turns (Y := Y) (σ := wipe σ (own.map (·.2))) (vs := own.map (·.2)) (J := J) (W := W) rfl rfl rfl S.co rfl (wipe_wipe _ _) ap fps (fun p hp hf => ?_) hLk M.turn (hg _ _ _ _ _ _ _ _ room) (ht _ _ _ _ _ _ _ _ room) (he _ _ _ _ _ _ _ _ room) turns
    m (m + 1) 0 a0 _ _ H2 (Nat.lt_succ_self m) (fun _ _ _ e => e) r5 st4 (fun b hb => (M.fpk b hb).1.1) (hLk a0 s4 _ (fun _ _ _ e => e) lk) w0
  have e : p = (a, go) := List.mem_singleton.mp hp
  rw [e] at hf
  exact absurd (Nat.lt_trans (M.fpk a hf).2 hlt.1) (Nat.lt_irrefl _)
/-- back in the def -/
theorem made_back {ss : List Addr} {elt tg iter : Expr} {ifs : List Expr} {scope : Scope} {gpos : Pos} {own : List (Str × Nat)} {J : It} {H2 H' : Hp} {s2 : Shared} {fp : List Addr} {it : Addr} {tn : Nat → Heap → Prop} {code : Value} {a : Addr} {go : Obj} {g : Nat} {s3 s' : Shared} {A' : Around} {σ' : L2.St}
    (M : Made X pins σ elt tg iter ifs scope gpos own J H2 s2 fp it tn code a go g s3)
    (r : Rest (gcx X s2 H2 scope (cloFrom X.env.cells scope.names []) s2.heap.objs.size code A' fp [(a, go)]) ss σ' H' s') : Inv X pins σ H' s' :=
  M.inv.call' (ch := fp) r.inv.os r.inv.base r.inv.hok r.inv.bare fun b hb => ⟨(M.fpk b hb).1.2.2.2.1, (M.fpk b hb).1.2.1, (M.fpk b hb).1.2.2.2.2.1, (M.fpk b hb).1.2.2.2.2.2⟩
end
end Gx
namespace Gx
open PySem PySem.Spec PyProof.Rows L2 GenW GxR
open Sem (wp)

/-- all(elt for tg in iter if ..): behind it the def's table may have grown -/
def tAllX (P : Addr) (wi : TI) (gt : TG) (tt : TT) (te : TE) (vs : List Nat) : TE := fun σ H Q => wi σ H fun J H1 => TabG H1 P ∧ ∀ H2, Tabbed P H1 H2 →
  ∃ W : Nat → Nat → Unit → Hp → Prop, (∃ m, W 0 m () H2) ∧ Turns (wipe σ vs) (gotAll Q) (fun _ H => Q (.bl true) H) J gt tt te vs W
def tAnyX (P : Addr) (wi : TI) (gt : TG) (tt : TT) (te : TE) (vs : List Nat) : TE := fun σ H Q => wi σ H fun J H1 => TabG H1 P ∧ ∀ H2, Tabbed P H1 H2 →
  ∃ W : Nat → Nat → Unit → Hp → Prop, (∃ m, W 0 m () H2) ∧ Turns (wipe σ vs) (gotAny Q) (fun _ H => Q (.bl false) H) J gt tt te vs W
def tSumX (P : Addr) (wi : TI) (gt : TG) (tt : TT) (te : TE) (vs : List Nat) : TE := fun σ H Q => wi σ H fun J H1 => TabG H1 P ∧ ∀ H2, Tabbed P H1 H2 →
  ∃ W : Nat → Nat → Int → Hp → Prop, (∃ m, W 0 m 0 H2) ∧ Turns (wipe σ vs) (gotSum Q) (fun i H => Q (.int i) H) J gt tt te vs W

section
variable {X : Cx} {c P : Addr} {elt tg iter : Expr} {ifs : List Expr} {scope : Scope} {gpos pos p : Pos} {own : List (Str × Nat)} {wi : TI} {gt : TG} {tt : TT} {te : TE} {k : Nat}
theorem pe_allX (hr : Room (k + 1) X.A) (hgl : Gl X "all") (hm : X.mg "all" = none) (TB : TabB X.base X.mg c P) (hcode : X.env.code = .ref c) (hN : X.N.Nodup) (S : GxS X.N X.env.scope scope own) (hi : PI X tg iter wi)
    (hg : ∀ (s : Shared) (H : Hp) (cl : List (Str × Addr)) (C : Addr) (code : Value) (A' : Around) (fp : List Addr) (pn : List (Addr × Obj)), Room k A' → PG (gcx X s H scope cl C code A' fp pn) tg gt)
    (ht : ∀ (s : Shared) (H : Hp) (cl : List (Str × Addr)) (C : Addr) (code : Value) (A' : Around) (fp : List Addr) (pn : List (Addr × Obj)), Room k A' → PTs (gcx X s H scope cl C code A' fp pn) ifs tt)
    (he : ∀ (s : Shared) (H : Hp) (cl : List (Str × Addr)) (C : Addr) (code : Value) (A' : Around) (fp : List Addr) (pn : List (Addr × Obj)), Room k A' → PE (gcx X s H scope cl C code A' fp pn) elt te)
    (hs : ∀ v, genFold iter X.env v = pure v := by intro _; rfl)
    (hst : starEach [gexp elt tg iter ifs scope gpos] X.env = (false, eval (gexp elt tg iter ifs scope gpos) X.env) :: starEach [] X.env := by rfl) :
    PE X (.Call (.Name "all" p) [gexp elt tg iter ifs scope gpos] [] pos) (tAllX P wi gt tt te (own.map (·.2))) := by
  refine ⟨fun pins s σ H Q I h => ?_⟩
  refine wpAny_Call_Name_kw (ld_blt I hgl hm (by decide +kernel : bootBuiltins "all" = some (.builtin "all")) ?_)
  refine PyProof.Rows.callWith_builtin1 ?_ hst (by rfl)
  rw [hst]
  show wpAny _ _ (spliced ((false, eval (gexp elt tg iter ifs scope gpos) X.env) :: backTo pos (starEach [] X.env))) _ _ s
  refine Calls.spliced_cons (gen_make hr TB hcode hN S hi hs I h fun J H1 H2 s2 fp it tn code a go g s3 hw hT M => ?_)
  refine Calls.spliced_nil ?_
  obtain ⟨W, ⟨m, w0⟩, turns⟩ := hw H2 hT
  obtain ⟨_, rd⟩ := made_ready (ss := []) (Lk := noLk) (s4 := s3) hr S hg ht he M (fun b hb => absurd hb (by simp)) (asl_gens rfl rfl M.bare) rfl (fun _ _ _ _ _ => True.intro) True.intro w0 turns
  refine call_function_tree F.kind_all F.plain_all F.entry_all (F.args_all1 _) ?_
  unfold Builtin.«all»
  refine wpAny_bind (m := oneArg "all" _) (wpAny_pure ?_)
  refine wpAny_bind (wpAny_pyIter_gen rd.1 ?_)
  refine wpAny_pure ⟨plainId_quiet F.plain_all_loop _, ?_⟩
  refine all_loop (Y := (gcx X s2 H2 scope (cloFrom X.env.cells scope.names []) s2.heap.objs.size code (gA X.A (genEnv scope (cloFrom X.env.cells scope.names []) s2.heap.objs.size code builtinsNs X.env)) fp [(a, go)])) (A := X.A) (Q := Q) hr.hd (by have := hr.dp; show X.A.depth < _; omega) (List.mem_singleton.mpr rfl) M.isg (fun cc s1 σ' H' r hb q => ?_) (m + 1) s3 rd
  exact ⟨.bl cc, H', made_back M r, rfl, q⟩
theorem pe_anyX (hr : Room (k + 1) X.A) (hgl : Gl X "any") (hm : X.mg "any" = none) (TB : TabB X.base X.mg c P) (hcode : X.env.code = .ref c) (hN : X.N.Nodup) (S : GxS X.N X.env.scope scope own) (hi : PI X tg iter wi)
    (hg : ∀ (s : Shared) (H : Hp) (cl : List (Str × Addr)) (C : Addr) (code : Value) (A' : Around) (fp : List Addr) (pn : List (Addr × Obj)), Room k A' → PG (gcx X s H scope cl C code A' fp pn) tg gt)
    (ht : ∀ (s : Shared) (H : Hp) (cl : List (Str × Addr)) (C : Addr) (code : Value) (A' : Around) (fp : List Addr) (pn : List (Addr × Obj)), Room k A' → PTs (gcx X s H scope cl C code A' fp pn) ifs tt)
    (he : ∀ (s : Shared) (H : Hp) (cl : List (Str × Addr)) (C : Addr) (code : Value) (A' : Around) (fp : List Addr) (pn : List (Addr × Obj)), Room k A' → PE (gcx X s H scope cl C code A' fp pn) elt te)
    (hs : ∀ v, genFold iter X.env v = pure v := by intro _; rfl)
    (hst : starEach [gexp elt tg iter ifs scope gpos] X.env = (false, eval (gexp elt tg iter ifs scope gpos) X.env) :: starEach [] X.env := by rfl) :
    PE X (.Call (.Name "any" p) [gexp elt tg iter ifs scope gpos] [] pos) (tAnyX P wi gt tt te (own.map (·.2))) := by
  refine ⟨fun pins s σ H Q I h => ?_⟩
  refine wpAny_Call_Name_kw (ld_blt I hgl hm (by decide +kernel : bootBuiltins "any" = some (.builtin "any")) ?_)
  refine PyProof.Rows.callWith_builtin1 ?_ hst (by rfl)
  rw [hst]
  show wpAny _ _ (spliced ((false, eval (gexp elt tg iter ifs scope gpos) X.env) :: backTo pos (starEach [] X.env))) _ _ s
  refine Calls.spliced_cons (gen_make hr TB hcode hN S hi hs I h fun J H1 H2 s2 fp it tn code a go g s3 hw hT M => ?_)
  refine Calls.spliced_nil ?_
  obtain ⟨W, ⟨m, w0⟩, turns⟩ := hw H2 hT
  obtain ⟨_, rd⟩ := made_ready (ss := []) (Lk := noLk) (s4 := s3) hr S hg ht he M (fun b hb => absurd hb (by simp)) (asl_gens rfl rfl M.bare) rfl (fun _ _ _ _ _ => True.intro) True.intro w0 turns
  refine call_function_tree F.kind_any F.plain_any F.entry_any (F.args_any1 _) ?_
  unfold Builtin.«any»
  refine wpAny_bind (m := oneArg "any" _) (wpAny_pure ?_)
  refine wpAny_bind (wpAny_pyIter_gen rd.1 ?_)
  refine wpAny_pure ⟨plainId_quiet F.plain_any_loop _, ?_⟩
  refine any_loop (Y := (gcx X s2 H2 scope (cloFrom X.env.cells scope.names []) s2.heap.objs.size code (gA X.A (genEnv scope (cloFrom X.env.cells scope.names []) s2.heap.objs.size code builtinsNs X.env)) fp [(a, go)])) (A := X.A) (Q := Q) hr.hd (by have := hr.dp; show X.A.depth < _; omega) (List.mem_singleton.mpr rfl) M.isg (fun cc s1 σ' H' r hb q => ?_) (m + 1) s3 rd
  exact ⟨.bl cc, H', made_back M r, rfl, q⟩
theorem pe_sumX (hr : Room (k + 1) X.A) (hgl : Gl X "sum") (hm : X.mg "sum" = none) (TB : TabB X.base X.mg c P) (hcode : X.env.code = .ref c) (hN : X.N.Nodup) (S : GxS X.N X.env.scope scope own) (hi : PI X tg iter wi)
    (hg : ∀ (s : Shared) (H : Hp) (cl : List (Str × Addr)) (C : Addr) (code : Value) (A' : Around) (fp : List Addr) (pn : List (Addr × Obj)), Room k A' → PG (gcx X s H scope cl C code A' fp pn) tg gt)
    (ht : ∀ (s : Shared) (H : Hp) (cl : List (Str × Addr)) (C : Addr) (code : Value) (A' : Around) (fp : List Addr) (pn : List (Addr × Obj)), Room k A' → PTs (gcx X s H scope cl C code A' fp pn) ifs tt)
    (he : ∀ (s : Shared) (H : Hp) (cl : List (Str × Addr)) (C : Addr) (code : Value) (A' : Around) (fp : List Addr) (pn : List (Addr × Obj)), Room k A' → PE (gcx X s H scope cl C code A' fp pn) elt te)
    (hs : ∀ v, genFold iter X.env v = pure v := by intro _; rfl)
    (hst : starEach [gexp elt tg iter ifs scope gpos] X.env = (false, eval (gexp elt tg iter ifs scope gpos) X.env) :: starEach [] X.env := by rfl) :
    PE X (.Call (.Name "sum" p) [gexp elt tg iter ifs scope gpos] [] pos) (tSumX P wi gt tt te (own.map (·.2))) := by
  refine ⟨fun pins s σ H Q I h => ?_⟩
  refine wpAny_Call_Name_kw (ld_blt I hgl hm (by decide +kernel : bootBuiltins "sum" = some (.builtin "sum")) ?_)
  refine PyProof.Rows.callWith_builtin1 ?_ hst (by rfl)
  rw [hst]
  show wpAny _ _ (spliced ((false, eval (gexp elt tg iter ifs scope gpos) X.env) :: backTo pos (starEach [] X.env))) _ _ s
  refine Calls.spliced_cons (gen_make hr TB hcode hN S hi hs I h fun J H1 H2 s2 fp it tn code a go g s3 hw hT M => ?_)
  refine Calls.spliced_nil ?_
  obtain ⟨W, ⟨m, w0⟩, turns⟩ := hw H2 hT
  have ready := fun (s4 : Shared) hss hAs hgn lk => made_ready (ss := [s3.heap.objs.size]) (Lk := sumLk s3.heap.objs.size) (s4 := s4) hr S hg ht he M hss hAs hgn sumLk_keep lk w0 turns
  have isg : s3.heap.IsGen a g := by
    have hA : (gA X.A (genEnv scope (cloFrom X.env.cells scope.names []) s2.heap.objs.size code builtinsNs X.env)).handled = none := hr.hd
    have I3 := M.frame _ hA (gA_frames M.inv.ok.frames _)
    exact M.isg _ (I3.pin (a, go) (List.mem_append_left _ (List.mem_singleton.mpr rfl))).1
  refine call_function_tree F.kind_sum F.plain_sum F.entry_sum (F.args_sum1 _) ?_
  unfold Builtin.«sum»
  simp only [List.length_cons, List.length_nil]
  rw [if_neg (by decide)]
  refine wpAny_bind (wpAny_of_eq (show Builtin.Builtins.bindParams "sum" ["start"] 0 { } = pure [none] from rfl) ?_)
  refine wpAny_bind (wpAny_pyIter_gen isg ?_)
  refine wpAny_bind (wpAny_mkInt ?_)
  refine wpAny_bind (wpAny_pure ?_)
  simp only [List.forIn_cons, List.forIn_nil]
  refine wpAny_bind (wpAny_bind (wpAny_bind (wpAny_isInstance (T := "int") (b := false) (typeIs_int _ _ _) PySem.sub_int_str ?_)))
  simp only [Bool.false_eq_true, if_false]
  refine wpAny_pure (wpAny_bind (wpAny_bind (wpAny_isInstance (T := "int") (b := false) (typeIs_int _ _ _) PySem.sub_int_bytes ?_)))
  simp only [Bool.false_eq_true, if_false]
  refine wpAny_pure (wpAny_bind (wpAny_bind (wpAny_isInstance (T := "int") (b := false) (typeIs_int _ _ _) PySem.sub_int_bytearray ?_)))
  simp only [Bool.false_eq_true, if_false]
  refine wpAny_pure (wpAny_pure ?_)
  refine wpAny_bind (wpAny_newObj_type ?_)
  refine wpAny_pure ⟨plainId_quiet F.plain_sum_loop _, ?_⟩
  have hS := Heap.get?_push_size s3.heap (o := { cls := .type "list", dict := none, data := .seq #[Value.int 0 s3.toks] 0, slots := #[] }) rfl
  obtain ⟨ap, rd⟩ := ready { s3 with toks := s3.toks + 1, heap := s3.heap.push { cls := .type "list", dict := none, data := .seq #[Value.int 0 s3.toks] 0, slots := #[] } } (fun b hb => Nat.le_of_eq (List.mem_singleton.mp hb).symm)
    ⟨rfl, M.bare, fun b o _ e => Heap.get?_push_of_some _ e, fun b hb => by
      obtain rfl := List.mem_singleton.mp hb
      exact ⟨_, hS, fun v z => by cases z⟩⟩ rfl ⟨_, _, hS⟩
  refine sum_loop (Y := (gcx X s2 H2 scope (cloFrom X.env.cells scope.names []) s2.heap.objs.size code (gA X.A (genEnv scope (cloFrom X.env.cells scope.names []) s2.heap.objs.size code builtinsNs X.env)) fp [(a, go)])) (A := X.A) (Q := Q) (S := s3.heap.objs.size) hr.hd (by have := hr.dp; show X.A.depth < _; omega) (List.mem_singleton.mpr rfl) M.isg ap (fun i t s1 σ' H' r hb q => ?_) (m + 1) 0 _ ⟨_, _, hS⟩ rd
  exact ⟨.int i, H', made_back M r, ⟨t, rfl⟩, q⟩
end
end Gx
set_option maxRecDepth 100000
set_option maxHeartbeats 2000000
/-! repr of data of any depth, dicts among it -/
namespace Rp
open PySem PySem.Spec PyProof.Rows L2

def kD : Key → PyData
  | .inl i => .int i
  | .inr x => .str x
mutual
/-- what stands at a value, as data: dicts too -/
inductive Da (K : PySem.W.Frag) (H : Hp) : V → PyData → Prop
  | non : Da K H .non .none
  | bl (b : Bool) : Da K H (.bl b) (.bool b)
  | int (i : Int) : Da K H (.int i) (.int i)
  | str (x : Str) : Da K H (.str x) (.str x)
  | lst {a : Addr} {xs : List V} {ds : List PyData} : Rd H a (.lst xs) → DaAll K H xs ds → Da K H (.ref a) (.list ds)
  | tup {a : Addr} {xs : List V} {ds : List PyData} : Rd H a (.tup xs) → DaAll K H xs ds → Da K H (.ref a) (.tuple ds)
  | dct {a : Addr} {kvs : List (Key × V)} {ds : List (PyData × PyData)} : Rd H a (.dK kvs) → (kvs.map (·.1)).Nodup → DaKv K H kvs ds → Da K H (.ref a) (.dict ds)
inductive DaAll (K : PySem.W.Frag) (H : Hp) : List V → List PyData → Prop
  | nil : DaAll K H [] []
  | cons {v : V} {vs : List V} {d : PyData} {ds : List PyData} : Da K H v d → DaAll K H vs ds → DaAll K H (v :: vs) (d :: ds)
inductive DaKv (K : PySem.W.Frag) (H : Hp) : List (Key × V) → List (PyData × PyData) → Prop
  | nil : DaKv K H [] []
  | cons {k : Key} {v : V} {r : List (Key × V)} {d : PyData} {ds : List (PyData × PyData)} : Da K H v d → DaKv K H r ds → DaKv K H ((k, v) :: r) ((kD k, d) :: ds)
end
mutual
/-- no list within -/
def noL : PyData → Bool
  | .list _ => false
  | .tuple xs => noLAll xs
  | .dict kvs => noLKv kvs
  | _ => true
def noLAll : List PyData → Bool
  | [] => true
  | x :: xs => noL x && noLAll xs
def noLKv : List (PyData × PyData) → Bool
  | [] => true
  | (_, v) :: r => noL v && noLKv r
end
section
variable {X : Cx} {pins : List (Addr × Obj)} {σ : L2.St} {H : Hp} {s : Shared}
theorem keys_read {P : Program} {w : World} {h : Heap} : ∀ {es : List DictEntry} {kvs : List (Key × V)} {us : List (Key × Value)}, KV kvs us → Pairs (mixKind P w) es us → ReadsAll h (es.map (·.key)) (kvs.map fun p => kD p.1) []
  | _, _, _, .nil, .nil => .nil
  | e :: es, (k, v) :: kvs, (k', u) :: us, .cons r rs, .cons hk hv hp => by
    have e1 : k = k' := r.1
    subst e1
    have ih := keys_read (h := h) rs hp
    have q : Reads h e.key (kD k) [] := by
      rcases keyIs_shape (show keyIs k e.key = true from hk) with ⟨i, t, z1, z2⟩ | ⟨x, t, z1, z2⟩
      · rw [z1, z2]
        exact .int i t
      · rw [z1, z2]
        exact .str x t
    exact ReadsAll.cons q ih
theorem vals_read {P : Program} {w : World} : ∀ {es : List DictEntry} {kvs : List (Key × V)} {us : List (Key × Value)}, KV kvs us → Pairs (mixKind P w) es us → Vals (kvs.map (·.2)) (es.map (·.val))
  | _, _, _, .nil, .nil => .nil
  | e :: es, (k, v) :: kvs, (k', u) :: us, .cons r rs, .cons hk hv hp => by
    have hv : e.val = u := hv
    refine .cons ?_ (vals_read rs hp)
    show RelV v e.val
    rw [hv]
    exact r.2
theorem daKv_fst {K : PySem.W.Frag} : ∀ {kvs : List (Key × V)} {ds : List (PyData × PyData)}, DaKv K H kvs ds → ds.map (·.1) = kvs.map fun p => kD p.1
  | _, _, .nil => rfl
  | _, _, .cons _ h => by rw [List.map_cons, List.map_cons, daKv_fst h]
mutual
theorem Da.reads (I : Inv X pins σ H s) : ∀ (d : PyData) (v : V) (u : Value), Da X.K H v d → RelV v u → ∃ as, Reads s.heap u d as ∧ (noL d = true → sysModules ∉ as)
  | .none, _, _, h, r => by
    cases h
    cases r
    exact ⟨_, Reads.none, fun _ => List.not_mem_nil⟩
  | .bool b, _, _, h, r => by
    cases h
    cases r
    exact ⟨_, Reads.bool b, fun _ => List.not_mem_nil⟩
  | .int i, _, _, h, r => by
    cases h
    obtain ⟨t, rfl⟩ := r
    exact ⟨_, Reads.int i t, fun _ => List.not_mem_nil⟩
  | .str x, _, _, h, r => by
    cases h
    obtain ⟨t, rfl⟩ := r
    exact ⟨_, Reads.str x t, fun _ => List.not_mem_nil⟩
  | .list ds, _, _, h, r => by
    cases h with
    | lst hs ha =>
      cases r
      obtain ⟨its, rv, ⟨o, n, ho, hc, _, hd⟩, _⟩ := I.list (Or.inl hs)
      obtain ⟨as, hr, _⟩ := DaAll.reads I ds _ its ha rv
      exact ⟨_, Reads.list ho hc hd hr, fun z => by simp [noL] at z⟩
  | .tuple ds, _, _, h, r => by
    cases h with
    | tup hs ha =>
      cases r
      obtain ⟨its, rv, ⟨o, ho, hc, n, hd⟩, _⟩ := I.tuple (Or.inl hs)
      obtain ⟨as, hr, hn⟩ := DaAll.reads I ds _ its ha rv
      exact ⟨_, Reads.tuple ho hc hd hr, fun z => hn (by simpa [noL] using z)⟩
  | .dict ds, _, _, h, r => by
    cases h with
    | @dct a kvs _ hs _ ha =>
      cases r
      obtain ⟨_, hsys, us, rv, o, es, ep, ho, hx, hd, _, hp, _⟩ := (show ObjOk X.prog X.w H s.heap a (.dK kvs) from rd_of I.hok hs)
      obtain ⟨bs, hr, hn⟩ := DaKv.reads I ds kvs _ ha (vals_read rv hp)
      have hk := keys_read (h := s.heap) rv hp
      rw [← daKv_fst ha] at hk
      refine ⟨_, Reads.dict ho hx.1 hd hk hr, fun z hm => ?_⟩
      rcases List.mem_append.mp hm with hm | hm
      · have e : sysModules = a := by simpa using hm
        rw [← e] at hsys
        simp at hsys
      · exact hn (by simpa [noL] using z) hm
theorem DaAll.reads (I : Inv X pins σ H s) : ∀ (ds : List PyData) (vs : List V) (us : List Value), DaAll X.K H vs ds → Vals vs us → ∃ as, ReadsAll s.heap us ds as ∧ (noLAll ds = true → sysModules ∉ as)
  | [], _, _, h, r => by
    cases h
    cases r
    exact ⟨_, ReadsAll.nil, fun _ => List.not_mem_nil⟩
  | d :: ds, _, _, h, r => by
    cases h with
    | cons h1 h2 =>
      cases r with
      | cons r1 r2 =>
        obtain ⟨as, q1, n1⟩ := Da.reads I d _ _ h1 r1
        obtain ⟨bs, q2, n2⟩ := DaAll.reads I ds _ _ h2 r2
        refine ⟨_, ReadsAll.cons q1 q2, fun z hm => ?_⟩
        have z' : noL d = true ∧ noLAll ds = true := by simpa [noLAll] using z
        rcases List.mem_append.mp hm with hm | hm
        · exact n1 z'.1 hm
        · exact n2 z'.2 hm
theorem DaKv.reads (I : Inv X pins σ H s) : ∀ (ds : List (PyData × PyData)) (kvs : List (Key × V)) (us : List Value), DaKv X.K H kvs ds → Vals (kvs.map (·.2)) us → ∃ as, ReadsAll s.heap us (ds.map (·.2)) as ∧ (noLKv ds = true → sysModules ∉ as)
  | [], _, _, h, r => by
    cases h
    cases r
    exact ⟨_, ReadsAll.nil, fun _ => List.not_mem_nil⟩
  | d :: ds, _, _, h, r => by
    cases h with
    | @cons k0 v0 r0 d0 _ h1 h2 =>
      cases r with
      | cons r1 r2 =>
        obtain ⟨as, q1, n1⟩ := Da.reads I _ _ _ h1 r1
        obtain ⟨bs, q2, n2⟩ := DaKv.reads I ds _ _ h2 r2
        refine ⟨_, ReadsAll.cons q1 q2, fun z hm => ?_⟩
        have z' : noL d0 = true ∧ noLKv ds = true := by simpa [noLKv] using z
        rcases List.mem_append.mp hm with hm | hm
        · exact n1 z'.1 hm
        · exact n2 z'.2 hm
end
end
section
variable {X : Cx}
/-- repr(x) -/
def rRepr (K : PySem.W.Frag) : List V → Hp → VK → Prop := fun xs H Q => ∃ x d, xs = [x] ∧ Da K H x d ∧ d.showable = true ∧ (d.hasDict = true → noL d = true) ∧ d.depth ≤ 60 ∧ d.shown.length ≤ sizeLine ∧ Q (.str d.shown) H
theorem call_repr (hg : X.A.guards = some []) (hu : X.A.units + 64 < cLine) : CallR X (.builtin "repr") (rRepr X.K) := by
  intro pins s σ H xs us Q I r h
  obtain ⟨x, d, rfl, hd, hs, hl, hdp, hz, q⟩ := h
  cases r with
  | cons r rr =>
    cases rr
    cases hd with
    | non =>
      cases r
      simp only [PyData.shown] at q
      exact PySem.P.repr_of_none ⟨.str _, H, I.tok _, ⟨_, rfl⟩, q⟩
    | bl b =>
      cases r
      simp only [PyData.shown] at q
      exact PySem.P.repr_of_bool ⟨.str _, H, I.tok _, ⟨_, rfl⟩, q⟩
    | int i =>
      obtain ⟨t, rfl⟩ := r
      simp only [PyData.shown] at q
      exact PySem.P.repr_of_int (by simpa [PyData.showable] using hs) ⟨.str _, H, I.tok _, ⟨_, rfl⟩, q⟩
    | str y =>
      obtain ⟨t, rfl⟩ := r
      simp only [PyData.shown] at q hz
      exact PySem.P.repr_of_str ⟨.str _, H, I.tok _, ⟨_, rfl⟩, q⟩ hz
    | lst h1 h2 =>
      obtain ⟨as, hr, hn⟩ := Da.reads I _ _ _ (Da.lst h1 h2) r
      cases r
      exact repr_of_reads' hr hs (fun e => hn (hl e)) hg (by omega) (fun _ _ e => e) (fun h' u tk hk => ⟨.str _, H, I.kept hk, ⟨_, rfl⟩, q⟩) hz
    | tup h1 h2 =>
      obtain ⟨as, hr, hn⟩ := Da.reads I _ _ _ (Da.tup h1 h2) r
      cases r
      exact repr_of_reads' hr hs (fun e => hn (hl e)) hg (by omega) (fun _ _ e => e) (fun h' u tk hk => ⟨.str _, H, I.kept hk, ⟨_, rfl⟩, q⟩) hz
    | dct h1 hn0 h2 =>
      obtain ⟨as, hr, hn⟩ := Da.reads I _ _ _ (Da.dct h1 hn0 h2) r
      cases r
      exact repr_of_reads' hr hs (fun e => hn (hl e)) hg (by omega) (fun _ _ e => e) (fun h' u tk hk => ⟨.str _, H, I.kept hk, ⟨_, rfl⟩, q⟩) hz
end
end Rp
set_option maxRecDepth 100000
set_option maxHeartbeats 2000000
/-! Data at values, the heap that only grows, the loops over data -/
namespace Dl
open PySem PySem.Spec PyProof.Rows L2 GxR Gx Rp

/-- all that is known stays; tables may grow -/
def Ge (H H' : Hp) : Prop := (∀ a o, H a = some o → (∀ ps, o ≠ .tbl ps) → H' a = some o) ∧ ∀ a, TabG H a → TabG H' a
theorem Ge.refl (H : Hp) : Ge H H := ⟨fun _ _ h _ => h, fun _ h => h⟩
theorem Ge.trans {H H1 H2 : Hp} (a : Ge H H1) (b : Ge H1 H2) : Ge H H2 := ⟨fun x o h n => b.1 x o (a.1 x o h n) n, fun x h => b.2 x (a.2 x h)⟩
theorem Ge.new {H : Hp} {p : Addr} {o : HO} (h : H p = none) : Ge H (upd H p o) :=
  ⟨fun a u e _ => by rw [upd_ne (ne_of_none e h)]; exact e, fun a ⟨ps, e, t⟩ => ⟨ps, by rw [upd_ne (ne_of_none e h)]; exact e, t⟩⟩
theorem Ge.tab {H H' : Hp} {P : Addr} (h : TabG H P) (t : Tabbed P H H') : Ge H H' := by
  obtain ⟨ps, e, _⟩ := h
  refine ⟨fun a u q n => ?_, fun a q => ?_⟩
  · by_cases z : a = P
    · subst z
      rw [e] at q
      cases q
      exact absurd rfl (n ps)
    · rw [t.2 a z]
      exact q
  · by_cases z : a = P
    · subst z
      exact t.1
    · obtain ⟨qs, e2, w⟩ := q
      exact ⟨qs, by rw [t.2 a z]; exact e2, w⟩
theorem Ge.rd {H H' : Hp} {a : Addr} {u : HO} (e : Ge H H') (n : ∀ ps, u ≠ .tbl ps) (h : Rd H a u) : Rd H' a u := by
  rcases h with h | ⟨o, h⟩
  · exact Or.inl (e.1 a u h n)
  · exact Or.inr ⟨o, e.1 a _ h fun ps z => by cases z⟩
theorem Ge.sqT {K : PySem.W.Frag} {H H' : Hp} {a : Addr} {xs : List V} (e : Ge H H') (h : SqT K H a xs) : SqT K H' a xs := h.elim (fun z => Or.inl (e.rd (fun ps q => by cases q) z)) Or.inr
theorem Ge.sqL {K : PySem.W.Frag} {H H' : Hp} {a : Addr} {xs : List V} (e : Ge H H') (h : SqL K H a xs) : SqL K H' a xs := h.elim (fun z => Or.inl (e.rd (fun ps q => by cases q) z)) Or.inr
theorem Ge.dk {H H' : Hp} {a : Addr} {kvs : List (Key × V)} (e : Ge H H') (h : H a = some (.dK kvs)) : H' a = some (.dK kvs) := e.1 a _ h fun ps z => by cases z
/-- all tables stand -/
def Tb (T : List Addr) (H : Hp) : Prop := ∀ P ∈ T, TabG H P
theorem Ge.tb {T : List Addr} {H H' : Hp} (e : Ge H H') (h : Tb T H) : Tb T H' := fun P hP => e.2 P (h P hP)

/-! ### data -/
section
variable {K : PySem.W.Frag} {H H' : Hp}
mutual
theorem da_map (fT : ∀ a xs, Rd H a (.tup xs) → Rd H' a (.tup xs)) (fL : ∀ a xs, Rd H a (.lst xs) → Rd H' a (.lst xs)) : ∀ (d : PyData) (v : V), Da K H v d → (∀ a kvs ds, Rd H a (.dK kvs) → DaKv K H kvs ds → sizeOf ds < sizeOf d → Rd H' a (.dK kvs)) → Da K H' v d
  | .none, _, h, _ => by cases h; exact .non
  | .bool b, _, h, _ => by cases h; exact .bl b
  | .int i, _, h, _ => by cases h; exact .int i
  | .str x, _, h, _ => by cases h; exact .str x
  | .list ds, _, h, f => by
    cases h with
    | lst hs ha => exact .lst (fL _ _ hs) (daAll_map fT fL ds _ ha fun a kvs es e1 e2 e3 => f a kvs es e1 e2 (by simp only [PyData.list.sizeOf_spec]; omega))
  | .tuple ds, _, h, f => by
    cases h with
    | tup hs ha => exact .tup (fT _ _ hs) (daAll_map fT fL ds _ ha fun a kvs es e1 e2 e3 => f a kvs es e1 e2 (by simp only [PyData.tuple.sizeOf_spec]; omega))
  | .dict ds, _, h, f => by
    cases h with
    | dct hs hn ha => exact .dct (f _ _ _ hs ha (by simp only [PyData.dict.sizeOf_spec]; omega)) hn (daKv_map fT fL ds _ ha fun a kvs es e1 e2 e3 => f a kvs es e1 e2 (by simp only [PyData.dict.sizeOf_spec]; omega))
theorem daAll_map (fT : ∀ a xs, Rd H a (.tup xs) → Rd H' a (.tup xs)) (fL : ∀ a xs, Rd H a (.lst xs) → Rd H' a (.lst xs)) : ∀ (ds : List PyData) (vs : List V), DaAll K H vs ds → (∀ a kvs es, Rd H a (.dK kvs) → DaKv K H kvs es → sizeOf es < sizeOf ds → Rd H' a (.dK kvs)) → DaAll K H' vs ds
  | [], _, h, _ => by cases h; exact .nil
  | d :: ds, _, h, f => by
    cases h with
    | cons h1 h2 =>
      exact .cons (da_map fT fL d _ h1 fun a kvs es e1 e2 e3 => f a kvs es e1 e2 (by simp only [List.cons.sizeOf_spec]; omega)) (daAll_map fT fL ds _ h2 fun a kvs es e1 e2 e3 => f a kvs es e1 e2 (by simp only [List.cons.sizeOf_spec]; omega))
theorem daKv_map (fT : ∀ a xs, Rd H a (.tup xs) → Rd H' a (.tup xs)) (fL : ∀ a xs, Rd H a (.lst xs) → Rd H' a (.lst xs)) : ∀ (ds : List (PyData × PyData)) (kvs : List (Key × V)), DaKv K H kvs ds → (∀ a kvs es, Rd H a (.dK kvs) → DaKv K H kvs es → sizeOf es < sizeOf ds → Rd H' a (.dK kvs)) → DaKv K H' kvs ds
  | [], _, h, _ => by cases h; exact .nil
  | (dk, d) :: ds, _, h, f => by
    cases h with
    | cons h1 h2 =>
      exact .cons (da_map fT fL d _ h1 fun a kvs es e1 e2 e3 => f a kvs es e1 e2 (by simp only [List.cons.sizeOf_spec, Prod.mk.sizeOf_spec]; omega)) (daKv_map fT fL ds _ h2 fun a kvs es e1 e2 e3 => f a kvs es e1 e2 (by simp only [List.cons.sizeOf_spec]; omega))
end
theorem Ge.da {v : V} {d : PyData} (e : Ge H H') (h : Da K H v d) : Da K H' v d := da_map (fun _ _ => e.rd (fun ps q => by cases q)) (fun _ _ => e.rd (fun ps q => by cases q)) d v h fun _ _ _ q _ _ => e.rd (fun ps q => by cases q) q
theorem Ge.daAll {vs : List V} {ds : List PyData} (e : Ge H H') (h : DaAll K H vs ds) : DaAll K H' vs ds := daAll_map (fun _ _ => e.rd (fun ps q => by cases q)) (fun _ _ => e.rd (fun ps q => by cases q)) ds vs h fun _ _ _ q _ _ => e.rd (fun ps q => by cases q) q
theorem Ge.daKv {kvs : List (Key × V)} {ds : List (PyData × PyData)} (e : Ge H H') (h : DaKv K H kvs ds) : DaKv K H' kvs ds := daKv_map (fun _ _ => e.rd (fun ps q => by cases q)) (fun _ _ => e.rd (fun ps q => by cases q)) ds kvs h fun _ _ _ q _ _ => e.rd (fun ps q => by cases q) q

theorem rd_one {a : Addr} {u u' : HO} (n : ∀ o w, u ≠ .frz o w) (n' : ∀ o w, u' ≠ .frz o w) (h : Rd H a u) (h' : Rd H a u') : u = u' := by
  rcases h with h | ⟨o, h⟩ <;> rcases h' with h' | ⟨o', h'⟩ <;> rw [h] at h'
  · exact Option.some.inj h'
  · exact absurd (Option.some.inj h') (n _ _)
  · exact absurd (Option.some.inj h').symm (n' _ _)
  · exact (HO.frz.inj (Option.some.inj h')).2
mutual
theorem da_one : ∀ (d d' : PyData) (v : V), Da K H v d → Da K H v d' → d = d'
  | .none, d', _, h, h' => by cases h; cases h'; rfl
  | .bool b, d', _, h, h' => by cases h; cases h'; rfl
  | .int i, d', _, h, h' => by cases h; cases h'; rfl
  | .str x, d', _, h, h' => by cases h; cases h'; rfl
  | .list ds, d', _, h, h' => by
    cases h with
    | lst hs ha =>
      cases h' with
      | lst hs' ha' =>
        have e := rd_one (fun o w z => by cases z) (fun o w z => by cases z) hs hs'
        cases e
        rw [daAll_one ds _ _ ha ha']
      | tup hs' _ => have e := rd_one (fun o w z => by cases z) (fun o w z => by cases z) hs hs'; cases e
      | dct hs' _ _ => have e := rd_one (fun o w z => by cases z) (fun o w z => by cases z) hs hs'; cases e
  | .tuple ds, d', _, h, h' => by
    cases h with
    | tup hs ha =>
      cases h' with
      | tup hs' ha' =>
        have e := rd_one (fun o w z => by cases z) (fun o w z => by cases z) hs hs'
        cases e
        rw [daAll_one ds _ _ ha ha']
      | lst hs' _ => have e := rd_one (fun o w z => by cases z) (fun o w z => by cases z) hs hs'; cases e
      | dct hs' _ _ => have e := rd_one (fun o w z => by cases z) (fun o w z => by cases z) hs hs'; cases e
  | .dict ds, d', _, h, h' => by
    cases h with
    | dct hs _ ha =>
      cases h' with
      | dct hs' _ ha' =>
        have e := rd_one (fun o w z => by cases z) (fun o w z => by cases z) hs hs'
        cases e
        rw [daKv_one ds _ _ ha ha']
      | lst hs' _ => have e := rd_one (fun o w z => by cases z) (fun o w z => by cases z) hs hs'; cases e
      | tup hs' _ => have e := rd_one (fun o w z => by cases z) (fun o w z => by cases z) hs hs'; cases e
theorem daAll_one : ∀ (ds ds' : List PyData) (vs : List V), DaAll K H vs ds → DaAll K H vs ds' → ds = ds'
  | [], _, _, h, h' => by cases h; cases h'; rfl
  | d :: ds, _, _, h, h' => by
    cases h with
    | cons h1 h2 =>
      cases h' with
      | cons h1' h2' => rw [da_one d _ _ h1 h1', daAll_one ds _ _ h2 h2']
theorem daKv_one : ∀ (ds ds' : List (PyData × PyData)) (kvs : List (Key × V)), DaKv K H kvs ds → DaKv K H kvs ds' → ds = ds'
  | [], _, _, h, h' => by cases h; cases h'; rfl
  | (dk, d) :: ds, _, _, h, h' => by
    cases h with
    | cons h1 h2 =>
      cases h' with
      | cons h1' h2' => rw [da_one d _ _ h1 h1', daKv_one ds _ _ h2 h2']
end
/-- a lock changes nothing that is read -/
theorem rd_lock {a : Addr} {od : Obj} {kvs : List (Key × V)} (hH : Rd H a (.dK kvs)) {b : Addr} {u : HO} (n : ∀ o w, u ≠ .frz o w) (r : Rd H b u) : Rd (upd H a (.frz od (.dK kvs))) b u := by
  by_cases z : b = a
  · subst z
    have e := rd_one (fun o w z => by cases z) n hH r
    subst e
    exact Or.inr ⟨od, upd_same⟩
  · rcases r with r | ⟨o, r⟩
    · exact Or.inl (by rw [upd_ne z]; exact r)
    · exact Or.inr ⟨o, by rw [upd_ne z]; exact r⟩
theorem da_lockA {a : Addr} {od : Obj} {kvs : List (Key × V)} {v : V} {d : PyData} (hH : Rd H a (.dK kvs)) (h : Da K H v d) : Da K (upd H a (.frz od (.dK kvs))) v d :=
  da_map (fun _ _ r => rd_lock hH (fun o w z => by cases z) r) (fun _ _ r => rd_lock hH (fun o w z => by cases z) r) d v h fun _ _ _ r _ _ => rd_lock hH (fun o w z => by cases z) r
/-- while a dict is locked, what stands below it is as it was -/
theorem da_lock {a : Addr} {od : Obj} {kvs : List (Key × V)} {ds : List (PyData × PyData)} {v : V} {d : PyData} (hH : Rd H a (.dK kvs)) (_hk : DaKv K H kvs ds) (h : Da K H v d) (_hs : sizeOf d ≤ sizeOf ds) : Da K (upd H a (.frz od (.dK kvs))) v d := da_lockA hH h
/-- unlocked again -/
theorem ge_unlock {a : Addr} {od : Obj} {kvs : List (Key × V)} {H1 : Hp} (hH : H a = some (.dK kvs)) (g : Ge (upd H a (.frz od (.dK kvs))) H1) : H1 a = some (.frz od (.dK kvs)) ∧ Ge H (upd H1 a (.dK kvs)) := by
  refine ⟨g.1 a _ upd_same (fun ps z => by cases z), fun b u e n => ?_, fun b t => ?_⟩
  · by_cases z : b = a
    · subst z
      rw [upd_same, ← hH]
      exact e
    · rw [upd_ne z]
      exact g.1 b u (by rw [upd_ne z]; exact e) n
  · have z : b ≠ a := fun z => by
      subst z
      obtain ⟨ps, e, _⟩ := t
      rw [hH] at e
      cases e
    obtain ⟨qs, e, w⟩ := g.2 b (by
      obtain ⟨ps, e, w⟩ := t
      exact ⟨ps, by rw [upd_ne z]; exact e, w⟩)
    exact ⟨qs, by rw [upd_ne z]; exact e, w⟩
theorem daKv_mem {kvs : List (Key × V)} {ds : List (PyData × PyData)} {k : Key} {v : V} : DaKv K H kvs ds → (k, v) ∈ kvs → ∃ d, (kD k, d) ∈ ds ∧ Da K H v d := fun h hm => by
  induction kvs generalizing ds with
  | nil => cases hm
  | cons p r ih =>
    cases h with
    | cons h1 h2 =>
      rcases List.mem_cons.mp hm with e | hm
      · cases e
        exact ⟨_, List.mem_cons_self, h1⟩
      · obtain ⟨d, m, q⟩ := ih h2 hm
        exact ⟨d, List.mem_cons_of_mem _ m, q⟩
theorem daAll_get {vs : List V} {ds : List PyData} {i : Nat} {v : V} : DaAll K H vs ds → vs[i]? = some v → ∃ d, ds[i]? = some d ∧ Da K H v d := fun h e => by
  induction vs generalizing ds i with
  | nil => simp at e
  | cons x r ih =>
    cases h with
    | cons h1 h2 =>
      cases i with
      | zero =>
        simp at e
        subst e
        exact ⟨_, rfl, h1⟩
      | succ i =>
        have e' : r[i]? = some v := by simpa using e
        obtain ⟨d, q1, q2⟩ := ih (i := i) h2 e'
        exact ⟨d, by simpa using q1, q2⟩
theorem daAll_len {vs : List V} {ds : List PyData} (h : DaAll K H vs ds) : ds.length = vs.length := by
  induction vs generalizing ds with
  | nil => cases h; rfl
  | cons x r ih =>
    cases h with
    | cons h1 h2 => simp [ih h2]
theorem daKv_len {kvs : List (Key × V)} {ds : List (PyData × PyData)} (h : DaKv K H kvs ds) : ds.length = kvs.length := by
  induction kvs generalizing ds with
  | nil => cases h; rfl
  | cons x r ih =>
    cases h with
    | cons h1 h2 => simp [ih h2]
theorem size_mem {ds : List PyData} {d : PyData} (h : d ∈ ds) : sizeOf d < sizeOf ds := List.sizeOf_lt_of_mem h
theorem size_memKv {ds : List (PyData × PyData)} {k d : PyData} (h : (k, d) ∈ ds) : sizeOf d < sizeOf ds := by
  have h1 := List.sizeOf_lt_of_mem h
  simp only [Prod.mk.sizeOf_spec] at h1
  omega
end

/-! ### texts that are short -/
mutual
def small : PyData → Bool
  | .str x => decide (x.length ≤ 100000)
  | .list xs => decide (xs.length ≤ 100000) && smallAll xs
  | .tuple xs => decide (xs.length ≤ 100000) && smallAll xs
  | .dict kvs => decide (kvs.length ≤ 100000) && smallKv kvs
  | _ => true
def smallAll : List PyData → Bool
  | [] => true
  | x :: xs => small x && smallAll xs
def smallKv : List (PyData × PyData) → Bool
  | [] => true
  | (k, v) :: r => small k && small v && smallKv r
end
theorem small_tup {ds : List PyData} (h : small (.tuple ds) = true) : ds.length ≤ 100000 ∧ smallAll ds = true := by
  have z : (decide (ds.length ≤ 100000) && smallAll ds) = true := by simpa only [small] using h
  rw [Bool.and_eq_true] at z
  exact ⟨of_decide_eq_true z.1, z.2⟩
theorem small_lst {ds : List PyData} (h : small (.list ds) = true) : ds.length ≤ 100000 ∧ smallAll ds = true := by
  have z : (decide (ds.length ≤ 100000) && smallAll ds) = true := by simpa only [small] using h
  rw [Bool.and_eq_true] at z
  exact ⟨of_decide_eq_true z.1, z.2⟩
theorem small_dct {ds : List (PyData × PyData)} (h : small (.dict ds) = true) : ds.length ≤ 100000 ∧ smallKv ds = true := by
  have z : (decide (ds.length ≤ 100000) && smallKv ds) = true := by simpa only [small] using h
  rw [Bool.and_eq_true] at z
  exact ⟨of_decide_eq_true z.1, z.2⟩
theorem small_mem {ds : List PyData} {d : PyData} (h : smallAll ds = true) (hm : d ∈ ds) : small d = true := by
  induction ds with
  | nil => cases hm
  | cons x r ih =>
    simp only [smallAll, Bool.and_eq_true] at h
    rcases List.mem_cons.mp hm with e | hm
    · rw [e]
      exact h.1
    · exact ih h.2 hm
theorem small_memKv {ds : List (PyData × PyData)} {k d : PyData} (h : smallKv ds = true) (hm : (k, d) ∈ ds) : small k = true ∧ small d = true := by
  induction ds with
  | nil => cases hm
  | cons x r ih =>
    obtain ⟨k', v'⟩ := x
    simp only [smallKv, Bool.and_eq_true] at h
    rcases List.mem_cons.mp hm with e | hm
    · cases e
      exact h.1
    · exact ih h.2 hm
theorem small_str {x : Str} (h : small (.str x) = true) : x.length ≤ sizeLine := by
  have h1 : x.length ≤ 100000 := by simpa [small] using h
  exact Nat.le_trans h1 (by decide)

/-! ### isinstance -/
def tyName : PyData → String
  | .none => "NoneType"
  | .bool _ => "bool"
  | .int _ => "int"
  | .str _ => "str"
  | .list _ => "list"
  | .tuple _ => "tuple"
  | .dict _ => "dict"
def isTy (n : String) (d : PyData) : Bool := tyName d == n || (tyName d == "bool" && n == "int")
theorem da_ty {K : PySem.W.Frag} {H : Hp} {v : V} {d : PyData} (h : Da K H v d) : TyX K H v (.type (tyName d)) := by
  cases h with
  | non => exact .base .non
  | bl b => exact .base (.bl b)
  | int i => exact .base (.int i)
  | str x => exact .base (.str x)
  | lst hs _ =>
    rcases hs with hs | ⟨o, hs⟩
    · exact .base (.lst hs)
    · exact .base (.frz hs)
  | tup hs _ =>
    rcases hs with hs | ⟨o, hs⟩
    · exact .base (.tup hs)
    · exact .fTuple hs
  | dct hs _ _ =>
    rcases hs with hs | ⟨o, hs⟩
    · exact .base (.dK hs)
    · exact .fDict hs
theorem kit_tab : ∀ t ∈ ["NoneType", "bool", "int", "str", "list", "tuple", "dict"], ∀ n ∈ ["tuple", "dict", "str", "int", "bool", "list"], kitB t n = some (t == n || (t == "bool" && n == "int")) := by decide +kernel
theorem tyName_mem (d : PyData) : tyName d ∈ ["NoneType", "bool", "int", "str", "list", "tuple", "dict"] := by cases d <;> simp [tyName]
theorem kit_all {K : PySem.W.Frag} (d : PyData) (n : String) (hn : n ∈ ["tuple", "dict", "str", "int", "bool", "list"]) : PySem.W.kitOne K (.type (tyName d)) (.type n) = some (isTy n d) := kit_ty (kit_tab _ (tyName_mem d) n hn)
theorem rd_isi {K : PySem.W.Frag} {H : Hp} {v : V} {d : PyData} {n : String} {Q : VK} (h : Da K H v d) (q : Q (.bl (isTy n d)) H) (hn : n ∈ ["tuple", "dict", "str", "int", "bool", "list"] := by decide) : rIsi K [v, .ty n] H Q :=
  ⟨v, .ty n, _, _, _, rfl, .ty n, da_ty h, kit_all d n hn, q⟩

/-! ### the turns of a generator expression -/
section
variable {J : It} {n : Nat} {Y : Nat → Hp → V → Hp → Prop} {σ : L2.St} {vs : List Nat} {gt : TG} {te : TE} {H0 : Hp} {Q : VK}
theorem turns_all (wk : Walk J n (fun H' => Ge H0 H') Y) (f : Nat → Bool)
    (he : ∀ k x H' H'', k < n → (∀ l, l < k → f l = true) → Ge H0 H' → Y k H' x H'' → ∀ R : VK, (∀ H4, Ge H0 H4 → R (.bl (f k)) H4) → gt x (wipe σ vs) H'' fun σ2 H2 => wipe σ2 vs = wipe σ vs ∧ te σ2 H2 R)
    (hgm : ∀ x (τ : L2.St) H' (A B : L2.St → Hp → Prop), (∀ σ2 H2, A σ2 H2 → B σ2 H2) → gt x τ H' A → gt x τ H' B)
    (hQ : ∀ H', Ge H0 H' → Q (.bl ((List.range n).all f)) H') :
    ∃ W : Nat → Nat → Unit → Hp → Prop, (∃ m, W 0 m () H0) ∧ Turns (wipe σ vs) (gotAll Q) (fun _ H => Q (.bl true) H) J gt tYes te vs W := by
  refine ⟨fun k m _ H' => m = n - k ∧ k ≤ n ∧ Ge H0 H' ∧ ∀ l, l < k → f l = true, ⟨n, by simp, Nat.zero_le _, Ge.refl _, fun l hl => absurd hl (Nat.not_lt_zero l)⟩, ?_⟩
  rintro k m u H' ⟨rfl, hk, g, hp⟩
  by_cases hlt : k < n
  · refine Or.inr ⟨wk.goes k H' hlt g, fun _ H4 => Ge H0 H4 ∧ ∀ l, l < k + 1 → f l = true, fun _ H4 h4 => ⟨n - (k + 1), by omega, rfl, hlt, h4.1, h4.2⟩, fun x H'' y => ?_⟩
    refine hgm x _ H'' _ _ (fun σ2 H2 z => ⟨z.1, ?_⟩) (he k x H' H'' hlt hp g (wk.yields k H' x H'' hlt g y) (gotAll Q () fun _ H4 => Ge H0 H4 ∧ ∀ l, l < k + 1 → f l = true) fun H4 g4 => ⟨f k, rfl, ?_⟩)
    · simp only [tYes, if_true]
      exact z.2
    · cases hf : f k with
      | true =>
        rw [if_pos rfl]
        refine ⟨g4, fun l hl => ?_⟩
        by_cases e : l = k
        · rw [e]
          exact hf
        · exact hp l (by omega)
      | false =>
        rw [if_neg Bool.false_ne_true]
        have e : (List.range n).all f = false := by
          rw [List.all_eq_false]
          exact ⟨k, List.mem_range.mpr hlt, by rw [hf]; exact Bool.false_ne_true⟩
        rw [← e]
        exact hQ H4 g4
  · have e : k = n := by omega
    subst e
    refine Or.inl ⟨wk.stops H' g, ?_⟩
    have e : (List.range k).all f = true := List.all_eq_true.mpr fun l hl => hp l (List.mem_range.mp hl)
    rw [← e]
    exact hQ H' g
theorem turns_sum (wk : Walk J n (fun H' => Ge H0 H') Y) (f : Nat → Nat) (hf : ∀ k, f k ≤ 2 ^ 24) (hn : n ≤ 2 ^ 24)
    (he : ∀ k x H' H'', k < n → Ge H0 H' → Y k H' x H'' → ∀ R : VK, (∀ H4, Ge H0 H4 → R (.int (f k : Nat)) H4) → gt x (wipe σ vs) H'' fun σ2 H2 => wipe σ2 vs = wipe σ vs ∧ te σ2 H2 R)
    (hgm : ∀ x (τ : L2.St) H' (A B : L2.St → Hp → Prop), (∀ σ2 H2, A σ2 H2 → B σ2 H2) → gt x τ H' A → gt x τ H' B)
    (hQ : ∀ H', Ge H0 H' → Q (.int (((List.range n).map f).sum : Nat)) H') :
    ∃ W : Nat → Nat → Int → Hp → Prop, (∃ m, W 0 m 0 H0) ∧ Turns (wipe σ vs) (gotSum Q) (fun i H => Q (.int i) H) J gt tYes te vs W := by
  have bound : ∀ k, ((List.range k).map f).sum ≤ k * 2 ^ 24 := by
    intro k
    induction k with
    | zero => simp
    | succ k ih =>
      rw [List.range_succ, List.map_append, List.sum_append]
      have := hf k
      simp only [List.map_cons, List.map_nil, List.sum_cons, List.sum_nil]
      omega
  refine ⟨fun k m i H' => m = n - k ∧ k ≤ n ∧ Ge H0 H' ∧ i = (((List.range k).map f).sum : Nat), ⟨n, by simp, Nat.zero_le _, Ge.refl _, by simp⟩, ?_⟩
  rintro k m i H' ⟨rfl, hk, g, rfl⟩
  by_cases hlt : k < n
  · refine Or.inr ⟨wk.goes k H' hlt g, fun i H4 => Ge H0 H4 ∧ i = (((List.range (k + 1)).map f).sum : Nat), fun _ H4 h4 => ⟨n - (k + 1), by omega, rfl, hlt, h4.1, h4.2⟩, fun x H'' y => ?_⟩
    refine hgm x _ H'' _ _ (fun σ2 H2 z => ⟨z.1, ?_⟩) (he k x H' H'' hlt g (wk.yields k H' x H'' hlt g y) (gotSum Q ((((List.range k).map f).sum : Nat) : Int) fun i H4 => Ge H0 H4 ∧ i = (((List.range (k + 1)).map f).sum : Nat)) fun H4 g4 => ⟨(f k : Nat), rfl, ?_, ?_, g4, ?_⟩)
    · simp only [tYes, if_true]
      exact z.2
    · have := hf k
      omega
    · have h1 := bound k
      have h2 := hf k
      have h3 : k * 2 ^ 24 ≤ 2 ^ 24 * 2 ^ 24 := Nat.mul_le_mul_right _ (by omega)
      omega
    · rw [List.range_succ, List.map_append, List.sum_append]
      simp
  · have e : k = n := by omega
    subst e
    exact Or.inl ⟨wk.stops H' g, hQ H' g⟩
theorem gName_mono {j : Nat} : ∀ x (τ : L2.St) H' (A B : L2.St → Hp → Prop), (∀ σ2 H2, A σ2 H2 → B σ2 H2) → gName j x τ H' A → gName j x τ H' B := fun _ _ _ _ _ h z => h _ _ z
end
section
variable {K : PySem.W.Frag} {σ : L2.St} {vs : List Nat} {te : TE} {H : Hp} {Q : VK} {P a : Addr} {i j : Nat}
/-- the data's own test, place by place -/
def atD (p : PyData → Bool) (ds : List PyData) (k : Nat) : Bool := match ds[k]? with | some d => p d | none => true
theorem all_atD (p : PyData → Bool) (ds : List PyData) : (List.range ds.length).all (atD p ds) = ds.all p := by
  rw [Bool.eq_iff_iff, List.all_eq_true, List.all_eq_true]
  constructor
  · intro h d hd
    obtain ⟨k, hk, e⟩ := List.getElem_of_mem hd
    have q := h k (List.mem_range.mpr hk)
    unfold atD at q
    rw [List.getElem?_eq_getElem hk, e] at q
    exact q
  · intro h k hk
    have hk' := List.mem_range.mp hk
    unfold atD
    rw [List.getElem?_eq_getElem hk']
    exact h _ (List.getElem_mem hk')
/-- all(.. for x in t) -/
theorem rd_allT {xs : List V} {ds : List PyData} (p : PyData → Bool) (hi : σ[i]? = some (some (.ref a))) (hx : Rd H a (.tup xs)) (hd : DaAll K H xs ds) (ht : TabG H P) (hw : ∀ x, wipe ((wipe σ vs).set j (some x)) vs = wipe σ vs)
    (he : ∀ x d H', d ∈ ds → Ge H H' → Da K H' x d → ∀ R : VK, (∀ H4, Ge H' H4 → R (.bl (p d)) H4) → te ((wipe σ vs).set j (some x)) H' R)
    (hQ : ∀ H', Ge H H' → Q (.bl (ds.all p)) H') : tAllX P (iTup K (tVar i)) (gName j) tYes te vs σ H Q := by
  refine ⟨.ref a, hi, a, rfl, ⟨xs, Or.inl hx⟩, ht, fun H2 t2 => ?_⟩
  have g2 := Ge.tab ht t2
  have hl := daAll_len hd
  refine turns_all (n := ds.length) (Y := YAt xs) (Walk.mono (hl ▸ walk_tup (K := K) (a := a) (xs := xs)) (fun H' g => (g2.trans g).sqT (Or.inl hx)) fun _ _ _ _ _ _ y => y) (atD p ds) (fun k x H' H'' hk _ g y R hR => ?_) gName_mono fun H' g => by rw [all_atD]; exact hQ H' (g2.trans g)
  obtain ⟨rfl, hx'⟩ := y
  obtain ⟨d, e1, e2⟩ := daAll_get hd hx'
  refine ⟨hw x, he x d H'' (List.mem_of_getElem? e1) (g2.trans g) ((g2.trans g).da e2) R fun H4 g4 => ?_⟩
  have e3 : atD p ds k = p d := by
    unfold atD
    rw [e1]
  rw [← e3]
  exact hR H4 (g.trans g4)
/-- sum(.. for x in t) -/
theorem rd_sumT {xs : List V} {ds : List PyData} (p : PyData → Nat) (hp : ∀ d, p d ≤ 2 ^ 24) (hi : σ[i]? = some (some (.ref a))) (hx : Rd H a (.tup xs)) (hz : xs.length ≤ 2 ^ 24) (hd : DaAll K H xs ds) (ht : TabG H P) (hw : ∀ x, wipe ((wipe σ vs).set j (some x)) vs = wipe σ vs)
    (he : ∀ x d H', d ∈ ds → Ge H H' → Da K H' x d → ∀ R : VK, (∀ H4, Ge H' H4 → R (.int (p d : Nat)) H4) → te ((wipe σ vs).set j (some x)) H' R)
    (hQ : ∀ H', Ge H H' → Q (.int ((ds.map p).sum : Nat)) H') : tSumX P (iTup K (tVar i)) (gName j) tYes te vs σ H Q := by
  refine ⟨.ref a, hi, a, rfl, ⟨xs, Or.inl hx⟩, ht, fun H2 t2 => ?_⟩
  have g2 := Ge.tab ht t2
  have hl := daAll_len hd
  have es : ∀ ds : List PyData, ((List.range ds.length).map fun k => (ds[k]?.map p).getD 0) = ds.map p := by
    intro ds
    apply List.ext_getElem
    · simp
    · intro k h1 h2
      simp at h1 h2
      simp [h1]
  refine turns_sum (n := ds.length) (Y := YAt xs) (Walk.mono (hl ▸ walk_tup (K := K) (a := a) (xs := xs)) (fun H' g => (g2.trans g).sqT (Or.inl hx)) fun _ _ _ _ _ _ y => y) (fun k => (ds[k]?.map p).getD 0) (fun k => ?_) (by omega) (fun k x H' H'' hk g y R hR => ?_) gName_mono fun H' g => by rw [es]; exact hQ H' (g2.trans g)
  · cases ds[k]? with
    | none => exact Nat.zero_le _
    | some d => exact hp d
  obtain ⟨rfl, hx'⟩ := y
  obtain ⟨d, e1, e2⟩ := daAll_get hd hx'
  refine ⟨hw x, he x d H'' (List.mem_of_getElem? e1) (g2.trans g) ((g2.trans g).da e2) R fun H4 g4 => ?_⟩
  have e3 : p d = (ds[k]?.map p).getD 0 := by rw [e1]; rfl
  rw [e3]
  exact hR H4 (g.trans g4)
def atK (p : Key → V → Bool) (kvs : List (Key × V)) (k : Nat) : Bool := match kvs[k]? with | some q => p q.1 q.2 | none => true
theorem all_atK (p : Key → V → Bool) (kvs : List (Key × V)) : (List.range kvs.length).all (atK p kvs) = kvs.all fun q => p q.1 q.2 := by
  rw [Bool.eq_iff_iff, List.all_eq_true, List.all_eq_true]
  constructor
  · intro h d hd
    obtain ⟨k, hk, e⟩ := List.getElem_of_mem hd
    have q := h k (List.mem_range.mpr hk)
    unfold atK at q
    rw [List.getElem?_eq_getElem hk, e] at q
    exact q
  · intro h k hk
    have hk' := List.mem_range.mp hk
    unfold atK
    rw [List.getElem?_eq_getElem hk']
    exact h _ (List.getElem_mem hk')
/-- all(.. for k in d), d locked meanwhile -/
theorem rd_allD {kvs : List (Key × V)} (p : Key → V → Bool) (hi : σ[i]? = some (some (.ref a))) (hx : H a = some (.dK kvs)) (ht : TabG H P) (hw : ∀ x, wipe ((wipe σ vs).set j (some x)) vs = wipe σ vs)
    (he : ∀ od k v H', (k, v) ∈ kvs → Ge (upd H a (.frz od (.dK kvs))) H' → ∀ R : VK, (∀ H4, Ge H' H4 → R (.bl (p k v)) H4) → te ((wipe σ vs).set j (some (kV k))) H' R)
    (hQ : ∀ H', Ge H H' → Q (.bl (kvs.all fun q => p q.1 q.2)) H') : tLockE (tAllX P (iKeys (tVar i)) (gName j) tYes te vs) σ H Q := by
  refine ⟨a, .dK kvs, hx, True.intro, fun od => ?_⟩
  have ht' : TabG (upd H a (.frz od (.dK kvs))) P := by
    obtain ⟨ps, e, w⟩ := ht
    refine ⟨ps, ?_, w⟩
    rw [upd_ne (fun z => by rw [z, hx] at e; cases e)]
    exact e
  refine ⟨.ref a, hi, a, od, rfl, Or.inl ⟨kvs, upd_same, ht', fun H2 t2 => ?_⟩⟩
  have g2 := Ge.tab ht' t2
  have fz : ∀ H', Ge H2 H' → H' a = some (.frz od (.dK kvs)) := fun H' g => (g2.trans g).1 a _ upd_same fun ps z => by cases z
  refine turns_all (n := kvs.length) (Walk.mono (walk_keys (d := a) (o := od) (kvs := kvs)) (fun H' g => fz H' g) fun _ _ _ _ _ _ y => y) (atK p kvs) (fun k x H' H'' hk _ g y R hR => ?_) gName_mono fun H' g => ?_
  · obtain ⟨rfl, ky, v, e1, rfl⟩ := y
    refine ⟨hw _, he od ky v H'' (List.mem_of_getElem? e1) (g2.trans g) R fun H4 g4 => ?_⟩
    have e3 : atK p kvs k = p ky v := by
      unfold atK
      rw [e1]
    rw [← e3]
    exact hR H4 (g.trans g4)
  · obtain ⟨q1, q2⟩ := ge_unlock hx (g2.trans g)
    refine ⟨q1, ?_⟩
    rw [all_atK]
    exact hQ _ q2
/-- locked meanwhile, or locked already -/
def tLockO (t : TE) : TE := fun σ H Q => tLockE t σ H Q ∨ t σ H Q
theorem pe_lockO {X : Cx} {e : Expr} {t : TE} (h : PE X e t) : PE X e (tLockO t) := by
  refine ⟨fun pins s σ H Q I hw => ?_⟩
  rcases hw with hw | hw
  · exact (pe_lock h).run pins s σ H Q I hw
  · exact h.run pins s σ H Q I hw
theorem upd_self {H : Hp} {a : Addr} {o : HO} (h : H a = some o) : upd H a o = H := funext fun b => by
  by_cases e : b = a
  · rw [e, upd_same, h]
  · rw [upd_ne e]
theorem rd_allDO {kvs : List (Key × V)} (p : Key → V → Bool) (hi : σ[i]? = some (some (.ref a))) (hx : Rd H a (.dK kvs)) (ht : TabG H P) (hw : ∀ x, wipe ((wipe σ vs).set j (some x)) vs = wipe σ vs)
    (he : ∀ od k v H', (k, v) ∈ kvs → Ge (upd H a (.frz od (.dK kvs))) H' → ∀ R : VK, (∀ H4, Ge H' H4 → R (.bl (p k v)) H4) → te ((wipe σ vs).set j (some (kV k))) H' R)
    (hQ : ∀ H', Ge H H' → Q (.bl (kvs.all fun q => p q.1 q.2)) H') : tLockO (tAllX P (iKeys (tVar i)) (gName j) tYes te vs) σ H Q := by
  rcases hx with hx | ⟨od, hx⟩
  · exact Or.inl (rd_allD p hi hx ht hw he hQ)
  · refine Or.inr ⟨.ref a, hi, a, od, rfl, Or.inl ⟨kvs, hx, ht, fun H2 t2 => ?_⟩⟩
    have g2 := Ge.tab ht t2
    have fz : ∀ H', Ge H2 H' → H' a = some (.frz od (.dK kvs)) := fun H' g => (g2.trans g).1 a _ hx fun ps z => by cases z
    refine turns_all (n := kvs.length) (Walk.mono (walk_keys (d := a) (o := od) (kvs := kvs)) (fun H' g => fz H' g) fun _ _ _ _ _ _ y => y) (atK p kvs) (fun k x H' H'' hk _ g y R hR => ?_) gName_mono fun H' g => ?_
    · obtain ⟨rfl, ky, v, e1, rfl⟩ := y
      refine ⟨hw _, he od ky v H'' (List.mem_of_getElem? e1) (by rw [upd_self hx]; exact g2.trans g) R fun H4 g4 => ?_⟩
      have e3 : atK p kvs k = p ky v := by
        unfold atK
        rw [e1]
      rw [← e3]
      exact hR H4 (g.trans g4)
    · rw [all_atK]
      exact hQ _ (g2.trans g)
/-- len of a dict, locked or not -/
theorem call_lenDr {X : Cx} : CallR X (.builtin "len") (fun xs H Q => ∃ a kvs, xs = [V.ref a] ∧ Rd H a (.dK kvs) ∧ Q (.int kvs.length) H) := by
  intro pins s σ H xs us Q I r h
  obtain ⟨a, kvs, rfl, ha, q⟩ := h
  obtain ⟨u, rfl, ru⟩ := vals1 r
  cases ru
  rcases ha with ha | ⟨o, ha⟩
  · exact d_len I (.inl ha) fun t s' I' => ⟨.int kvs.length, H, I', ⟨t, rfl⟩, q⟩
  · exact d_len I (.inr ⟨o, ha⟩) fun t s' I' => ⟨.int kvs.length, H, I', ⟨t, rfl⟩, q⟩
def atS (p : Nat → Bool) (x : Str) (k : Nat) : Bool := match x.cps[k]? with | some c => p c | none => true
theorem all_atS (p : Nat → Bool) (x : Str) : (List.range x.cps.size).all (atS p x) = x.cps.toList.all p := by
  rw [Bool.eq_iff_iff, List.all_eq_true, List.all_eq_true]
  constructor
  · intro h c hc
    obtain ⟨k, hk, e⟩ := List.getElem_of_mem hc
    have hk' : k < x.cps.size := by simpa using hk
    have q := h k (List.mem_range.mpr hk')
    unfold atS at q
    rw [Array.getElem?_eq_getElem hk'] at q
    simpa [← e] using q
  · intro h k hk
    have hk' := List.mem_range.mp hk
    unfold atS
    rw [Array.getElem?_eq_getElem hk']
    exact h _ (by simp)
/-- all(.. for c in s), sign by sign -/
theorem rd_allS {x : Str} (p : Nat → Bool) (hi : σ[i]? = some (some (.str x))) (ht : TabG H P) (hw : ∀ x, wipe ((wipe σ vs).set j (some x)) vs = wipe σ vs)
    (he : ∀ c H', Ge H H' → ∀ R : VK, (∀ H4, Ge H' H4 → R (.bl (p c)) H4) → te ((wipe σ vs).set j (some (.str ⟨#[c]⟩))) H' R)
    (hQ : ∀ H', Ge H H' → Q (.bl (x.cps.toList.all p)) H') : tAllX P (iStr (tVar i)) (gName j) tYes te vs σ H Q := by
  refine ⟨.str x, hi, x, rfl, ht, fun H2 t2 => ?_⟩
  have g2 := Ge.tab ht t2
  refine turns_all (n := x.cps.size) (Walk.mono (walk_str (z := x)) (fun _ _ => True.intro) fun _ _ _ _ _ _ y => y) (atS p x) (fun k v H' H'' hk _ g y R hR => ?_) gName_mono fun H' g => by rw [all_atS]; exact hQ H' (g2.trans g)
  obtain ⟨rfl, c, e1, rfl⟩ := y
  refine ⟨hw _, he c H'' (g2.trans g) R fun H4 g4 => ?_⟩
  have e3 : atS p x k = p c := by
    unfold atS
    rw [e1]
  rw [← e3]
  exact hR H4 (g.trans g4)
end
end Dl
set_option maxRecDepth 100000
set_option maxHeartbeats 2000000
/-! A def whose guards are known to be none; the law's own end over it, with the tables of all defs. -/
namespace Lw
open PySem PySem.Spec PyProof.Rows L2 GxR

/-- as FnOk, where nothing that guards a repr is under way -/
structure FnG (P : Program) (w : World) (K : PySem.W.Frag) (mg : Str → Option Value) (base : Heap) (CX : CXT) (k : Nat) (f : Addr) (fd : FuncData) (ps : List Str) (sp : Sp) : Prop where
  len : ∀ vs H Q E, sp vs H Q E → vs.length = ps.length
  run : ∀ (A : Around) (outer : List Env) (s : Shared) (H : Hp) (args : Args) (us : List Value) (vs : List V) (Q : VK) (E : XK), A.guards = some [] → Room k A → Env0 P w K mg base A outer s H → BindsTo s fd args (ps.zip us) → Vals vs us → sp vs H Q E →
    codeAny (model P w) A (.call (.ref f) args) (CR CX outer P w H s Q E) s

section
variable {CX : CXT} {P : Program} {w : World} {K : PySem.W.Frag} {mg : Str → Option Value} {base : Heap}
theorem fng_of {k : Nat} {f : Addr} {name qual : Str} {params : Arguments} {body : List Stmt} {scope : Scope} {dV kV doc pm cdv ct oc : Value} {an od : Option Addr} {osl : Array (Option Value)} {N ps : List Str} {sp : Sp}
    (lk : K.lookup f = some ⟨oc, od, .func (PySem.W.fnOf name qual params body scope dV kV doc pm an cdv ct), osl⟩) (hcd : PySem.W.codeIn K cdv qual = true) (S : FnScope N ps scope) (len : ∀ vs H Q E, sp vs H Q E → vs.length = ps.length)
    (hbody : ∀ (A : Around) (outer : List Env) (s : Shared) (H : Hp) (vs : List V) (Q : VK) (E : XK), A.guards = some [] → Room k (A.deeper (envOfC qual scope s.heap.objs.size f cdv)) → sp vs H Q E →
      ∃ t, PSs (cxOf CX P w K mg base N qual scope f cdv A outer s H E) body t ∧ t { nx := fun _ H' => Q .non H', rt := Q } (start N vs) H) :
    FnG P w K mg base CX (k + 1) f (PySem.W.fnOf name qual params body scope dV kV doc pm an cdv ct) ps sp := by
  constructor
  · exact len
  · intro A outer s H args us vs Q E hgd hr e0 hb r hsp
    obtain ⟨t, ht, hq⟩ := hbody A outer s H vs Q E hgd (hr.deeper _) hsp
    have keepB : ∀ b o, base.get? b = some o → s.heap.get? b = some o := fun b o e => (e0.bs b o e).1
    have KX : K.In s.heap := e0.mod.kin.keeps keepB
    refine codeAny_call_function hr.depth (KX _ _ lk) rfl S.co S.gen rfl (PySem.W.codeRec_of KX hcd) (hb _ _ _ _ ?_)
    refine wpAny_newFunctionEnv_cells S.kind (fun y hy => ?_) fun env he s1 x => ?_
    · obtain ⟨n, v⟩ := y
      rcases S.par n (List.of_mem_zip hy).1 with q | q
      · exact Or.inl q
      · exact Or.inr ⟨q, PySem.W.cellsFrom_some _ _ _ (Or.inl q)⟩
    subst he
    have lim := (e0.mod.nolimit.keeps keepB).keeps x.toInCall.keep
    have I : Inv (cxOf CX P w K mg base N qual scope f cdv A outer s H E) [] (start N vs) H s1 := inv_start S hr.hd e0 (len _ _ _ _ hsp) r x
    refine ⟨lim, codeAny_func (wpAny_mono (ht.run [] s1 (start N vs) H _ I hq) (fun fl s' hs => ?_) fun e s' hs => hs)⟩
    cases fl with
    | ret u =>
      obtain ⟨v, σ', H', J, rv, q⟩ := hs
      exact ⟨v, H', J.os, J.bare, J.base, J.hok, rv, q⟩
    | next =>
      obtain ⟨σ', H', J, q⟩ := hs
      exact ⟨V.non, H', J.os, J.bare, J.base, J.hok, rfl, q⟩
    | brk => exact hs.elim fun _ z => z.elim fun _ z => z.2.elim
    | cont => exact hs.elim fun _ z => z.elim fun _ z => z.2.elim

/-- the heap as it is known at the law's entry: the tables of the defs, the script -/
def lawH (K : PySem.W.Frag) (a : Addr) (cs : List (Addr × Addr)) (vs : List Value) (ns : List Int) : Hp := fun b =>
  if b ∈ cs.map (·.2) then some (.tbl #[]) else if b = a ∧ K.lookup a = none then some (.frz { cls := .type "list", data := .seq vs.toArray } (.lst (ns.map V.int))) else none
theorem lawH_tab {K : PySem.W.Frag} {a : Addr} {cs : List (Addr × Addr)} {vs : List Value} {ns : List Int} {p : Addr × Addr} (h : p ∈ cs) : lawH K a cs vs ns p.2 = some (.tbl #[]) := if_pos (List.mem_map.mpr ⟨p, h, rfl⟩)
theorem lawH_cases {K : PySem.W.Frag} {a b : Addr} {cs : List (Addr × Addr)} {vs : List Value} {ns : List Int} : (b ∈ cs.map (·.2) ∧ lawH K a cs vs ns b = some (.tbl #[])) ∨
    (b ∉ cs.map (·.2) ∧ b = a ∧ K.lookup a = none ∧ lawH K a cs vs ns b = some (.frz { cls := .type "list", data := .seq vs.toArray } (.lst (ns.map V.int)))) ∨ (b ∉ cs.map (·.2) ∧ lawH K a cs vs ns b = none) := by
  unfold lawH
  by_cases h1 : b ∈ cs.map (·.2)
  · exact Or.inl ⟨h1, if_pos h1⟩
  · by_cases h2 : b = a ∧ K.lookup a = none
    · exact Or.inr (Or.inl ⟨h1, h2.1, h2.2, by rw [if_neg h1, if_pos h2]⟩)
    · exact Or.inr (Or.inr ⟨h1, by rw [if_neg h1, if_neg h2]⟩)

theorem law_callG {mb : Str → Option Value} {k : Nat} {fa a : Addr} {cs : List (Addr × Addr)} {fd : FuncData} {x : Str} {sp : Sp} {s₁ : Shared} {vs : List Value} {ns : List Int}
    (KX : K.In s₁.heap) (hns : s₁.heap.Ns mainGlobals mg) (hb : s₁.heap.Ns builtinsNs mb) (hbb : ∀ x : Str, x ≠ "__name__" → mb x = bootBuiltins x) (hlim : s₁.heap.NoLimit) (hg : s₁.gens = #[])
    (hT : ∀ p ∈ cs, s₁.heap.get? p.2 = some { cls := .none, data := .fields #[] }) (nT : ∀ p ∈ cs, K.lookup p.2 = none) (C : ∀ p ∈ cs, PySem.W.CodeHd s₁.heap p.1 p.2)
    (hbm : ∃ (bm : Addr) (ob : Obj), mg "__builtins__" = some (.ref bm) ∧ bm ≠ builtinsNs ∧ s₁.heap.get? bm = some ob ∧ ob.cls = .type "module" ∧ ob.dict = some builtinsNs ∧ ob.data = .plain)
    (ha : s₁.heap.get? a = some { cls := .type "list", data := .seq vs.toArray }) (hi : IntsAre vs ns) (hl : ns.length ≤ sizeLine) (hr : Room k callerA)
    (F : ∀ base : Heap, K.In base → base.Ns mainGlobals mg → (∀ p ∈ cs, TabB base mg p.1 p.2) → FnG P w K mg base CX k fa fd [x] sp) (hbind : ∀ (s : Shared) (u : Value), BindsTo s fd ⟨[u], []⟩ [(x, u)])
    (hsp : ∀ H : Hp, (∀ p ∈ cs, H p.2 = some (.tbl #[])) → SqL K H a (ns.map V.int) → sp [.ref a] H (fun v _ => v = .bl true) fun _ _ _ => False)
    (hCX : ∀ H e s', CX [] H s₁ (fun _ _ _ => False) e s' → False) :
    codeAny (model P w) callerA (.call (.ref fa) ⟨[.ref a], []⟩) (fun r s' => r = .ok (.ret (.bool true)) ∧ OldK s₁.heap s'.heap ∧ s'.os = s₁.os ∧ AllBare s'.gens) s₁ := by
  have rv := vals_ints hi
  have lenV := hi.length
  have isT : ∀ b : Addr, b ∈ cs.map (·.2) → s₁.heap.get? b = some { cls := .none, data := .fields #[] } := fun b hb => by
    obtain ⟨p, hp, rfl⟩ := List.mem_map.mp hb
    exact hT p hp
  have aT : a ∉ cs.map (·.2) := fun z => by
    have q := (isT a z).symm.trans ha
    cases q
  generalize hHd : lawH K a cs vs ns = H
  have cases' : ∀ b, (b ∈ cs.map (·.2) ∧ H b = some (.tbl #[])) ∨ (b ∉ cs.map (·.2) ∧ b = a ∧ K.lookup a = none ∧ H b = some (.frz { cls := .type "list", data := .seq vs.toArray } (.lst (ns.map V.int)))) ∨ (b ∉ cs.map (·.2) ∧ H b = none) := fun b => by
    rw [← hHd]
    exact lawH_cases
  have hTab : ∀ p ∈ cs, H p.2 = some (.tbl #[]) := fun p hp => by
    rw [← hHd]
    exact lawH_tab hp
  have hS : SqL K H a (ns.map V.int) := by
    cases hk : K.lookup a with
    | none =>
      rcases cases' a with z | ⟨_, _, _, z⟩ | ⟨_, z⟩
      · exact absurd z.1 aT
      · exact Or.inl (Or.inr ⟨_, z⟩)
      · rw [← hHd] at z
        unfold lawH at z
        rw [if_neg aT, if_pos ⟨rfl, hk⟩] at z
        cases z
    | some o =>
      have e := (KX a o hk).symm.trans ha
      cases e
      exact Or.inr ⟨_, vs.toArray, _, hk, rfl, rfl, rfl, by rw [List.size_toArray, lenV]; exact hl, by simpa using rv⟩
  have hok : HOk P w H s₁.heap := fun b u e => by
    rcases cases' b with ⟨hb, z⟩ | ⟨_, hb, _, z⟩ | ⟨_, z⟩
    · rw [z] at e
      cases e
      exact isT b hb
    · rw [z] at e
      cases e
      subst hb
      exact ⟨ha, by rw [List.length_map]; exact hl, vs, _, rv, ha⟩
    · rw [z] at e
      cases e
  -- what is no table and no script is untracked
  have free : ∀ {b : Addr} {o : Obj}, s₁.heap.get? b = some o → o.data ≠ .fields #[] → (∀ l n, o.data ≠ .seq l n) → H b = none := fun {b o} e h1 h2 => by
    rcases cases' b with ⟨hb, _⟩ | ⟨_, hb, _, _⟩ | ⟨_, z⟩
    · have q := (isT b hb).symm.trans e
      cases q
      exact absurd rfl h1
    · subst hb
      have q := ha.symm.trans e
      cases q
      exact absurd rfl (h2 _ _)
    · exact z
  have toBase : ∀ {b : Addr} {o : Obj}, s₁.heap.get? b = some o → H b = none → (hidT s₁.heap H).get? b = some o := fun e n => hidT_get e n
  have nsB : ∀ {b : Addr} {m : Str → Option Value}, s₁.heap.Ns b m → (hidT s₁.heap H).Ns b m := fun {b m} ⟨o, es, ep, e, d, r⟩ =>
    ⟨o, es, ep, toBase e (free e (fun z => by rw [d] at z; cases z) fun l n z => by rw [d] at z; cases z), d, r⟩
  have inB : K.In (hidT s₁.heap H) := fun b o e => toBase (KX b o e) (by
    rcases cases' b with ⟨hb, _⟩ | ⟨_, hb, hk, _⟩ | ⟨_, z⟩
    · obtain ⟨p, hp, rfl⟩ := List.mem_map.mp hb
      rw [nT p hp] at e
      cases e
    · subst hb
      rw [hk] at e
      cases e
    · exact z)
  have hM : L2.Mod K mg (hidT s₁.heap H) := ⟨inB, nsB hns, ⟨mb, nsB hb, hbb⟩, let ⟨mc, h1, h2⟩ := hlim; ⟨mc, nsB h1, h2⟩⟩
  have TB : ∀ p ∈ cs, TabB (hidT s₁.heap H) mg p.1 p.2 := fun p hp => by
    obtain ⟨o, us, file, tf, flags, tg, inF, text, tt, e1, r1, r2, r3, r4, r5, r6, r7, r8, hne⟩ := C p hp
    obtain ⟨bm, ob, b1, b2, b3, b4, b5, b6⟩ := hbm
    refine ⟨⟨o, us, file, tf, flags, tg, inF, text, tt, toBase e1 (free e1 (fun z => ?_) fun l n z => ?_), r1, r2, r3, r4, r5, r6, r7, r8, hne⟩, ⟨bm, ob, b1, b2, fun q => ?_, fun q => ?_, toBase b3 (free b3 (fun z => ?_) fun l n z => ?_), b4, b5, b6⟩, fun z => ?_⟩
    · rw [r2] at z
      cases z
      simp at r3
    · rw [r2] at z
      cases z
    · obtain ⟨o', es, ep, e, hd, _⟩ := hns
      rw [q, e] at b3
      cases b3
      rw [hd] at b6
      cases b6
    · rw [q, hT p hp] at b3
      cases b3
      cases b6
    · rw [b6] at z
      cases z
    · rw [b6] at z
      cases z
    · obtain ⟨o', es, ep, e, hd, _⟩ := hns
      rw [z, hT p hp] at e
      cases e
      cases hd
  have e0 : Env0 P w K mg (hidT s₁.heap H) callerA [] s₁ H := ⟨rfl, hM, fun b o e => of_hidT e, Nat.le_of_eq (hidT_size _ _), trivial, fun b hb => absurd (show b ∈ ([] : List Addr) from hb) List.not_mem_nil, hok, .of_eq hg⟩
  refine codeAny_mono ((F _ inB (nsB hns) TB).run callerA [] s₁ H ⟨[.ref a], []⟩ [.ref a] [.ref a] _ _ rfl hr e0 (hbind s₁ (.ref a)) (.cons rfl .nil) (hsp H hTab hS)) fun r s' h => ?_
  cases r with
  | error e => exact (hCX H e s' h).elim
  | ok fl =>
    cases fl with
    | next => exact False.elim h
    | brk => exact False.elim h
    | cont => exact False.elim h
    | ret u =>
      obtain ⟨v, H', os, bare, un, hok', r', q⟩ := h
      have q' : v = .bl true := q
      subst q'
      obtain rfl : u = Value.bool true := r'
      have rest : ∀ b o, b ∉ cs.map (·.2) → s₁.heap.get? b = some o → s'.heap.get? b = some o := fun b o nb e => by
        rcases cases' b with ⟨hb, _⟩ | ⟨_, _, _, z⟩ | ⟨_, z⟩
        · exact absurd hb nb
        · obtain ⟨e2, _⟩ := hok' b _ (un.frzs b _ _ z)
          obtain ⟨e1, _⟩ := hok b _ z
          rw [e] at e1
          cases e1
          exact e2
        · exact un.keep b o e z List.not_mem_nil List.not_mem_nil
      have grown : ∀ p ∈ cs, ∃ more : Array Value, s'.heap.get? p.2 = some { cls := .none, data := .fields more } := fun p hp => by
        obtain ⟨more, z⟩ := un.tbls p.2 #[] (hTab p hp)
        exact ⟨_, hok' p.2 _ z⟩
      refine ⟨rfl, ⟨fun b o e => ?_, fun b o e => ?_⟩, os, bare⟩
      · by_cases hb : b ∈ cs.map (·.2)
        · obtain ⟨p, hp, rfl⟩ := List.mem_map.mp hb
          obtain ⟨more, hm⟩ := grown p hp
          have e' := (hT p hp).symm.trans e
          cases e'
          exact Or.inr (Or.inl ⟨((C p hp).tab (hT p hp)).isCodeTable, rfl, #[], more, rfl, by rw [Array.empty_append]; exact hm⟩)
        · exact Or.inl (rest b o hb e)
      · by_cases hb : b ∈ cs.map (·.2)
        · obtain ⟨p, hp, rfl⟩ := List.mem_map.mp hb
          obtain ⟨more, hm⟩ := grown p hp
          exact ⟨_, hm⟩
        · exact ⟨o, rest b o hb e⟩

/-- the code object and the table of a def of the text -/
def TabF (q : Program) (K : PySem.W.Frag) (mg : Str → Option Value) (h : Heap) : Prop := ∀ (x : Str) (f c P : Addr) (o : Obj) (fd : FuncData) (e : Value) (dd : Option Addr) (vs : Array Value) (sl : Array (Option Value)),
  ((recsOf q).any fun d => d.name == x) = true → mg x = some (.ref f) → K.lookup f = some o → o.data = .func fd → fd.code = .ref c → K.lookup c = some ⟨e, dd, .fields vs, sl⟩ → vs[11]? = some (.ref P) →
  h.get? P = some { cls := .none, data := .fields #[] } ∧ PySem.W.CodeHd h c P
/-- what is known of the law's promise at the head's heap h -/
def LawAtG (l : PySem.W.OpenLaw) (w : World) (K : PySem.W.Frag) (CX : CXT) (k n : Nat) (x : Str) (mg : Str → Option Value) (fa : Addr) (h : Heap) : Prop :=
  ∃ (fd : FuncData) (cs : List (Addr × Addr)) (sp : Sp), (∀ p ∈ cs, h.get? p.2 = some { cls := .none, data := .fields #[] }) ∧ (∀ p ∈ cs, K.lookup p.2 = none) ∧ (∀ p ∈ cs, PySem.W.CodeHd h p.1 p.2) ∧ (∀ (s : Shared) (u : Value), BindsTo s fd ⟨[u], []⟩ [(x, u)]) ∧
    (∀ (H : Hp) (a : Addr) (ns : List Int), ns.length ≤ n → (∀ z ∈ ns, Builtin.Int.intBits z ≤ 1048576) → (∀ p ∈ cs, H p.2 = some (.tbl #[])) → SqL K H a (ns.map V.int) → sp [.ref a] H (fun v _ => v = .bl true) fun _ _ _ => False) ∧
    ∀ base : Heap, K.In base → base.Ns mainGlobals mg → (∀ p ∈ cs, TabB base mg p.1 p.2) → FnG l.prog w K mg base CX k fa fd [x] sp
theorem walk_ofG {l : PySem.W.OpenLaw} {n k : Nat} {q : Program} {loose : List Str} {XP : (Str → Option Value) → Heap → Prop} {YP : World → Heap → Prop} {d : DefRec} {K : Params → PySem.W.Frag} {CX : World → CXT} {x : Str}
    (hn : l.most = some n) (hn2 : n ≤ sizeLine) (hdf : d.params.defaults = []) (hr : Room k callerA) (hY : ∀ (w : World) (h : Heap), YP w h → (K w.params).In h)
    (F : ∀ (w : World) (mg : Str → Option Value) (fa : Addr) (h : Heap), YP w h → (K w.params).In h → h.Ns mainGlobals mg → mg d.name = some (.ref fa) → TabF q (K w.params) mg h → LawAtG l w (K w.params) (CX w) k n x mg fa h)
    (hCX : ∀ (w : World) (H : Hp) (s : Shared) (e : Value) (s' : Shared), CX w [] H s (fun _ _ _ => False) e s' → False) :
    PySem.W.WalkO q loose XP YP l.row.toRowW d [] (fun f vs => PySem.call f vs) := by
  refine Att.attach_callB hn hdf fun w s₀ s₁ mg mb fa o pm cd doc a vs ns G Y ho hd hcd hmg hobj hints hlen hbits hg => ?_
  have KX := hY w _ Y
  have tabs : TabF q (K w.params) mg s₁.heap := fun y f c P o1 fd1 e dd vs1 sl hy k1 k2 k3 k4 k5 k6 => by
    obtain ⟨dL, hm, hn1⟩ := List.any_eq_true.mp hy
    have hn2 : dL.name = y := beq_iff_eq.mp hn1
    obtain ⟨a', o', fd', c', P', h1, h2, h3, h4, h5, h6⟩ := G.T.tab dL hm
    rw [hn2, k1] at h1
    cases h1
    have g1 := (KX _ _ k2).symm.trans h2
    cases g1
    rw [k3] at h3
    cases h3
    rw [k4] at h4
    cases h4
    obtain ⟨⟨oc, vc, e1, r0, e3, e4⟩, hP⟩ := h6
    have g2 := (KX _ _ k5).symm.trans e1
    cases g2
    have z3 : Data.fields vs1 = Data.fields vc := e3
    cases z3
    rw [k6] at e4
    cases e4
    obtain ⟨o7, us7, file, tf, flags, tg, inF, text, tt, op, f1, f2, f3, f4, f5, f6, f7, f8, f9, f10, f11⟩ := h5
    have g3 := e1.symm.trans f1
    cases g3
    have z4 : Data.fields vs1 = Data.fields us7 := f2
    cases z4
    exact ⟨hP, _, vs1, file, tf, flags, tg, inF, text, tt, e1, r0, rfl, k6, f3, f4, f5, f6, f7, f11⟩
  obtain ⟨fd, cs, sp, hT, nT, C, hb, hsp, hF⟩ := F w mg fa _ Y KX G.T.g hmg tabs
  exact law_callG KX G.T.g G.T.b G.T.builtins G.T.nolimit hg hT nT C G.T.bmain hobj hints (Nat.le_trans hlen hn2) hr hF hb (fun H hH hS => hsp H a ns hlen hbits hH hS) fun H e s' => hCX w H s₁ e s'
end
end Lw
set_option maxRecDepth 100000
set_option maxHeartbeats 2000000
/-! Defs of the text, by their code objects -/
namespace Pd
open PySem PySem.Spec PyProof.Rows L2 GxR Gx Rp Dl

/-- a def of the text whose code object is known -/
structure FunC (K : PySem.W.Frag) (x : Str) (st : Stmt) (f : Addr) (fd : FuncData) (c : Addr) : Prop where
  ex : ∃ (oc : Value) (od : Option Addr) (kV doc pm : Value) (an : Option Addr) (ct : Value) (osl : Array (Option Value)),
    fd = PySem.W.fnOf x x (defArgs st) (defBody st) (defScope st) .none kV doc pm an (.ref c) ct ∧ K.lookup f = some ⟨oc, od, .func fd, osl⟩ ∧ PySem.W.codeIn K (.ref c) x = true
  kp : PySem.W.keepIn K (.ref f) = true
section
variable {P : Program} {w : World} {K : PySem.W.Frag} {mg : Str → Option Value} {base : Heap}
theorem FunC.ok {x : Str} {st : Stmt} {f c : Addr} {fd : FuncData} {N ps : List Str} {k : Nat} {sp : Sp} (F : FunC K x st f fd c) (S : FnScope N ps (defScope st)) (len : ∀ vs H Q E, sp vs H Q E → vs.length = ps.length)
    (hbody : ∀ (A : Around) (outer : List Env) (s : Shared) (H : Hp) (vs : List V) (Q : VK) (E : XK), Room k (A.deeper (envOfC x (defScope st) s.heap.objs.size f (.ref c))) → sp vs H Q E →
      ∃ t, PSs (cxOf CX0 P w K mg base N x (defScope st) f (.ref c) A outer s H E).nox (defBody st) t ∧ t { nx := fun _ H' => Q .non H', rt := Q } (start N vs) H) : FnOk P w K mg base CX0 (k + 1) f fd ps sp := by
  obtain ⟨oc, od, kV, doc, pm, an, ct, osl, rfl, lk, hcd⟩ := F.ex
  refine fn_of lk hcd S len fun A outer s H vs Q E hr hsp => ?_
  obtain ⟨t, ht, hq⟩ := hbody A outer s H vs Q E hr hsp
  exact ⟨t, ht.nox, hq⟩
theorem FunC.okX {CX : CXT} {x : Str} {st : Stmt} {f c : Addr} {fd : FuncData} {N ps : List Str} {k : Nat} {sp : Sp} (F : FunC K x st f fd c) (S : FnScope N ps (defScope st)) (len : ∀ vs H Q E, sp vs H Q E → vs.length = ps.length)
    (hbody : ∀ (A : Around) (outer : List Env) (s : Shared) (H : Hp) (vs : List V) (Q : VK) (E : XK), Room k (A.deeper (envOfC x (defScope st) s.heap.objs.size f (.ref c))) → sp vs H Q E →
      ∃ t, PSs (cxOf CX P w K mg base N x (defScope st) f (.ref c) A outer s H E) (defBody st) t ∧ t { nx := fun _ H' => Q .non H', rt := Q } (start N vs) H) : FnOk P w K mg base CX (k + 1) f fd ps sp := by
  obtain ⟨oc, od, kV, doc, pm, an, ct, osl, rfl, lk, hcd⟩ := F.ex
  exact fn_of lk hcd S len fun A outer s H vs Q E hr hsp => hbody A outer s H vs Q E hr hsp
theorem FunC.okG {x : Str} {st : Stmt} {f c : Addr} {fd : FuncData} {N ps : List Str} {k : Nat} {sp : Sp} (F : FunC K x st f fd c) (S : FnScope N ps (defScope st)) (len : ∀ vs H Q E, sp vs H Q E → vs.length = ps.length)
    (hbody : ∀ (A : Around) (outer : List Env) (s : Shared) (H : Hp) (vs : List V) (Q : VK) (E : XK), A.guards = some [] → Room k (A.deeper (envOfC x (defScope st) s.heap.objs.size f (.ref c))) → sp vs H Q E →
      ∃ t, PSs (cxOf CX0 P w K mg base N x (defScope st) f (.ref c) A outer s H E).nox (defBody st) t ∧ t { nx := fun _ H' => Q .non H', rt := Q } (start N vs) H) : Lw.FnG P w K mg base CX0 (k + 1) f fd ps sp := by
  obtain ⟨oc, od, kV, doc, pm, an, ct, osl, rfl, lk, hcd⟩ := F.ex
  refine Lw.fng_of lk hcd S len fun A outer s H vs Q E hg hr hsp => ?_
  obtain ⟨t, ht, hq⟩ := hbody A outer s H vs Q E hg hr hsp
  exact ⟨t, ht.nox, hq⟩
theorem FunC.binds {x : Str} {st : Stmt} {f c : Addr} {fd : FuncData} {ps : List Str} (F : FunC K x st f fd c)
    (h : ∀ (kV doc pm : Value) (an : Option Addr) (cdv ct : Value) (us : List Value), us.length = ps.length → bindArgs (PySem.W.fnOf x x (defArgs st) (defBody st) (defScope st) .none kV doc pm an cdv ct) ⟨us, []⟩ = pure (ps.zip us)) : Binds K fd ps [] := by
  obtain ⟨oc, od, kV, doc, pm, an, ct, osl, rfl, lk, hcd⟩ := F.ex
  exact .all (h kV doc pm an _ ct)
/-- a def as it is called by its name -/
structure Df (P : Program) (w : World) (K : PySem.W.Frag) (mg : Str → Option Value) (base : Heap) (CX : CXT) (k : Nat) (x : Str) (ps : List Str) (sp : Sp) : Prop where
  ex : ∃ f fd, mg x = some (.ref f) ∧ PySem.W.keepIn K (.ref f) = true ∧ Binds K fd ps [] ∧ FnOk P w K mg base CX k f fd ps sp
end
def tCal (sp : Sp) (E : XK) (t : TA) : TE := fun σ H Q => t σ H fun vs H1 => sp vs H1 Q E
section
variable {X : Cx} {CX : CXT} {k : Nat} {x : Str} {ps : List Str} {sp : Sp} {e : Expr} {es : List Expr} {t : TA} {E : XK} {p pos : Pos}
theorem pcall (D : Df X.prog X.w X.K X.mg X.base CX k x ps sp) (hr : Room k X.A) (hx : Passes CX X E) (hg : Gl X x) (ha : PA X (e :: es) t) (hdb : (x == ("__debug__" : Str)) = false := by decide)
    (he : starEach (e :: es) X.env = (false, eval e X.env) :: starEach es X.env := by rfl) (hpl : (backTo pos (starEach es X.env)).any (·.1) = false := by rfl) : PE X (.Call (.Name x p) (e :: es) [] pos) (tCal sp E t) := by
  obtain ⟨f, fd, hm, hk, hb, F⟩ := D.ex
  have h := pe_call (dvs := []) (ds := []) (pos := pos) (p := p) F hr hg hm hk hb .nil hx ha hdb he hpl
  refine ⟨fun pins s σ H Q I q => h.run pins s σ H Q I ?_⟩
  have e1 : (fun vs H1 => sp (vs ++ []) H1 Q E) = fun vs H1 => sp vs H1 Q E := by
    funext vs H1
    rw [List.append_nil]
  show t σ H (fun vs H1 => sp (vs ++ []) H1 Q E)
  rw [e1]
  exact q
/-- isinstance(e, T) -/
def tIsi (K : PySem.W.Frag) (n : String) (te : TE) : TE := tCB (rIsi K) (tCons te (tCons (tC (.ty n)) tNil))
theorem pe_isi {n : Str} {T : String} {te : TE} {p2 : Pos} (he : PE X e te) (hg : Gl X "isinstance") (hm : X.mg "isinstance" = none) (hgn : Gl X n) (hmn : X.mg n = none) (hv : bootBuiltins n = some (.type T)) (hn : n ≠ "__name__" := by decide) (hdb : (n == ("__debug__" : Str)) = false := by decide)
    (h1 : starEach [e, .Name n p2] X.env = (false, eval e X.env) :: starEach [.Name n p2] X.env := by rfl) : PE X (.Call (.Name "isinstance" p) [e, .Name n p2] [] pos) (tIsi X.K T te) :=
  pe_callB call_isi hg hm (by decide +kernel) (pa_cons he (pa_cons (pe_bltn (v := .ty T) hgn hmn hv rfl hn hdb) pa_nil) h1) (he := h1)
end
theorem rd_tIsi {K : PySem.W.Frag} {σ : L2.St} {H : Hp} {v : V} {d : PyData} {n : String} {i : Nat} {Q : VK} (hσ : σ[i]? = some (some v)) (h : Da K H v d) (q : Q (.bl (isTy n d)) H) (hn : n ∈ ["tuple", "dict", "str", "int", "bool", "list"] := by decide) : tIsi K n (tVar i) σ H Q := ⟨v, hσ, rd_isi h q hn⟩
theorem gxs {N : List Str} {sc scope : Scope} {own : List (Str × Nat)} (h : blkC N sc scope own = true) (co : scope.isCoroutine = false) (nc : ∀ y ∈ scope.names, y.2 ≠ .cell) (dot : scope.names.lookup (".0" : Str) = some NameKind.local) : GxS N sc scope own := ⟨blkOk_by h, co, nc, dot⟩
theorem op_inK {X : Cx} {K : PySem.W.Frag} (h : X.K = K) : OpR X (compareOp .In) (rIn K false) := h ▸ op_in_seq
theorem pe_isiK {X : Cx} {K : PySem.W.Frag} {e : Expr} {p pos : Pos} (hK : X.K = K) {n : Str} {T : String} {te : TE} {p2 : Pos} (he : PE X e te) (hg : Gl X "isinstance") (hm : X.mg "isinstance" = none) (hgn : Gl X n) (hmn : X.mg n = none) (hv : bootBuiltins n = some (.type T)) (hn : n ≠ "__name__" := by decide) (hdb : (n == ("__debug__" : Str)) = false := by decide)
    (h1 : starEach [e, .Name n p2] X.env = (false, eval e X.env) :: starEach [.Name n p2] X.env := by rfl) : PE X (.Call (.Name "isinstance" p) [e, .Name n p2] [] pos) (tIsi K T te) := hK ▸ pe_isi he hg hm hgn hmn hv hn hdb h1
theorem call_lenK {X : Cx} {K : PySem.W.Frag} (hK : X.K = K) : CallR X (.builtin "len") (fun xs H Q => ∃ p ys, xs = [.ref p] ∧ (SqL K H p ys ∨ SqT K H p ys) ∧ Q (.int ys.length) H) := hK ▸ call_len_seq
/-- the built-in names that the text leaves alone -/
structure Bn (mg : Str → Option Value) : Prop where
  isinstance : mg "isinstance" = none
  len : mg "len" = none
  all : mg "all" = none
  sum : mg "sum" = none
  zip : mg "zip" = none
  range : mg "range" = none
  repr : mg "repr" = none
  enumerate : mg "enumerate" = none
  tuple : mg "tuple" = none
  list : mg "list" = none
  dict : mg "dict" = none
  str : mg "str" = none
  int : mg "int" = none
  bool : mg "bool" = none
theorem bt_bool : bootBuiltins "bool" = some (.type "bool") := by decide +kernel
theorem bt_int : bootBuiltins "int" = some (.type "int") := by decide +kernel
theorem bt_str : bootBuiltins "str" = some (.type "str") := by decide +kernel
theorem bt_tuple : bootBuiltins "tuple" = some (.type "tuple") := by decide +kernel
theorem bt_dict : bootBuiltins "dict" = some (.type "dict") := by decide +kernel
theorem bt_list : bootBuiltins "list" = some (.type "list") := by decide +kernel
theorem bt_repr : bootBuiltins "repr" = some (.builtin "repr") := by decide +kernel
theorem bt_sum : bootBuiltins "sum" = some (.builtin "sum") := by decide +kernel
theorem bt_all : bootBuiltins "all" = some (.builtin "all") := by decide +kernel
/-- a test of data: one argument -/
def spD (K : PySem.W.Frag) (T : List Addr) (f : PyData → Bool) : Sp := fun vs H Q _ => ∃ v d, vs = [v] ∧ Da K H v d ∧ small d = true ∧ Tb T H ∧ ∀ H', Ge H H' → Q (.bl (f d)) H'
theorem spD_len {K : PySem.W.Frag} {T : List Addr} {f : PyData → Bool} : ∀ vs H Q E, spD K T f vs H Q E → vs.length = 1 := fun vs H Q E ⟨_, _, h, _⟩ => by rw [h]; rfl
end Pd
set_option maxRecDepth 100000
namespace Tx
open PySem L2
def top (i : Nat) : Stmt := PySem.Challenge.pw_keywait_k53_typing_refused.main.body.getD i (.Pass ⟨0, 0, 0, 0⟩)
abbrev s_KeywaitError : Stmt := top 1
abbrev s_NoMap : Stmt := top 2
abbrev s_NoState : Stmt := top 3
abbrev s_NoKeys : Stmt := top 4
abbrev s_NoCommand : Stmt := top 5
abbrev s_NoRow : Stmt := top 6
abbrev s_NoTime : Stmt := top 7
abbrev s_NoFlag : Stmt := top 8
abbrev s_Unlike : Stmt := top 9
abbrev s_NoGaps : Stmt := top 10
abbrev s_NoNumber : Stmt := top 11
abbrev s_NoBinding : Stmt := top 12
abbrev s_NoText : Stmt := top 13
abbrev s_is_integer : Stmt := top 17
abbrev s_is_boolean : Stmt := top 18
abbrev s_is_within : Stmt := top 19
abbrev s_is_word : Stmt := top 20
abbrev s_is_name : Stmt := top 21
abbrev s_is_keys : Stmt := top 22
abbrev s_is_ascending : Stmt := top 23
abbrev s_is_map : Stmt := top 30
abbrev s_check_map : Stmt := top 31
abbrev s_check_state : Stmt := top 32
abbrev s_fits_state : Stmt := top 33
abbrev s_bound_in : Stmt := top 34
abbrev s_facts_of : Stmt := top 35
abbrev s_holds : Stmt := top 36
abbrev s_are_flags : Stmt := top 37
abbrev s_are_outside : Stmt := top 38
abbrev s_are_names : Stmt := top 39
abbrev s_are_settings : Stmt := top 40
abbrev s_are_commands : Stmt := top 41
abbrev s_are_layers : Stmt := top 42
abbrev s_is_binding : Stmt := top 43
abbrev s_row_of : Stmt := top 45
abbrev s_type_text : Stmt := top 48
abbrev s_is_apart : Stmt := top 49
abbrev s_check_text : Stmt := top 50
abbrev s_is_occurrence : Stmt := top 51
abbrev s_are_apart : Stmt := top 52
abbrev s_pausing : Stmt := top 53
abbrev s_law_open : Stmt := top 55
abbrev s_law_spread : Stmt := top 56
abbrev s_law_take : Stmt := top 57
abbrev s_law_one_of : Stmt := top 58
abbrev s_law_any_effect : Stmt := top 59
abbrev s_law_any_keys : Stmt := top 60
abbrev s_law_any_form : Stmt := top 61
abbrev s_law_any_binding : Stmt := top 62
abbrev s_law_any_map : Stmt := top 63
abbrev s_law_any_state : Stmt := top 64
abbrev s_law_any_text : Stmt := top 65
abbrev s_law_caught : Stmt := top 66
abbrev s_law_odd_map : Stmt := top 67
abbrev s_law_odd_state : Stmt := top 68
abbrev s_law_wrong_sign : Stmt := top 69
abbrev s_law_door : Stmt := top 70
abbrev s_law : Stmt := top 71
abbrev s_NoBinding_init : Stmt := inClass (top 12) 0
abbrev s_NoText_init : Stmt := inClass (top 13) 0
end Tx
set_option maxRecDepth 100000
set_option maxHeartbeats 2000000
/-! The program's tests of data -/
namespace Pr
open PySem PySem.Spec PyProof.Rows L2 GxR Gx Rp Dl Pd Tx

/-! ### mirrors -/
def letters (x : Str) : Bool := x.cps.toList.all fun c => decide (97 ≤ c) && decide (c ≤ 122)
def isWord (m : Int) : PyData → Bool
  | .str x => decide (1 ≤ (x.length : Int)) && decide ((x.length : Int) ≤ m) && letters x
  | _ => false
def isName : PyData → Bool := isWord 8
def isKeys : PyData → Bool := isWord 4
def isBoolD : PyData → Bool
  | .bool _ => true
  | _ => false
def isIntD : PyData → Bool
  | .int _ => true
  | _ => false

theorem isTy_str {d : PyData} (h : isTy "str" d = true) : ∃ x, d = .str x := by
  cases d <;> simp [isTy, tyName] at h
  exact ⟨_, rfl⟩
theorem isTy_tup {d : PyData} (h : isTy "tuple" d = true) : ∃ x, d = .tuple x := by
  cases d <;> simp [isTy, tyName] at h
  exact ⟨_, rfl⟩
theorem isTy_dct {d : PyData} (h : isTy "dict" d = true) : ∃ x, d = .dict x := by
  cases d <;> simp [isTy, tyName] at h
  exact ⟨_, rfl⟩
theorem isWord_no {m : Int} {d : PyData} (h : isTy "str" d = false) : isWord m d = false := by
  cases d <;> first | rfl | simp [isTy, tyName] at h
theorem isBool_ty (d : PyData) : isTy "bool" d = isBoolD d := by cases d <;> rfl
theorem isInt_ty (d : PyData) : (isTy "int" d && !isTy "bool" d) = isIntD d := by cases d <;> rfl

section
variable {P : Program} {w : World} {K : PySem.W.Frag} {mg : Str → Option Value} {base : Heap} {T : List Addr}
/-! ### kinds -/
theorem scBoolean : FnScope ["thing"] ["thing"] (defScope s_is_boolean) := ⟨rfl, rfl, rfl, by decide +kernel, rfl, by decide +kernel, by decide +kernel⟩
theorem ok_is_boolean {f c : Addr} {fd : FuncData} (F : FunC K "is_boolean" s_is_boolean f fd c) (B : Bn mg) : FnOk P w K mg base CX0 1 f fd ["thing"] (spD K T isBoolD) := by
  refine F.ok scBoolean spD_len (fun A outer s H vs Q E hr h => ?_)
  obtain ⟨v, d, rfl, hd, hs, hT, q⟩ := h
  refine ⟨_, pss_one (ps_ret (pe_isi (pv 0) rfl B.isinstance rfl B.bool bt_bool)), ?_⟩
  refine rd_tIsi rfl hd ?_
  rw [isBool_ty]
  exact q H (Ge.refl H)
theorem scInteger : FnScope ["thing"] ["thing"] (defScope s_is_integer) := ⟨rfl, rfl, rfl, by decide +kernel, rfl, by decide +kernel, by decide +kernel⟩
theorem ok_is_integer {f c : Addr} {fd : FuncData} (F : FunC K "is_integer" s_is_integer f fd c) (B : Bn mg) : FnOk P w K mg base CX0 1 f fd ["thing"] (spD K T isIntD) := by
  refine F.ok scInteger spD_len (fun A outer s H vs Q E hr h => ?_)
  obtain ⟨v, d, rfl, hd, hs, hT, q⟩ := h
  refine ⟨_, pss_one (ps_ret (pe_and (pe_isi (pv 0) rfl B.isinstance rfl B.int bt_int) (pe_one (pe_not (pe_isi (pv 0) rfl B.isinstance rfl B.bool bt_bool))))), ?_⟩
  refine rd_tIsi rfl hd ⟨_, rfl, ?_⟩
  have q' := q H (Ge.refl H)
  rw [← isInt_ty] at q'
  cases e : isTy "int" d with
  | false =>
    rw [e] at q'
    exact iteF q'
  | true =>
    rw [e] at q'
    exact iteT (rd_tIsi rfl hd ⟨_, rfl, q'⟩)
/-- one argument and a number -/
def spW (K : PySem.W.Frag) (T : List Addr) : Sp := fun vs H Q _ => ∃ v d m, vs = [v, .int m] ∧ Da K H v d ∧ small d = true ∧ Tb T H ∧ ∀ H', Ge H H' → Q (.bl (isWord m d)) H'
abbrev nWord : List Str := ["thing", "most", "sign"]
theorem scWord : FnScope nWord ["thing", "most"] (defScope s_is_word) := ⟨rfl, rfl, rfl, by decide +kernel, rfl, by decide +kernel, by decide +kernel⟩
theorem lt_one (a b : Nat) : decide ([a] < [b]) = decide (a < b) := by
  by_cases h : a < b
  · rw [decide_eq_true h]
    exact decide_eq_true (List.Lex.rel h)
  · rw [decide_eq_false h]
    refine decide_eq_false fun z => ?_
    cases z with
    | rel z => exact h z
    | cons z => cases z
theorem le_one (a b : Nat) : (!decide ([b] < [a])) = decide (a ≤ b) := by
  rw [lt_one]
  by_cases h : a ≤ b
  · rw [decide_eq_true h, decide_eq_false (by omega)]
    rfl
  · rw [decide_eq_false h, decide_eq_true (by omega)]
    rfl
theorem ok_is_word {f c Pt : Addr} {fd : FuncData} (F : FunC K "is_word" s_is_word f fd c) (B : Bn mg) (TB : TabB base mg c Pt) (hPt : Pt ∈ T) : FnOk P w K mg base CX0 2 f fd ["thing", "most"] (spW K T) := by
  refine F.ok scWord (fun vs H Q E ⟨_, _, _, h, _⟩ => by rw [h]; rfl) (fun A outer s H vs Q E hr h => ?_)
  obtain ⟨v, d, m, rfl, hd, hs, hT, q⟩ := h
  refine ⟨_, pss_cons (ps_if (PW.pt (pw_or (pt_not (pt_val (pe_isi (pv 0) rfl B.isinstance rfl B.str bt_str))) (pw_or1 (pt_not (pt_chain op_le op_le pe_int (pe_callB call_len_str rfl B.len PySem.boot_len (pa_cons (pv 0) pa_nil)) (pv 1)))))) (pss_one (ps_ret pe_bl)) pss_nil)
    (pss_one (ps_ret (pe_allX (k := 0) (own := [("sign", 2)]) hr rfl B.all TB rfl scWord.nd (gxs (N := nWord) (sc := defScope s_is_word) (by decide +kernel) rfl (by decide +kernel) rfl) (pi_str (pv 0))
      (fun _ _ _ _ _ _ _ _ _ => pg_name (i := 2) scWord.nd rfl (Or.inl rfl)) (fun _ _ _ _ _ _ _ _ _ => pts_nil) (fun _ _ _ _ _ _ _ _ _ => pe_chain op_le_str op_le_str pe_str (pv 2) pe_str)))), ?_⟩
  refine rd_tIsi rfl hd ⟨_, rfl, ?_⟩
  cases e : isTy "str" d with
  | false =>
    refine iteT (iteT ?_)
    have q' := q H (Ge.refl H)
    rw [isWord_no e] at q'
    exact q'
  | true =>
    refine iteF ?_
    obtain ⟨x, rfl⟩ := isTy_str e
    cases hd
    refine ⟨_, rfl, _, rfl, small_str hs, _, _, rfl, rfl, _, rfl, ?_⟩
    have q' : ∀ H', Ge H H' → Q (.bl (decide (1 ≤ (x.length : Int)) && decide ((x.length : Int) ≤ m) && letters x)) H' := q
    cases e1 : decide (1 ≤ (x.length : Int)) with
    | false =>
      refine iteF ⟨_, rfl, iteT ?_⟩
      have z := q' H (Ge.refl H)
      rw [e1] at z
      exact z
    | true =>
      refine iteT ⟨.int m, rfl, _, _, rfl, rfl, _, rfl, ?_⟩
      cases e2 : decide ((x.length : Int) ≤ m) with
      | false =>
        refine iteT ?_
        have z := q' H (Ge.refl H)
        rw [e1, e2] at z
        exact z
      | true =>
        refine iteF ?_
        refine rd_allS (fun c => decide (97 ≤ c) && decide (c ≤ 122)) rfl (hT Pt hPt) (fun _ => rfl) (fun c H' g R hR => ?_) fun H' g => ?_
        · refine ⟨_, rfl, _, _, rfl, rfl, _, rfl, ?_⟩
          have h1 : (!decide ((⟨#[c]⟩ : Str).cps.toList < ("a" : Str).cps.toList)) = decide (97 ≤ c) := le_one 97 c
          have h2 : (!decide (("z" : Str).cps.toList < (⟨#[c]⟩ : Str).cps.toList)) = decide (c ≤ 122) := le_one c 122
          rw [h1]
          cases e3 : decide (97 ≤ c) with
          | false =>
            refine iteF ?_
            have z := hR H' (Ge.refl H')
            rw [e3] at z
            exact z
          | true =>
            refine iteT ⟨_, _, rfl, rfl, ?_⟩
            rw [h2]
            have z := hR H' (Ge.refl H')
            rw [e3] at z
            exact z
        · have z := q' H' g
          rw [e1, e2] at z
          exact z
end
end Pr
set_option maxRecDepth 100000
set_option maxHeartbeats 2000000
namespace Pr
open PySem PySem.Spec PyProof.Rows L2 GxR Gx Rp Dl Pd Tx RZ

def isWithin (a b : Int) : PyData → Bool
  | .int i => decide (a ≤ i) && decide (i ≤ b)
  | _ => false
def ltD : PyData → PyData → Bool
  | .str x, .str y => decide (x.cps.toList < y.cps.toList)
  | _, _ => false
def ascD : List PyData → Bool
  | a :: b :: r => ltD a b && ascD (b :: r)
  | _ => true
def areNames : PyData → Bool
  | .tuple ds => ds.all isName && ascD ds
  | _ => false
theorem ascD_iff : ∀ ds : List PyData, ascD ds = true ↔ ∀ k a b, ds[k]? = some a → ds[k + 1]? = some b → ltD a b = true
  | [] => by simp [ascD]
  | [x] => by
    simp only [ascD, true_iff]
    intro k a b h1 h2
    simp at h2
  | x :: y :: r => by
    have ih := ascD_iff (y :: r)
    simp only [ascD, Bool.and_eq_true, ih]
    constructor
    · rintro ⟨h1, h2⟩ k a b e1 e2
      cases k with
      | zero =>
        simp at e1 e2
        rw [← e1, ← e2]
        exact h1
      | succ k => exact h2 k a b (by simpa using e1) (by simpa using e2)
    · intro h
      exact ⟨h 0 x y rfl rfl, fun k a b e1 e2 => h (k + 1) a b (by simpa using e1) (by simpa using e2)⟩
theorem areNames_no {d : PyData} (h : isTy "tuple" d = false) : areNames d = false := by
  cases d <;> first | rfl | simp [isTy, tyName] at h
theorem isName_str {d : PyData} (h : isName d = true) : ∃ x, d = .str x := by
  cases d with
  | str x => exact ⟨x, rfl⟩
  | _ => cases h

/-- zip of two tuples -/
theorem walk_zipT {K : PySem.W.Frag} {a b : Addr} {xs ys : List V} {n : Nat} (hn : n = min xs.length ys.length) : Walk (ItzT K a b) n (fun H => SqT K H a xs ∧ SqT K H b ys) (YPair (fun i => xs[i]?) (fun i => ys[i]?)) := by
  subst hn
  refine ⟨fun i H hi q => ?_, fun H q => ⟨xs, ys, q.1, q.2, by omega⟩, fun i H v H' hi q y => ?_⟩
  · have h1 : i < xs.length := by omega
    have h2 : i < ys.length := by omega
    exact ⟨xs, ys, xs[i], ys[i], q.1, q.2, by simp [h1], by simp [h2]⟩
  · obtain ⟨T, x, z, h1, h2, h3, h4, h5⟩ := y
    exact ⟨T, x, z, h1, h2, h3, h4 xs q.1, h5 ys q.2⟩

section
variable {P : Program} {w : World} {K : PySem.W.Frag} {mg : Str → Option Value} {base : Heap} {T : List Addr}
abbrev DfP (P : Program) (w : World) (K : PySem.W.Frag) (mg : Str → Option Value) (base : Heap) (k : Nat) (x : Str) (ps : List Str) (sp : Sp) : Prop := Df P w K mg base CX0 k x ps sp
theorem scName : FnScope ["thing"] ["thing"] (defScope s_is_name) := ⟨rfl, rfl, rfl, by decide +kernel, rfl, by decide +kernel, by decide +kernel⟩
theorem ok_is_name {f c : Addr} {fd : FuncData} (F : FunC K "is_name" s_is_name f fd c) (D : DfP P w K mg base 2 "is_word" ["thing", "most"] (spW K T)) {t : Tok} (hc : mg "LONGEST_NAME" = some (.int 8 t)) : FnOk P w K mg base CX0 3 f fd ["thing"] (spD K T isName) := by
  refine F.ok scName spD_len (fun A outer s H vs Q E hr h => ?_)
  obtain ⟨v, d, rfl, hd, hs, hT, q⟩ := h
  exact ⟨_, pss_one (ps_ret (pcall D hr pass0 rfl (pa_cons (pv 0) (pa_cons (pe_glob (v := .int 8) rfl hc ⟨_, rfl⟩) pa_nil)))), v, rfl, v, d, 8, rfl, hd, hs, hT, q⟩
theorem scKeys : FnScope ["thing"] ["thing"] (defScope s_is_keys) := ⟨rfl, rfl, rfl, by decide +kernel, rfl, by decide +kernel, by decide +kernel⟩
theorem ok_is_keys {f c : Addr} {fd : FuncData} (F : FunC K "is_keys" s_is_keys f fd c) (D : DfP P w K mg base 2 "is_word" ["thing", "most"] (spW K T)) {t : Tok} (hc : mg "MOST_KEYS" = some (.int 4 t)) : FnOk P w K mg base CX0 3 f fd ["thing"] (spD K T isKeys) := by
  refine F.ok scKeys spD_len (fun A outer s H vs Q E hr h => ?_)
  obtain ⟨v, d, rfl, hd, hs, hT, q⟩ := h
  exact ⟨_, pss_one (ps_ret (pcall D hr pass0 rfl (pa_cons (pv 0) (pa_cons (pe_glob (v := .int 4) rfl hc ⟨_, rfl⟩) pa_nil)))), v, rfl, v, d, 4, rfl, hd, hs, hT, q⟩
def spWi (K : PySem.W.Frag) (T : List Addr) : Sp := fun vs H Q _ => ∃ v d a b, vs = [v, .int a, .int b] ∧ Da K H v d ∧ small d = true ∧ Tb T H ∧ ∀ H', Ge H H' → Q (.bl (isWithin a b d)) H'
theorem scWithin : FnScope ["thing", "least", "most"] ["thing", "least", "most"] (defScope s_is_within) := ⟨rfl, rfl, rfl, by decide +kernel, rfl, by decide +kernel, by decide +kernel⟩
theorem ok_is_within {f c : Addr} {fd : FuncData} (F : FunC K "is_within" s_is_within f fd c) (D : DfP P w K mg base 1 "is_integer" ["thing"] (spD K T isIntD)) : FnOk P w K mg base CX0 2 f fd ["thing", "least", "most"] (spWi K T) := by
  refine F.ok scWithin (fun vs H Q E ⟨_, _, _, _, h, _⟩ => by rw [h]; rfl) (fun A outer s H vs Q E hr h => ?_)
  obtain ⟨v, d, a, b, rfl, hd, hs, hT, q⟩ := h
  refine ⟨_, pss_one (ps_ret (pe_and (pcall D hr pass0 rfl (pa_cons (pv 0) pa_nil)) (pe_one (pe_chain op_le op_le (pv 1) (pv 0) (pv 2))))), ?_⟩
  refine ⟨v, rfl, v, d, rfl, hd, hs, hT, fun H' g => ⟨_, rfl, ?_⟩⟩
  cases e : isIntD d with
  | false =>
    refine iteF ?_
    have z := q H' g
    have e1 : isWithin a b d = false := by
      cases d <;> first | rfl | cases e
    rw [e1] at z
    exact z
  | true =>
    refine iteT ?_
    obtain ⟨i, rfl⟩ : ∃ i, d = .int i := by
      cases d <;> first | exact ⟨_, rfl⟩ | cases e
    cases hd
    refine ⟨_, rfl, _, rfl, _, _, rfl, rfl, _, rfl, ?_⟩
    have z : Q (.bl (decide (a ≤ i) && decide (i ≤ b))) H' := q H' g
    cases e1 : decide (a ≤ i) with
    | false =>
      rw [e1] at z
      exact iteF z
    | true =>
      rw [e1] at z
      exact iteT ⟨_, rfl, _, _, rfl, rfl, z⟩

abbrev nAsc : List Str := ["things", "low", "high"]
theorem scAsc : FnScope nAsc ["things"] (defScope s_is_ascending) := ⟨rfl, rfl, rfl, by decide +kernel, rfl, by decide +kernel, by decide +kernel⟩
/-- a tuple of texts -/
def spAsc (K : PySem.W.Frag) : Sp := fun vs H Q _ => ∃ (a : Addr) (xs : List V) (ds : List PyData), vs = [.ref a] ∧ Rd H a (.tup xs) ∧ DaAll K H xs ds ∧ (∀ d ∈ ds, ∃ s, d = PyData.str s) ∧ ∀ H', Ge H H' → Q (.bl (ascD ds)) H'
theorem ok_is_ascending {f c : Addr} {fd : FuncData} (F : FunC K "is_ascending" s_is_ascending f fd c) (B : Bn mg) : FnOk P w K mg base CX0 1 f fd ["things"] (spAsc K) := by
  refine F.ok scAsc (fun vs H Q E ⟨_, _, _, h, _⟩ => by rw [h]; rfl) (fun A outer s H vs Q E hr h => ?_)
  obtain ⟨a, xs, ds, rfl, hx, hda, hstr, q⟩ := h
  refine ⟨_, pss_cons (ps_for PassesOwn.never rfl (pi_zipA rfl B.zip (pa_cons (pv 0) (pa_cons (pe_slice sl_tupA (pv 0) (po_some pe_int) po_none) pa_nil))) (pg_tup rfl (pgs_cons (pg_name (i := 1) scAsc.nd rfl (Or.inl rfl)) (pgs_cons (pg_name (i := 2) scAsc.nd rfl (Or.inl rfl)) pgs_nil)))
      (pss_one (ps_if (pt_cmpR op_ge_str (pv 1) (pv 2) (nomark _)) (pss_one (ps_ret pe_bl)) pss_nil)))
    (pss_one (ps_ret pe_bl)), ?_⟩
  have hl := daAll_len hda
  have txt : ∀ (k : Nat) (d' : PyData), ds[k]? = some d' → ∃ x : Str, d' = PyData.str x := fun k d' hk => hstr d' (List.mem_of_getElem? hk)
  have loop : ∀ (b : Addr) (H2 : Hp) (D : Ends), Ge H H2 → SqT K H2 b (xs.drop 1) → (∀ H', Ge H2 H' → D.rt (.bl (ascD ds)) H') → (∀ σ' H', Ge H2 H' → ascD ds = true → D.nx σ' H') → ∀ (g : TG) (tb : TS), g = gTup K 2 (gCons (gName 1) (gCons (gName 2) gNil)) →
      tb = tIfS (tTest (tOp (fun (x y : V) (H : Hp) (Q : VK) => ∃ i j : Str, x = V.str i ∧ y = V.str j ∧ Q (V.bl (!decide (i.cps.toList < j.cps.toList))) H) (tVar 1) (tVar 2))) (tRet (tC (.bl false))) tNext →
      ∃ W : Nat → Nat → L2.St → Hp → Prop, (∃ m, W 0 m (L2.start nAsc [.ref a]) H2) ∧ ∀ i m σ H, W i m σ H →
        ((ItzT K a b).stop i H ∧ D.nx σ H) ∨ ((ItzT K a b).go i H ∧ ∃ N : L2.St → Hp → Prop, (∀ σ' H', N σ' H' → ∃ m', m' < m ∧ W (i + 1) m' σ' H') ∧ ∀ x H', (ItzT K a b).yld i H x H' → g x σ H' fun σ2 H2 => tb { D with nx := N, ct := N, bk := D.nx } σ2 H2) := by
    rintro b H2 D g2 hb hrt hnx g tb rfl rfl
    refine for_it (walk_zipT (xs := xs) (ys := xs.drop 1) rfl) (fun i σ' H' => Ge H2 H' ∧ (∃ l h, σ' = [some (.ref a), l, h]) ∧ ∀ k, k < i → ∀ x y, ds[k]? = some x → ds[k + 1]? = some y → ltD x y = true)
      ⟨Ge.refl _, ⟨none, none, rfl⟩, fun k hk => absurd hk (Nat.not_lt_zero k)⟩ (fun i σ' H' _ p => ⟨(g2.trans p.1).sqT (Or.inl hx), p.1.sqT hb⟩) ?_ ?_
    · rintro i x σ' H' H'' hi ⟨p1, ⟨l, h, rfl⟩, p3⟩ ⟨Tn, u, v, rfl, hTn, rfl, hu, hv⟩
      obtain ⟨du, eu, hdu⟩ := daAll_get hda hu
      obtain ⟨dv, ev, hdv⟩ := daAll_get hda (show xs[i + 1]? = some v by have hv' : (xs.drop 1)[i]? = some v := hv; rw [List.getElem?_drop, Nat.add_comm] at hv'; exact hv')
      obtain ⟨su, rfl⟩ := txt i du eu
      obtain ⟨sv, rfl⟩ := txt (i + 1) dv ev
      cases hdu
      cases hdv
      refine ⟨Tn, [.str su, .str sv], rfl, SqT.of upd_same, rfl, _, _, rfl, _, _, rfl, rfl, _, rfl, _, rfl, _, _, rfl, rfl, _, rfl, ?_⟩
      have g3 : Ge H2 (upd H' Tn (.tup [.str su, .str sv])) := p1.trans (Ge.new hTn)
      cases e2 : decide (su.cps.toList < sv.cps.toList) with
      | true =>
        refine iteF ⟨g3, ⟨_, _, rfl⟩, fun k hk x y h1 h2 => ?_⟩
        by_cases hki : k = i
        · subst hki
          rw [eu] at h1
          rw [ev] at h2
          cases h1
          cases h2
          exact e2
        · exact p3 k (by omega) x y h1 h2
      | false =>
        refine iteT ?_
        have z := hrt _ g3
        have e3 : ascD ds = false := by
          cases e4 : ascD ds with
          | false => rfl
          | true =>
            have q5 := (ascD_iff ds).mp e4 i _ _ eu ev
            have q6 : decide (su.cps.toList < sv.cps.toList) = true := q5
            rw [e2] at q6
            cases q6
        rw [e3] at z
        exact z
    · rintro σ' H' ⟨p1, _, p3⟩
      refine hnx σ' H' p1 ((ascD_iff ds).mpr fun k x y h1 h2 => p3 k ?_ x y h1 h2)
      have hk := (List.getElem?_eq_some_iff.mp h2).1
      rw [List.length_drop]
      omega
  have fin : ∀ (b : Addr) (H2 : Hp), Ge H H2 → SqT K H2 b (xs.drop 1) → _ := fun (b : Addr) (H2 : Hp) g2 hb => loop b H2 { nx := fun σ H' => Q (.bl true) H', rt := Q } g2 hb (fun H' g => q H' (g2.trans g)) (fun σ' H' g e => by
    have z := q H' (g2.trans g)
    rw [e] at z
    exact z) _ _ rfl rfl
  refine ⟨.ref a, rfl, .ref a, rfl, 1, rfl, a, xs, rfl, Or.inl hx, fun hw => ?_, fun hw p hp => ?_⟩
  · have h0 : xs = [] := by
      have z := hw.1
      rw [show (some (1 : Int)) = some (((1 : Nat) : Int)) from rfl, HT.sIx_nat] at z
      cases xs with
      | nil => rfl
      | cons x r =>
        rw [List.length_cons] at z
        omega
    refine ⟨a, a, xs, xs, rfl, Or.inr ⟨Or.inl hx, Or.inl hx, ?_⟩⟩
    exact fin a H (Ge.refl _) (by rw [h0]; rw [h0] at hx; exact Or.inl hx)
  · have g3 : Ge H (upd H p (.tup (cutV xs (some 1) none))) := Ge.new hp
    have ec : cutV xs (some 1) none = xs.drop 1 := by
      unfold cutV
      rw [show (some (1 : Int)) = some (((1 : Nat) : Int)) from rfl, HT.sIx_nat, HT.sIx_none]
      by_cases hz : 1 ≤ xs.length
      · rw [Nat.min_eq_left hz, List.take_of_length_le (by rw [List.length_drop]; omega)]
      · have h0 : xs = [] := List.eq_nil_of_length_eq_zero (by omega)
        subst h0
        rfl
    refine ⟨a, p, xs, _, rfl, Or.inr ⟨g3.sqT (Or.inl hx), SqT.of upd_same, ?_⟩⟩
    exact fin p _ g3 (by rw [← ec]; exact SqT.of upd_same)
abbrev nNames : List Str := ["thing", "name"]
theorem scNames : FnScope nNames ["thing"] (defScope s_are_names) := ⟨rfl, rfl, rfl, by decide +kernel, rfl, by decide +kernel, by decide +kernel⟩
theorem ok_are_names {f c Pt : Addr} {fd : FuncData} (F : FunC K "are_names" s_are_names f fd c) (B : Bn mg) (TB : TabB base mg c Pt) (hPt : Pt ∈ T) (D : DfP P w K mg base 3 "is_name" ["thing"] (spD K T isName)) (D2 : DfP P w K mg base 1 "is_ascending" ["things"] (spAsc K)) : FnOk P w K mg base CX0 5 f fd ["thing"] (spD K T areNames) := by
  refine F.ok scNames spD_len (fun A outer s H vs Q E hr h => ?_)
  obtain ⟨v, d, rfl, hd, hs, hT, q⟩ := h
  refine ⟨_, pss_cons (ps_if (PW.pt (pw_or (pt_not (pt_val (pe_isi (pv 0) rfl B.isinstance rfl B.tuple bt_tuple))) (pw_or1 (pt_not (pt_val (pe_allX (k := 3) (own := [("name", 1)]) hr rfl B.all TB rfl scNames.nd (gxs (N := nNames) (sc := defScope s_are_names) (by decide +kernel) rfl (by decide +kernel) rfl) (pi_tup (pv 0))
        (fun _ _ _ _ _ _ _ _ _ => pg_name (i := 1) scNames.nd rfl (Or.inl rfl)) (fun _ _ _ _ _ _ _ _ _ => pts_nil) (fun _ _ _ _ _ _ _ _ r => pcall D r pass0 rfl (pa_cons (pv 1) pa_nil)))))))) (pss_one (ps_ret pe_bl)) pss_nil)
    (pss_one (ps_ret (pcall D2 (hr.mono (by decide)) pass0 rfl (pa_cons (pv 0) pa_nil)))), ?_⟩
  refine rd_tIsi rfl hd ⟨_, rfl, ?_⟩
  cases e : isTy "tuple" d with
  | false =>
    refine iteT (iteT ?_)
    have z := q H (Ge.refl H)
    rw [areNames_no e] at z
    exact z
  | true =>
    refine iteF ?_
    obtain ⟨ds, rfl⟩ := isTy_tup e
    cases hd with
    | @tup a xs _ hx hda =>
      have hss : smallAll ds = true := (small_tup hs).2
      refine rd_allT isName rfl hx hda (hT Pt hPt) (fun _ => rfl) (fun x d' H' hm g hd' R hR => ⟨x, rfl, x, d', rfl, hd', small_mem hss hm, g.tb hT, hR⟩) fun H1 g1 => ⟨_, rfl, ?_⟩
      have q' : ∀ H', Ge H H' → Q (.bl (ds.all isName && ascD ds)) H' := q
      cases e1 : ds.all isName with
      | false =>
        refine iteT ?_
        have z := q' H1 g1
        rw [e1] at z
        exact z
      | true =>
        refine iteF ?_
        rw [e1] at q'
        exact ⟨_, rfl, a, xs, ds, rfl, g1.rd (fun ps z => by cases z) hx, g1.daAll hda, fun d hd => isName_str (List.all_eq_true.mp e1 d hd), fun H2 g2 => q' H2 (g1.trans g2)⟩
end
end Pr
set_option maxRecDepth 100000
set_option maxHeartbeats 2000000
namespace Pr
open PySem PySem.Spec PyProof.Rows L2 GxR Gx Rp Dl Pd Tx RZ

def lenT : PyData → Nat
  | .tuple ds => ds.length
  | _ => 0
def areFlags (d : PyData) : Bool := areNames d && decide (lenT d ≤ 3)
def isS (s : Str) : PyData → Bool
  | .str a => a == s
  | _ => false
/-- a text among texts -/
def memS (fs : List PyData) : PyData → Bool
  | .str s => fs.any (isS s)
  | _ => false
def areOutside (fs : List PyData) : PyData → Bool
  | .tuple ds => areNames (.tuple ds) && ds.all (memS fs)
  | _ => false
def areSettings (fs : List PyData) : PyData → Bool
  | .dict kvs => kvs.all fun p => memS fs p.1 && isBoolD p.2
  | _ => false
def areCommands (fs : List PyData) : PyData → Bool
  | .dict kvs => decide (kvs.length ≤ 8) && kvs.all fun p => isName p.1 && areSettings fs p.2
  | _ => false
def isStrD : PyData → Bool
  | .str _ => true
  | _ => false
section
variable {K : PySem.W.Frag} {H : Hp}
theorem in_strs {xs : List V} {fs : List PyData} (h : DaAll K H xs fs) (hf : ∀ f ∈ fs, ∃ s, f = PyData.str s) : xs.all flatV = true ∧ (∀ s, inV (.str s) xs = memS fs (.str s)) ∧ ∀ i, inV (.int i) xs = false := by
  induction xs generalizing fs with
  | nil =>
    cases h
    exact ⟨rfl, fun _ => rfl, fun _ => rfl⟩
  | cons x r ih =>
    cases h with
    | @cons _ _ d ds h1 h2 =>
      obtain ⟨s0, e⟩ := hf _ List.mem_cons_self
      subst e
      obtain ⟨i1, i2, i3⟩ := ih h2 fun f hm => hf f (List.mem_cons_of_mem _ hm)
      cases h1
      refine ⟨by rw [List.all_cons, i1]; rfl, fun s => ?_, fun i => ?_⟩
      · have z : inV (.str s) (V.str s0 :: r) = ((s0 == s) || inV (.str s) r) := rfl
        rw [z, i2 s]
        rfl
      · have z : inV (.int i) (V.str s0 :: r) = (false || inV (.int i) r) := rfl
        rw [z, i3 i]
        rfl
theorem names_strs {ds : List PyData} (h : areNames (.tuple ds) = true) : ∀ f ∈ ds, ∃ s, f = PyData.str s := fun f hf => by
  have h1 : (ds.all isName && ascD ds) = true := h
  rw [Bool.and_eq_true] at h1
  exact isName_str (List.all_eq_true.mp h1.1 f hf)
theorem flags_strs {ds : List PyData} (h : areFlags (.tuple ds) = true) : ∀ f ∈ ds, ∃ s, f = PyData.str s := by
  have h1 : (areNames (.tuple ds) && decide (ds.length ≤ 3)) = true := h
  rw [Bool.and_eq_true] at h1
  exact names_strs h1.1
theorem da_key (k : Key) : Da K H (kV k) (kD k) := by
  cases k with
  | inl i => exact .int i
  | inr x => exact .str x
theorem tb_lock {T : List Addr} {a : Addr} {od : Obj} {kvs : List (Key × V)} (hx : Rd H a (.dK kvs)) (h : Tb T H) : Tb T (upd H a (.frz od (.dK kvs))) := fun Pp hp => by
  obtain ⟨ps, e3, w3⟩ := h Pp hp
  exact ⟨ps, by rw [upd_ne (fun z => by rcases hx with hx | ⟨o, hx⟩ <;> (rw [z, hx] at e3; cases e3))]; exact e3, w3⟩
theorem flat_key (k : Key) : flatV (kV k) = true := by cases k <;> rfl
theorem in_key {xs : List V} {fs : List PyData} (h : DaAll K H xs fs) (hf : ∀ f ∈ fs, ∃ s, f = PyData.str s) (k : Key) : inV (kV k) xs = memS fs (kD k) := by
  obtain ⟨_, h2, h3⟩ := in_strs h hf
  cases k with
  | inl i => exact h3 i
  | inr x => exact h2 x
theorem kD_inj {k k' : Key} (h : kD k = kD k') : k = k' := by
  cases k <;> cases k' <;> cases h <;> rfl
theorem valV_nodup {kvs : List (Key × V)} {k : Key} {v : V} (hn : (kvs.map (·.1)).Nodup) (h : (k, v) ∈ kvs) : valV kvs k = some v := by
  induction kvs with
  | nil => cases h
  | cons p r ih =>
    obtain ⟨k', v'⟩ := p
    rw [List.map_cons, List.nodup_cons] at hn
    unfold valV
    rw [List.find?_cons]
    rcases List.mem_cons.mp h with e | h
    · cases e
      simp
    · have hne : k' ≠ k := fun z => hn.1 (by rw [z]; exact List.mem_map.mpr ⟨_, h, rfl⟩)
      rw [show decide ((k', v').1 = k) = false from decide_eq_false hne]
      exact ih hn.2 h
open Classical in
/-- the data at a value -/
noncomputable def datOf (K : PySem.W.Frag) (H : Hp) (v : V) : PyData := if h : ∃ d, Da K H v d then Classical.choose h else .none
theorem datOf_eq {v : V} {d : PyData} (h : Da K H v d) : datOf K H v = d := by
  have hx : ∃ d, Da K H v d := ⟨d, h⟩
  unfold datOf
  rw [dif_pos hx]
  exact da_one _ _ _ (Classical.choose_spec hx) h
/-- the dict's own test, by keys and data -/
theorem all_kv {kvs : List (Key × V)} {ds : List (PyData × PyData)} (h : DaKv K H kvs ds) (q : PyData × PyData → Bool) : (kvs.all fun x => q (kD x.1, datOf K H x.2)) = ds.all q := by
  induction kvs generalizing ds with
  | nil =>
    cases h
    rfl
  | cons x r ih =>
    cases h with
    | @cons k v _ d ds' h1 h2 => rw [List.all_cons, List.all_cons, ih h2, datOf_eq h1]
end

section
variable {P : Program} {w : World} {K : PySem.W.Frag} {mg : Str → Option Value} {base : Heap} {T : List Addr}
theorem scFlags : FnScope ["thing"] ["thing"] (defScope s_are_flags) := ⟨rfl, rfl, rfl, by decide +kernel, rfl, by decide +kernel, by decide +kernel⟩
theorem ok_are_flags {f c : Addr} {fd : FuncData} (F : FunC K "are_flags" s_are_flags f fd c) (B : Bn mg) (D : DfP P w K mg base 5 "are_names" ["thing"] (spD K T areNames)) {t : Tok} (hc : mg "MOST_FLAGS" = some (.int 3 t)) : FnOk P w K mg base CX0 6 f fd ["thing"] (spD K T areFlags) := by
  refine F.ok scFlags spD_len (fun A outer s H vs Q E hr h => ?_)
  obtain ⟨v, d, rfl, hd, hs, hT, q⟩ := h
  refine ⟨_, pss_one (ps_ret (pe_and (pcall D hr pass0 rfl (pa_cons (pv 0) pa_nil)) (pe_one (pe_cmpR op_le (pe_callB call_len_seq rfl B.len PySem.boot_len (pa_cons (pv 0) pa_nil)) (pe_glob (v := .int 3) rfl hc ⟨_, rfl⟩) (nomark _))))), ?_⟩
  refine ⟨v, rfl, v, d, rfl, hd, hs, hT, fun H' g => ⟨_, rfl, ?_⟩⟩
  have q' : Q (.bl (areNames d && decide (lenT d ≤ 3))) H' := q H' g
  cases e : areNames d with
  | false =>
    rw [e] at q'
    exact iteF q'
  | true =>
    rw [e] at q'
    refine iteT ?_
    obtain ⟨ds, rfl⟩ : ∃ ds, d = .tuple ds := by
      cases d <;> first | exact ⟨_, rfl⟩ | cases e
    cases g.da hd with
    | @tup a xs _ hx hda =>
      have hl := daAll_len hda
      refine ⟨_, rfl, a, xs, rfl, Or.inr (Or.inl hx), _, _, rfl, rfl, ?_⟩
      have ez : decide ((xs.length : Int) ≤ 3) = decide (lenT (.tuple ds) ≤ 3) := by
        have z : lenT (.tuple ds) = ds.length := rfl
        rw [z, hl]
        exact decide_eq_decide.mpr (by omega)
      have q2 : Q (.bl (decide (lenT (.tuple ds) ≤ 3))) H' := q'
      rw [← ez] at q2
      exact q2
/-- the flags, a thing -/
def spF (K : PySem.W.Frag) (T : List Addr) (f : List PyData → PyData → Bool) : Sp := fun vs H Q _ => ∃ u v fs d, vs = [u, v] ∧ Da K H u (.tuple fs) ∧ (∀ f ∈ fs, ∃ s, f = PyData.str s) ∧ Da K H v d ∧ small d = true ∧ Tb T H ∧ ∀ H', Ge H H' → Q (.bl (f fs d)) H'
theorem spF_len {f : List PyData → PyData → Bool} : ∀ vs H Q E, spF K T f vs H Q E → vs.length = 2 := fun vs H Q E ⟨_, _, _, _, h, _⟩ => by rw [h]; rfl
abbrev nOutside : List Str := ["flags", "thing", "flag"]
theorem scOutside : FnScope nOutside ["flags", "thing"] (defScope s_are_outside) := ⟨rfl, rfl, rfl, by decide +kernel, rfl, by decide +kernel, by decide +kernel⟩
theorem ok_are_outside {f c Pt : Addr} {fd : FuncData} (F : FunC K "are_outside" s_are_outside f fd c) (B : Bn mg) (TB : TabB base mg c Pt) (hPt : Pt ∈ T) (D : DfP P w K mg base 5 "are_names" ["thing"] (spD K T areNames)) : FnOk P w K mg base CX0 6 f fd ["flags", "thing"] (spF K T areOutside) := by
  refine F.ok scOutside spF_len (fun A outer s H vs Q E hr h => ?_)
  obtain ⟨u, v, fs, d, rfl, hu, hfs, hd, hs, hT, q⟩ := h
  refine ⟨_, pss_one (ps_ret (pe_and (pcall D hr pass0 rfl (pa_cons (pv 1) pa_nil)) (pe_one (pe_allX (k := 0) (own := [("flag", 2)]) (hr.mono (by decide)) rfl B.all TB rfl scOutside.nd (gxs (N := nOutside) (sc := defScope s_are_outside) (by decide +kernel) rfl (by decide +kernel) rfl) (pi_tup (pv 1))
        (fun _ _ _ _ _ _ _ _ _ => pg_name (i := 2) scOutside.nd rfl (Or.inl rfl)) (fun _ _ _ _ _ _ _ _ _ => pts_nil) (fun _ _ _ _ _ _ _ _ r => pe_cmpR (op_inK (K := K) rfl) (pv 2) (pv 0) (by rfl)))))), ?_⟩
  refine ⟨v, rfl, v, d, rfl, hd, hs, hT, fun H' g => ⟨_, rfl, ?_⟩⟩
  cases e : areNames d with
  | false =>
    refine iteF ?_
    have z := q H' g
    have e1 : areOutside fs d = false := by
      cases d <;> first | rfl | (show (areNames _ && _) = false; rw [e]; rfl)
    rw [e1] at z
    exact z
  | true =>
    refine iteT ?_
    obtain ⟨ds, rfl⟩ : ∃ ds, d = .tuple ds := by
      cases d <;> first | exact ⟨_, rfl⟩ | cases e
    have q' : ∀ H', Ge H H' → Q (.bl (areNames (.tuple ds) && ds.all (memS fs))) H' := q
    rw [e] at q'
    cases g.da hd with
    | @tup a xs _ hx hda =>
      cases g.da hu with
      | @tup b ys _ hy hya =>
        refine rd_allT (memS fs) rfl hx hda ((g.tb hT) Pt hPt) (fun _ => rfl) (fun x d' H2 hm g2 hd' R hR => ?_) fun H2 g2 => q' H2 (g.trans g2)
        obtain ⟨s', rfl⟩ := names_strs e d' hm
        cases hd'
        obtain ⟨i1, i2, _⟩ := in_strs hya hfs
        refine ⟨_, rfl, _, rfl, b, ys, rfl, Or.inr (Or.inl (g2.rd (fun ps z => by cases z) hy)), rfl, i1, ?_⟩
        have z := hR H2 (Ge.refl _)
        rw [← i2 s'] at z
        exact z
abbrev nSettings : List Str := ["flags", "thing", "flag"]
theorem scSettings : FnScope nSettings ["flags", "thing"] (defScope s_are_settings) := ⟨rfl, rfl, rfl, by decide +kernel, rfl, by decide +kernel, by decide +kernel⟩
theorem ok_are_settings {f c Pt : Addr} {fd : FuncData} (F : FunC K "are_settings" s_are_settings f fd c) (B : Bn mg) (TB : TabB base mg c Pt) (hPt : Pt ∈ T) (D : DfP P w K mg base 1 "is_boolean" ["thing"] (spD K T isBoolD)) : FnOk P w K mg base CX0 3 f fd ["flags", "thing"] (spF K T areSettings) := by
  refine F.ok scSettings spF_len (fun A outer s H vs Q E hr h => ?_)
  obtain ⟨u, v, fs, d, rfl, hu, hfs, hd, hs, hT, q⟩ := h
  refine ⟨_, pss_cons (ps_if (pt_not (pt_val (pe_isi (pv 1) rfl B.isinstance rfl B.dict bt_dict))) (pss_one (ps_ret pe_bl)) pss_nil)
    (pss_one (ps_ret (pe_lockO (pe_allX (k := 1) (own := [("flag", 2)]) hr rfl B.all TB rfl scSettings.nd (gxs (N := nSettings) (sc := defScope s_are_settings) (by decide +kernel) rfl (by decide +kernel) rfl) (pi_keys (pv 1))
        (fun _ _ _ _ _ _ _ _ _ => pg_name (i := 2) scSettings.nd rfl (Or.inl rfl)) (fun _ _ _ _ _ _ _ _ _ => pts_nil)
        (fun _ _ _ _ _ _ _ _ r => pe_and (pe_cmpR (op_inK (K := K) rfl) (pv 2) (pv 0) (by rfl)) (pe_one (pcall D r pass0 rfl (pa_cons (pe_dget (hu_of r) (pv 1) (pv 2) (fun _ _ => rfl)) pa_nil)))))))), ?_⟩
  refine rd_tIsi rfl hd ⟨_, rfl, ?_⟩
  cases e : isTy "dict" d with
  | false =>
    refine iteT ?_
    have z := q H (Ge.refl H)
    have e1 : areSettings fs d = false := by
      cases d <;> first | rfl | simp [isTy, tyName] at e
    rw [e1] at z
    exact z
  | true =>
    refine iteF ?_
    obtain ⟨ds, rfl⟩ := isTy_dct e
    cases hd with
    | @dct a kvs _ hx hn hkv =>
      cases hu with
      | @tup b ys _ hy hya =>
        have hss : smallKv ds = true := (small_dct hs).2
        have q' : ∀ H', Ge H H' → Q (.bl (ds.all fun p => memS fs p.1 && isBoolD p.2)) H' := q
        refine rd_allDO (fun k v => (fun p : PyData × PyData => memS fs p.1 && isBoolD p.2) (kD k, datOf K H v)) rfl hx (hT Pt hPt) (fun _ => rfl) (fun od k v H2 hm g2 R hR => ?_) fun H2 g2 => ?_
        · obtain ⟨i1, _, _⟩ := in_strs hya hfs
          obtain ⟨d', hmd, hd'⟩ := daKv_mem hkv hm
          have hy2 : Rd H2 b (.tup ys) := g2.rd (fun ps z => by cases z) (rd_lock hx (fun o w z => by cases z) hy)
          refine ⟨_, rfl, _, rfl, b, ys, rfl, Or.inr (Or.inl hy2), flat_key k, i1, _, rfl, ?_⟩
          have z : ∀ H4, Ge H2 H4 → R (.bl (memS fs (kD k) && isBoolD (datOf K H v))) H4 := hR
          rw [datOf_eq hd', ← in_key hya hfs k] at z
          cases e2 : inV (kV k) ys with
          | false =>
            refine iteF ?_
            have z2 := z H2 (Ge.refl _)
            rw [e2] at z2
            exact z2
          | true =>
            refine iteT ?_
            have hlk : H2 a = some (.frz od (.dK kvs)) := g2.1 a _ upd_same fun ps z => by cases z
            have hd2 : Da K H2 v d' := g2.da (da_lock hx hkv hd' (Nat.le_of_lt (size_memKv hmd)))
            refine ⟨_, rfl, _, rfl, a, v, rfl, Or.inl ⟨kvs, k, Or.inr ⟨od, hlk⟩, rfl, (valV_nodup hn hm).symm⟩, v, d', rfl, hd2, (small_memKv hss hmd).2, g2.tb (tb_lock hx hT), fun H3 g3 => ?_⟩
            have z2 := z H3 g3
            rw [e2] at z2
            exact z2
        · have z := q' H2 g2
          rw [← all_kv hkv fun p => memS fs p.1 && isBoolD p.2] at z
          exact z
abbrev nCommands : List Str := ["flags", "thing", "name"]
theorem scCommands : FnScope nCommands ["flags", "thing"] (defScope s_are_commands) := ⟨rfl, rfl, rfl, by decide +kernel, rfl, by decide +kernel, by decide +kernel⟩
theorem ok_are_commands {f c Pt : Addr} {fd : FuncData} (F : FunC K "are_commands" s_are_commands f fd c) (B : Bn mg) (TB : TabB base mg c Pt) (hPt : Pt ∈ T) (D1 : DfP P w K mg base 3 "is_name" ["thing"] (spD K T isName)) (D2 : DfP P w K mg base 3 "are_settings" ["flags", "thing"] (spF K T areSettings))
    {t : Tok} (hc : mg "MOST_COMMANDS" = some (.int 8 t)) : FnOk P w K mg base CX0 5 f fd ["flags", "thing"] (spF K T areCommands) := by
  refine F.ok scCommands spF_len (fun A outer s H vs Q E hr h => ?_)
  obtain ⟨u, v, fs, d, rfl, hu, hfs, hd, hs, hT, q⟩ := h
  refine ⟨_, pss_cons (ps_if (PW.pt (pw_or (pt_not (pt_val (pe_isi (pv 1) rfl B.isinstance rfl B.dict bt_dict))) (pw_or1 (pt_cmpR op_gt (pe_callB call_lenDr rfl B.len PySem.boot_len (pa_cons (pv 1) pa_nil)) (pe_glob (v := .int 8) rfl hc ⟨_, rfl⟩) (nomark _))))) (pss_one (ps_ret pe_bl)) pss_nil)
    (pss_one (ps_ret (pe_lockO (pe_allX (k := 3) (own := [("name", 2)]) hr rfl B.all TB rfl scCommands.nd (gxs (N := nCommands) (sc := defScope s_are_commands) (by decide +kernel) rfl (by decide +kernel) rfl) (pi_keys (pv 1))
        (fun _ _ _ _ _ _ _ _ _ => pg_name (i := 2) scCommands.nd rfl (Or.inl rfl)) (fun _ _ _ _ _ _ _ _ _ => pts_nil)
        (fun _ _ _ _ _ _ _ _ r => pe_and (pcall D1 r pass0 rfl (pa_cons (pv 2) pa_nil)) (pe_one (pcall D2 r pass0 rfl (pa_cons (pv 0) (pa_cons (pe_dget (hu_of r) (pv 1) (pv 2) (fun _ _ => rfl)) pa_nil))))))))), ?_⟩
  refine rd_tIsi rfl hd ⟨_, rfl, ?_⟩
  cases e : isTy "dict" d with
  | false =>
    refine iteT (iteT ?_)
    have z := q H (Ge.refl H)
    have e1 : areCommands fs d = false := by
      cases d <;> first | rfl | simp [isTy, tyName] at e
    rw [e1] at z
    exact z
  | true =>
    refine iteF ?_
    obtain ⟨ds, rfl⟩ := isTy_dct e
    cases hd with
    | @dct a kvs _ hx hn hkv =>
      have hl := daKv_len hkv
      have hss : smallKv ds = true := (small_dct hs).2
      have q' : ∀ H', Ge H H' → Q (.bl (decide (ds.length ≤ 8) && ds.all fun p => isName p.1 && areSettings fs p.2)) H' := q
      refine ⟨_, rfl, a, kvs, rfl, hx, _, _, rfl, rfl, _, rfl, ?_⟩
      cases e1 : decide ((8 : Int) < (kvs.length : Int)) with
      | true =>
        refine iteT ?_
        have z := q' H (Ge.refl H)
        have e2 : decide (ds.length ≤ 8) = false := by
          have := of_decide_eq_true e1
          exact decide_eq_false (by omega)
        rw [e2] at z
        exact z
      | false =>
        refine iteF ?_
        have e2 : decide (ds.length ≤ 8) = true := by
          have := of_decide_eq_false e1
          exact decide_eq_true (by omega)
        rw [e2] at q'
        refine rd_allDO (fun k v => (fun p : PyData × PyData => isName p.1 && areSettings fs p.2) (kD k, datOf K H v)) rfl hx (hT Pt hPt) (fun _ => rfl) (fun od k v H2 hm g2 R hR => ?_) fun H2 g2 => ?_
        · obtain ⟨d', hmd, hd'⟩ := daKv_mem hkv hm
          have z : ∀ H4, Ge H2 H4 → R (.bl (isName (kD k) && areSettings fs (datOf K H v))) H4 := hR
          rw [datOf_eq hd'] at z
          have hT2 : Tb T H2 := g2.tb (tb_lock hx hT)
          obtain ⟨sm1, sm2⟩ := small_memKv hss hmd
          refine ⟨_, rfl, _, kD k, rfl, da_key k, sm1, hT2, fun H3 g3 => ⟨_, rfl, ?_⟩⟩
          cases e3 : isName (kD k) with
          | false =>
            refine iteF ?_
            have z2 := z H3 g3
            rw [e3] at z2
            exact z2
          | true =>
            refine iteT ?_
            rw [e3] at z
            have g23 := g2.trans g3
            have hlk : H3 a = some (.frz od (.dK kvs)) := g23.1 a _ upd_same fun ps z => by cases z
            have hd2 : Da K H3 v d' := g23.da (da_lock hx hkv hd' (Nat.le_of_lt (size_memKv hmd)))
            exact ⟨_, rfl, _, rfl, _, rfl, a, v, rfl, Or.inl ⟨kvs, k, Or.inr ⟨od, hlk⟩, rfl, (valV_nodup hn hm).symm⟩, u, v, fs, d', rfl, g23.da (da_lockA hx hu), hfs, hd2, sm2, g3.tb hT2, fun H4 g4 => z H4 (g3.trans g4)⟩
        · have z := q' H2 g2
          rw [← all_kv hkv fun p => isName p.1 && areSettings fs p.2] at z
          exact z
end
end Pr
set_option maxRecDepth 100000
set_option maxHeartbeats 2000000
namespace Pr
open PySem PySem.Spec PyProof.Rows L2 GxR Gx Rp Dl Pd Tx RZ

/-- a text among a dict's keys -/
def memC (cs : List (PyData × PyData)) : PyData → Bool
  | .str s => cs.any fun p => isS s p.1
  | _ => false
def cmdOk (cs : List (PyData × PyData)) : PyData → Bool
  | .none => true
  | m => isName m && memC cs m
def isBinding (fs : List PyData) (cs : List (PyData × PyData)) : PyData → Bool
  | .tuple [k, c, m] => isKeys k && areSettings fs c && cmdOk cs m
  | _ => false
def isTup : PyData → Bool
  | .tuple _ => true
  | _ => false
def itemsT : PyData → List PyData
  | .tuple ds => ds
  | _ => []
def areLayers (fs : List PyData) (cs : List (PyData × PyData)) : PyData → Bool
  | .tuple ls => decide (1 ≤ ls.length) && decide (ls.length ≤ 4) && ls.all isTup && decide ((ls.map lenT).sum ≤ 16) && ls.all fun l => (itemsT l).all (isBinding fs cs)
  | _ => false
def itemsD : PyData → List (PyData × PyData)
  | .dict ds => ds
  | _ => []
def isMap : PyData → Bool
  | .tuple [f, o, c, l, wt] => areFlags f && areOutside (itemsT f) o && areCommands (itemsT f) c && areLayers (itemsT f) (itemsD c) l && isWithin 1 1000 wt
  | _ => false
def fitsState (n : Nat) : PyData → Bool
  | .tuple ds => decide (ds.length = n) && ds.all isBoolD
  | _ => false
section
variable {K : PySem.W.Frag} {H : Hp}
theorem in_keys {kvs : List (Key × V)} {ds : List (PyData × PyData)} (h : DaKv K H kvs ds) (s : Str) : (valV kvs (Sum.inr s)).isSome = memC ds (.str s) := by
  induction kvs generalizing ds with
  | nil =>
    cases h
    rfl
  | cons p r ih =>
    cases h with
    | @cons k v _ d ds' h1 h2 =>
      have e : memC ((kD k, d) :: ds') (.str s) = (isS s (kD k) || memC ds' (.str s)) := rfl
      rw [e, ← ih h2]
      unfold valV
      rw [List.find?_cons]
      cases k with
      | inl i =>
        rw [show decide (((Sum.inl i : Key), v).1 = Sum.inr s) = false from decide_eq_false (fun z => by cases z)]
        rfl
      | inr x =>
        by_cases hx : x = s
        · subst hx
          simp [isS, kD]
        · rw [show decide (((Sum.inr x : Key), v).1 = Sum.inr s) = false from decide_eq_false (fun z => hx (by cases z; rfl))]
          have z : isS s (kD (Sum.inr x)) = false := by
            show (x == s) = false
            simpa using hx
          rw [z]
          rfl
end
section
variable {P : Program} {w : World} {K : PySem.W.Frag} {mg : Str → Option Value} {base : Heap} {T : List Addr}
/-- the flags, the commands, a thing -/
def spB (K : PySem.W.Frag) (T : List Addr) (f : List PyData → List (PyData × PyData) → PyData → Bool) : Sp := fun vs H Q _ => ∃ u c v fs cs d, vs = [u, c, v] ∧ Da K H u (.tuple fs) ∧ (∀ f ∈ fs, ∃ s, f = PyData.str s) ∧ Da K H c (.dict cs) ∧ Da K H v d ∧ small d = true ∧ Tb T H ∧ ∀ H', Ge H H' → Q (.bl (f fs cs d)) H'
theorem spB_len {f : List PyData → List (PyData × PyData) → PyData → Bool} : ∀ vs H Q E, spB K T f vs H Q E → vs.length = 3 := fun vs H Q E ⟨_, _, _, _, _, _, h, _⟩ => by rw [h]; rfl
abbrev nBinding : List Str := ["flags", "commands", "thing", "keys", "condition", "command"]
theorem scBinding : FnScope nBinding ["flags", "commands", "thing"] (defScope s_is_binding) := ⟨rfl, rfl, rfl, by decide +kernel, rfl, by decide +kernel, by decide +kernel⟩
theorem ok_is_binding {f c : Addr} {fd : FuncData} (F : FunC K "is_binding" s_is_binding f fd c) (B : Bn mg) (D1 : DfP P w K mg base 3 "is_keys" ["thing"] (spD K T isKeys)) (D2 : DfP P w K mg base 3 "are_settings" ["flags", "thing"] (spF K T areSettings)) (D3 : DfP P w K mg base 3 "is_name" ["thing"] (spD K T isName)) :
    FnOk P w K mg base CX0 4 f fd ["flags", "commands", "thing"] (spB K T isBinding) := by
  refine F.ok scBinding spB_len (fun A outer s H vs Q E hr h => ?_)
  obtain ⟨u, c, v, fs, cs, d, rfl, hu, hfs, hcm, hd, hs, hT, q⟩ := h
  refine ⟨_, pss_cons (ps_if (PW.pt (pw_or (pt_not (pt_val (pe_isi (pv 2) rfl B.isinstance rfl B.tuple bt_tuple))) (pw_or1 (pt_cmpR op_ne (pe_callB call_len_seq rfl B.len PySem.boot_len (pa_cons (pv 2) pa_nil)) pe_int (nomark _))))) (pss_one (ps_ret pe_bl)) pss_nil)
    (pss_cons (ps_asg (pv 2) (pg_tup rfl (pgs_cons (pg_name (i := 3) scBinding.nd rfl (Or.inl rfl)) (pgs_cons (pg_name (i := 4) scBinding.nd rfl (Or.inl rfl)) (pgs_cons (pg_name (i := 5) scBinding.nd rfl (Or.inl rfl)) pgs_nil)))))
    (pss_cons (ps_if (PW.pt (pw_or (pt_not (pt_val (pcall D1 hr pass0 rfl (pa_cons (pv 3) pa_nil)))) (pw_or1 (pt_not (pt_val (pcall D2 hr pass0 rfl (pa_cons (pv 0) (pa_cons (pv 4) pa_nil)))))))) (pss_one (ps_ret pe_bl)) pss_nil)
    (pss_one (ps_ret (pe_or (pe_cmp (pc_isN (pv 5)) rfl) (pe_one (pe_and (pcall D3 hr pass0 rfl (pa_cons (pv 5) pa_nil)) (pe_one (pe_cmp (pc_din (hu_of hr) (pv 5) (pv 1)) rfl))))))))), ?_⟩
  refine rd_tIsi rfl hd ⟨_, rfl, ?_⟩
  cases e : isTy "tuple" d with
  | false =>
    refine iteT (iteT ?_)
    have z := q H (Ge.refl H)
    have e1 : isBinding fs cs d = false := by
      cases d <;> first | rfl | simp [isTy, tyName] at e
    rw [e1] at z
    exact z
  | true =>
    refine iteF ?_
    obtain ⟨ds, rfl⟩ := isTy_tup e
    cases hd with
    | @tup a xs _ hx hda =>
      have hl := daAll_len hda
      have hss : smallAll ds = true := (small_tup hs).2
      refine ⟨_, rfl, a, xs, rfl, Or.inr (Or.inl hx), rfl, _, rfl, ?_⟩
      by_cases h3 : xs.length = 3
      · have e3 : (!decide (V.int (xs.length : Int) = V.int 3)) = false := by rw [h3]; rfl
        rw [e3]
        refine iteF ?_
        -- three items
        obtain ⟨x1, x2, x3, rfl⟩ : ∃ x1 x2 x3, xs = [x1, x2, x3] := by
          match xs, h3 with
          | [x1, x2, x3], _ => exact ⟨x1, x2, x3, rfl⟩
        cases hda with
        | @cons _ _ dk _ h1 t1 =>
          cases t1 with
          | @cons _ _ dc _ h2 t2 =>
            cases t2 with
            | @cons _ _ dm _ h3' t3 =>
              cases t3
              refine ⟨.ref a, rfl, a, _, rfl, Or.inl hx, rfl, _, _, rfl, _, _, rfl, _, _, rfl, rfl, ?_⟩
              have sm1 := small_mem hss (d := dk) (by simp)
              have sm2 := small_mem hss (d := dc) (by simp)
              have sm3 := small_mem hss (d := dm) (by simp)
              have q' : ∀ H', Ge H H' → Q (.bl (isKeys dk && areSettings fs dc && cmdOk cs dm)) H' := q
              refine ⟨_, rfl, _, dk, rfl, h1, sm1, hT, fun H1 g1 => ⟨_, rfl, ?_⟩⟩
              cases e4 : isKeys dk with
              | false =>
                refine iteT (iteT ?_)
                have z := q' H1 g1
                rw [e4] at z
                exact z
              | true =>
                refine iteF ?_
                refine ⟨_, rfl, _, rfl, u, _, fs, dc, rfl, g1.da hu, hfs, g1.da h2, sm2, g1.tb hT, fun H2 g2 => ⟨_, rfl, ?_⟩⟩
                have g12 := g1.trans g2
                cases e5 : areSettings fs dc with
                | false =>
                  refine iteT ?_
                  have z := q' H2 g12
                  rw [e4, e5] at z
                  exact z
                | true =>
                  refine iteF ?_
                  rw [e4, e5] at q'
                  refine ⟨_, rfl, _, rfl, ?_⟩
                  by_cases hn : x3 = V.non
                  · subst hn
                    cases h3'
                    exact iteT (q' H2 g12)
                  · rw [decide_eq_false hn]
                    refine iteF ?_
                    have q2 : ∀ H', Ge H H' → Q (.bl (isName dm && memC cs dm)) H' := fun H' g => by
                      have z := q' H' g
                      cases h3' <;> first | exact absurd rfl hn | exact z
                    refine ⟨_, rfl, _, dm, rfl, g12.da h3', sm3, g12.tb hT, fun H3 g3 => ⟨_, rfl, ?_⟩⟩
                    have g123 := g12.trans g3
                    have z := q2 H3 g123
                    cases e6 : isName dm with
                    | false =>
                      rw [e6] at z
                      exact iteF z
                    | true =>
                      refine iteT ?_
                      obtain ⟨sm, rfl⟩ := isName_str e6
                      cases h3'
                      cases g123.da hcm with
                      | @dct b kvs _ hb hnb hkb =>
                        refine ⟨_, rfl, _, rfl, b, _, rfl, Or.inl ⟨kvs, Sum.inr sm, hb, rfl, rfl⟩, ?_⟩
                        rw [in_keys hkb sm]
                        rw [e6] at z
                        exact z
      · have e3 : (!decide (V.int (xs.length : Int) = V.int 3)) = true := by
          rw [decide_eq_false (fun z => h3 (by
            have z' : (xs.length : Int) = 3 := V.int.inj z
            omega))]
          rfl
        rw [e3]
        refine iteT ?_
        have z := q H (Ge.refl H)
        have e1 : isBinding fs cs (.tuple ds) = false := by
          match ds, hl with
          | [], _ => rfl
          | [_], _ => rfl
          | [_, _], _ => rfl
          | [_, _, _], hl => exact absurd hl.symm h3
          | _ :: _ :: _ :: _ :: _, _ => rfl
        rw [e1] at z
        exact z
end
end Pr
set_option maxRecDepth 100000
set_option maxHeartbeats 2000000
namespace Pr
open PySem PySem.Spec PyProof.Rows L2 GxR Gx Rp Dl Pd Tx RZ
section
variable {P : Program} {w : World} {K : PySem.W.Frag} {mg : Str → Option Value} {base : Heap} {T : List Addr}
theorem isTup_ty (d : PyData) : isTy "tuple" d = isTup d := by cases d <;> rfl
abbrev nLayers : List Str := ["flags", "commands", "thing", "layer", "binding"]
theorem scLayers : FnScope nLayers ["flags", "commands", "thing"] (defScope s_are_layers) := ⟨rfl, rfl, rfl, by decide +kernel, rfl, by decide +kernel, by decide +kernel⟩
theorem ok_are_layers {f c Pt : Addr} {fd : FuncData} (F : FunC K "are_layers" s_are_layers f fd c) (B : Bn mg) (TB : TabB base mg c Pt) (hPt : Pt ∈ T) (D : DfP P w K mg base 4 "is_binding" ["flags", "commands", "thing"] (spB K T isBinding)) {t4 t16 : Tok} (hc4 : mg "MOST_LAYERS" = some (.int 4 t4)) (hc16 : mg "MOST_BINDINGS" = some (.int 16 t16)) :
    FnOk P w K mg base CX0 6 f fd ["flags", "commands", "thing"] (spB K T areLayers) := by
  refine F.ok scLayers spB_len (fun A outer s H vs Q E hr h => ?_)
  obtain ⟨u, c0, v, fs, cs, d, rfl, hu, hfs, hcm, hd, hs, hT, q⟩ := h
  refine ⟨_, pss_cons (ps_if (PW.pt (pw_or (pt_not (pt_val (pe_isi (pv 2) rfl B.isinstance rfl B.tuple bt_tuple))) (pw_or1 (pt_not (pt_chain op_le op_le pe_int (pe_callB call_len_seq rfl B.len PySem.boot_len (pa_cons (pv 2) pa_nil)) (pe_glob (v := .int 4) rfl hc4 ⟨_, rfl⟩)))))) (pss_one (ps_ret pe_bl)) pss_nil)
    (pss_cons (ps_if (pt_not (pt_val (pe_allX (k := 0) (own := [("layer", 3)]) (hr.mono (by decide)) rfl B.all TB rfl scLayers.nd (gxs (N := nLayers) (sc := defScope s_are_layers) (by decide +kernel) rfl (by decide +kernel) rfl) (pi_tup (pv 2))
        (fun _ _ _ _ _ _ _ _ _ => pg_name (i := 3) scLayers.nd rfl (Or.inl rfl)) (fun _ _ _ _ _ _ _ _ _ => pts_nil) (fun _ _ _ _ _ _ _ _ r => pe_isiK (K := K) rfl (pv 3) rfl B.isinstance rfl B.tuple bt_tuple)))) (pss_one (ps_ret pe_bl)) pss_nil)
    (pss_cons (ps_if (pt_cmpR op_gt (pe_sumX (k := 0) (own := [("layer", 3)]) (hr.mono (by decide)) rfl B.sum TB rfl scLayers.nd (gxs (N := nLayers) (sc := defScope s_are_layers) (by decide +kernel) rfl (by decide +kernel) rfl) (pi_tup (pv 2))
        (fun _ _ _ _ _ _ _ _ _ => pg_name (i := 3) scLayers.nd rfl (Or.inl rfl)) (fun _ _ _ _ _ _ _ _ _ => pts_nil) (fun _ _ _ _ _ _ _ _ r => pe_callB (call_lenK (K := K) rfl) rfl B.len PySem.boot_len (pa_cons (pv 3) pa_nil))) (pe_glob (v := .int 16) rfl hc16 ⟨_, rfl⟩) (nomark _)) (pss_one (ps_ret pe_bl)) pss_nil)
    (pss_cons (ps_for PassesOwn.never rfl (pi_tup (pv 2)) (pg_name (i := 3) scLayers.nd rfl (Or.inl rfl))
      (pss_one (ps_if (pt_not (pt_val (pe_allX (k := 4) (own := [("binding", 4)]) hr rfl B.all TB rfl scLayers.nd (gxs (N := nLayers) (sc := defScope s_are_layers) (by decide +kernel) rfl (by decide +kernel) rfl) (pi_tup (pv 3))
        (fun _ _ _ _ _ _ _ _ _ => pg_name (i := 4) scLayers.nd rfl (Or.inl rfl)) (fun _ _ _ _ _ _ _ _ _ => pts_nil) (fun _ _ _ _ _ _ _ _ r => pcall D r pass0 rfl (pa_cons (pv 0) (pa_cons (pv 1) (pa_cons (pv 4) pa_nil))))))) (pss_one (ps_ret pe_bl)) pss_nil)))
    (pss_one (ps_ret pe_bl))))), ?_⟩
  refine rd_tIsi rfl hd ⟨_, rfl, ?_⟩
  cases e : isTy "tuple" d with
  | false =>
    refine iteT (iteT ?_)
    have z := q H (Ge.refl H)
    have e1 : areLayers fs cs d = false := by
      cases d <;> first | rfl | simp [isTy, tyName] at e
    rw [e1] at z
    exact z
  | true =>
    refine iteF ?_
    obtain ⟨ls, rfl⟩ := isTy_tup e
    have hd0 := hd
    cases hd with
    | @tup a xs _ hx hda =>
      have hl := daAll_len hda
      have hss : smallAll ls = true := (small_tup hs).2
      have q' : ∀ H', Ge H H' → Q (.bl (decide (1 ≤ ls.length) && decide (ls.length ≤ 4) && ls.all isTup && decide ((ls.map lenT).sum ≤ 16) && ls.all fun l => (itemsT l).all (isBinding fs cs))) H' := q
      have ea : decide ((1 : Int) ≤ (xs.length : Int)) = decide (1 ≤ ls.length) := decide_eq_decide.mpr (by omega)
      have eb : decide ((xs.length : Int) ≤ 4) = decide (ls.length ≤ 4) := decide_eq_decide.mpr (by omega)
      refine ⟨_, rfl, a, xs, rfl, Or.inr (Or.inl hx), _, _, rfl, rfl, _, rfl, ?_⟩
      rw [ea]
      cases e1 : decide (1 ≤ ls.length) with
      | false =>
        refine iteF ⟨_, rfl, iteT ?_⟩
        have z := q' H (Ge.refl H)
        rw [e1] at z
        exact z
      | true =>
        refine iteT ⟨_, _, rfl, rfl, _, rfl, ?_⟩
        rw [eb]
        rw [e1] at q'
        cases e2 : decide (ls.length ≤ 4) with
        | false =>
          refine iteT ?_
          have z := q' H (Ge.refl H)
          rw [e2] at z
          exact z
        | true =>
          refine iteF ?_
          rw [e2] at q'
          have hlen : xs.length ≤ 4 := by
            have := of_decide_eq_true e2
            omega
          refine rd_allT isTup rfl hx hda (hT Pt hPt) (fun _ => rfl) (fun x d' H' hm g hd' R hR => rd_tIsi rfl hd' (by rw [isTup_ty]; exact hR H' (Ge.refl _))) fun H1 g1 => ⟨_, rfl, ?_⟩
          cases e3 : ls.all isTup with
          | false =>
            refine iteT ?_
            have z := q' H1 g1
            rw [e3] at z
            exact z
          | true =>
            refine iteF ?_
            rw [e3] at q'
            have tup : ∀ l ∈ ls, ∃ ds, l = PyData.tuple ds := fun l hm => by
              have z := List.all_eq_true.mp e3 l hm
              cases l <;> first | exact ⟨_, rfl⟩ | cases z
            have len5 : ∀ l ∈ ls, lenT l ≤ 100000 := fun l hm => by
              obtain ⟨ds, rfl⟩ := tup l hm
              exact (small_tup (small_mem hss hm)).1
            have em : ∀ l ∈ ls, min (lenT l) (2 ^ 24) = lenT l := fun l hm => Nat.min_eq_left (by have := len5 l hm; omega)
            have es : (ls.map fun l => min (lenT l) (2 ^ 24)) = ls.map lenT := List.map_congr_left em
            refine rd_sumT (fun l => min (lenT l) (2 ^ 24)) (fun l => Nat.min_le_right _ _) rfl (g1.rd (fun ps z => by cases z) hx) (by omega) (g1.daAll hda) ((g1.tb hT) Pt hPt) (fun _ => rfl) (fun x l H' hm g hd' R hR => ?_) fun H2 g2 => ?_
            · have z := hR H' (Ge.refl _)
              rw [em l hm] at z
              obtain ⟨ds, rfl⟩ := tup l hm
              cases hd' with
              | @tup b ys _ hy hya =>
                have el := daAll_len hya
                have ez : ((lenT (PyData.tuple ds) : Nat) : Int) = (ys.length : Int) := by
                  show ((ds.length : Nat) : Int) = _
                  rw [el]
                rw [ez] at z
                exact ⟨_, rfl, b, ys, rfl, Or.inr (Or.inl hy), z⟩
            · have g12 := g1.trans g2
              rw [es]
              refine ⟨_, _, rfl, rfl, _, rfl, ?_⟩
              have ec : decide ((16 : Int) < (((ls.map lenT).sum : Nat) : Int)) = !decide ((ls.map lenT).sum ≤ 16) := by
                by_cases hz : (ls.map lenT).sum ≤ 16
                · rw [decide_eq_true hz, decide_eq_false (by omega)]
                  rfl
                · rw [decide_eq_false hz, decide_eq_true (by omega)]
                  rfl
              rw [ec]
              cases e4 : decide ((ls.map lenT).sum ≤ 16) with
              | false =>
                refine iteT ?_
                have z := q' H2 g12
                rw [e4] at z
                exact z
              | true =>
                refine iteF ?_
                rw [e4] at q'
                have q2 : ∀ H', Ge H H' → Q (.bl (ls.all fun l => (itemsT l).all (isBinding fs cs))) H' := q'
                refine ⟨_, rfl, a, rfl, ⟨xs, Or.inl (g12.rd (fun ps z => by cases z) hx)⟩, for_tup (K := K) (a := a) (xs := xs) (fun i σ H' => Ge H H' ∧ (∃ l b, σ = [some u, some c0, some (.ref a), l, b]) ∧ ∀ k l, k < i → ls[k]? = some l → (itemsT l).all (isBinding fs cs) = true)
                  ⟨g12, ⟨_, _, rfl⟩, fun k l hk => absurd hk (Nat.not_lt_zero k)⟩ (fun i σ H' _ p => Or.inl (p.1.rd (fun ps z => by cases z) hx)) ?_ ?_⟩
                · rintro i x σ H' hi ⟨g, ⟨l0, b0, rfl⟩, hp⟩
                  obtain ⟨l, el, hdl⟩ := daAll_get hda hi
                  have hml := List.mem_of_getElem? el
                  obtain ⟨ds, rfl⟩ := tup l hml
                  have hdl' := g.da hdl
                  cases hdl' with
                  | @tup b ys _ hy hya =>
                    refine rd_allT (isBinding fs cs) rfl hy hya ((g.tb hT) Pt hPt) (fun _ => rfl) (fun x d' H3 hm g3 hd' R hR => ?_) fun H3 g3 => ⟨_, rfl, ?_⟩
                    · have gg := g.trans g3
                      exact ⟨_, rfl, _, rfl, _, rfl, u, c0, x, fs, cs, d', rfl, gg.da hu, hfs, gg.da hcm, hd', small_mem (small_tup (small_mem hss hml)).2 hm, gg.tb hT, hR⟩
                    · have gg := g.trans g3
                      cases e5 : ds.all (isBinding fs cs) with
                      | false =>
                        refine iteT ?_
                        have z := q2 H3 gg
                        have e6 : (ls.all fun l => (itemsT l).all (isBinding fs cs)) = false := by
                          rw [List.all_eq_false]
                          exact ⟨_, hml, by show ¬ (ds.all (isBinding fs cs) = true); rw [e5]; exact Bool.false_ne_true⟩
                        rw [e6] at z
                        exact z
                      | true =>
                        refine iteF ⟨gg, ⟨_, _, rfl⟩, fun k l hk hl' => ?_⟩
                        by_cases hki : k = i
                        · subst hki
                          rw [el] at hl'
                          cases hl'
                          exact e5
                        · exact hp k l (by omega) hl'
                · rintro σ H' ⟨g, _, hp⟩
                  have z := q2 H' g
                  have e6 : (ls.all fun l => (itemsT l).all (isBinding fs cs)) = true := List.all_eq_true.mpr fun l hm => by
                    obtain ⟨k, hk, ek⟩ := List.getElem_of_mem hm
                    exact hp k l (by omega) (by rw [List.getElem?_eq_getElem hk, ek])
                  rw [e6] at z
                  exact z
end
end Pr
set_option maxRecDepth 100000
set_option maxHeartbeats 2000000
namespace Pr
open PySem PySem.Spec PyProof.Rows L2 GxR Gx Rp Dl Pd Tx RZ
section
variable {P : Program} {w : World} {K : PySem.W.Frag} {mg : Str → Option Value} {base : Heap} {T : List Addr}
abbrev nMap : List Str := ["thing", "flags", "outside", "commands", "layers", "wait"]
theorem scMap : FnScope nMap ["thing"] (defScope s_is_map) := ⟨rfl, rfl, rfl, by decide +kernel, rfl, by decide +kernel, by decide +kernel⟩
theorem ok_is_map {f c : Addr} {fd : FuncData} (F : FunC K "is_map" s_is_map f fd c) (B : Bn mg) (D1 : DfP P w K mg base 6 "are_flags" ["thing"] (spD K T areFlags)) (D2 : DfP P w K mg base 6 "are_outside" ["flags", "thing"] (spF K T areOutside)) (D3 : DfP P w K mg base 5 "are_commands" ["flags", "thing"] (spF K T areCommands))
    (D4 : DfP P w K mg base 6 "are_layers" ["flags", "commands", "thing"] (spB K T areLayers)) (D5 : DfP P w K mg base 2 "is_within" ["thing", "least", "most"] (spWi K T)) {t : Tok} (hc : mg "LONGEST_WAIT" = some (.int 1000 t)) : FnOk P w K mg base CX0 7 f fd ["thing"] (spD K T isMap) := by
  refine F.ok scMap spD_len (fun A outer s H vs Q E hr h => ?_)
  obtain ⟨v, d, rfl, hd, hs, hT, q⟩ := h
  refine ⟨_, pss_cons (ps_if (PW.pt (pw_or (pt_not (pt_val (pe_isi (pv 0) rfl B.isinstance rfl B.tuple bt_tuple))) (pw_or1 (pt_cmpR op_ne (pe_callB call_len_seq rfl B.len PySem.boot_len (pa_cons (pv 0) pa_nil)) pe_int (nomark _))))) (pss_one (ps_ret pe_bl)) pss_nil)
    (pss_cons (ps_asg (pv 0) (pg_tup rfl (pgs_cons (pg_name (i := 1) scMap.nd rfl (Or.inl rfl)) (pgs_cons (pg_name (i := 2) scMap.nd rfl (Or.inl rfl)) (pgs_cons (pg_name (i := 3) scMap.nd rfl (Or.inl rfl)) (pgs_cons (pg_name (i := 4) scMap.nd rfl (Or.inl rfl)) (pgs_cons (pg_name (i := 5) scMap.nd rfl (Or.inl rfl)) pgs_nil)))))))
    (pss_one (ps_ret (pe_and (pcall D1 hr pass0 rfl (pa_cons (pv 1) pa_nil)) (pe_and (pcall D2 hr pass0 rfl (pa_cons (pv 1) (pa_cons (pv 2) pa_nil))) (pe_and (pcall D3 (hr.mono (by decide)) pass0 rfl (pa_cons (pv 1) (pa_cons (pv 3) pa_nil)))
      (pe_and (pcall D4 hr pass0 rfl (pa_cons (pv 1) (pa_cons (pv 3) (pa_cons (pv 4) pa_nil)))) (pe_one (pcall D5 (hr.mono (by decide)) pass0 rfl (pa_cons (pv 5) (pa_cons pe_int (pa_cons (pe_glob (v := .int 1000) rfl hc ⟨_, rfl⟩) pa_nil)))))))))))), ?_⟩
  refine rd_tIsi rfl hd ⟨_, rfl, ?_⟩
  cases e : isTy "tuple" d with
  | false =>
    refine iteT (iteT ?_)
    have z := q H (Ge.refl H)
    have e1 : isMap d = false := by
      cases d <;> first | rfl | simp [isTy, tyName] at e
    rw [e1] at z
    exact z
  | true =>
    refine iteF ?_
    obtain ⟨ds, rfl⟩ := isTy_tup e
    cases hd with
    | @tup a xs _ hx hda =>
      have hl := daAll_len hda
      have hss : smallAll ds = true := (small_tup hs).2
      refine ⟨_, rfl, a, xs, rfl, Or.inr (Or.inl hx), rfl, _, rfl, ?_⟩
      by_cases h5 : xs.length = 5
      · have e3 : (!decide (V.int (xs.length : Int) = V.int 5)) = false := by rw [h5]; rfl
        rw [e3]
        refine iteF ?_
        obtain ⟨x1, x2, x3, x4, x5, rfl⟩ : ∃ x1 x2 x3 x4 x5, xs = [x1, x2, x3, x4, x5] := by
          match xs, h5 with
          | [x1, x2, x3, x4, x5], _ => exact ⟨x1, x2, x3, x4, x5, rfl⟩
        cases hda with
        | @cons _ _ df _ h1 t1 =>
          cases t1 with
          | @cons _ _ dO _ h2 t2 =>
            cases t2 with
            | @cons _ _ dc _ h3 t3 =>
              cases t3 with
              | @cons _ _ dl _ h4 t4 =>
                cases t4 with
                | @cons _ _ dw _ h5' t5 =>
                  cases t5
                  refine ⟨.ref a, rfl, a, _, rfl, Or.inl hx, rfl, _, _, rfl, _, _, rfl, _, _, rfl, _, _, rfl, _, _, rfl, rfl, ?_⟩
                  have m1 := small_mem hss (d := df) (by simp)
                  have m2 := small_mem hss (d := dO) (by simp)
                  have m3 := small_mem hss (d := dc) (by simp)
                  have m4 := small_mem hss (d := dl) (by simp)
                  have m5 := small_mem hss (d := dw) (by simp)
                  have q' : ∀ H', Ge H H' → Q (.bl (areFlags df && areOutside (itemsT df) dO && areCommands (itemsT df) dc && areLayers (itemsT df) (itemsD dc) dl && isWithin 1 1000 dw)) H' := q
                  refine ⟨_, rfl, _, df, rfl, h1, m1, hT, fun H1 g1 => ⟨_, rfl, ?_⟩⟩
                  cases e1 : areFlags df with
                  | false =>
                    have z := q' H1 g1
                    rw [e1] at z
                    exact iteF z
                  | true =>
                    refine iteT ?_
                    rw [e1] at q'
                    obtain ⟨fs, rfl⟩ : ∃ fs, df = .tuple fs := by
                      cases df <;> first | exact ⟨_, rfl⟩ | cases e1
                    have hfs := flags_strs e1
                    have q2 : ∀ H', Ge H H' → Q (.bl (areOutside fs dO && areCommands fs dc && areLayers fs (itemsD dc) dl && isWithin 1 1000 dw)) H' := q'
                    refine ⟨_, rfl, _, rfl, _, _, fs, dO, rfl, g1.da h1, hfs, g1.da h2, m2, g1.tb hT, fun H2 g2 => ⟨_, rfl, ?_⟩⟩
                    have g12 := g1.trans g2
                    cases e2 : areOutside fs dO with
                    | false =>
                      have z := q2 H2 g12
                      rw [e2] at z
                      exact iteF z
                    | true =>
                      refine iteT ?_
                      rw [e2] at q2
                      refine ⟨_, rfl, _, rfl, _, _, fs, dc, rfl, g12.da h1, hfs, g12.da h3, m3, g12.tb hT, fun H3 g3 => ⟨_, rfl, ?_⟩⟩
                      have g123 := g12.trans g3
                      cases e3 : areCommands fs dc with
                      | false =>
                        have z := q2 H3 g123
                        rw [e3] at z
                        exact iteF z
                      | true =>
                        refine iteT ?_
                        rw [e3] at q2
                        obtain ⟨cs, rfl⟩ : ∃ cs, dc = .dict cs := by
                          cases dc <;> first | exact ⟨_, rfl⟩ | cases e3
                        have q3 : ∀ H', Ge H H' → Q (.bl (areLayers fs cs dl && isWithin 1 1000 dw)) H' := q2
                        refine ⟨_, rfl, _, rfl, _, rfl, _, _, _, fs, cs, dl, rfl, g123.da h1, hfs, g123.da h3, g123.da h4, m4, g123.tb hT, fun H4 g4 => ⟨_, rfl, ?_⟩⟩
                        have g4' := g123.trans g4
                        cases e4 : areLayers fs cs dl with
                        | false =>
                          have z := q3 H4 g4'
                          rw [e4] at z
                          exact iteF z
                        | true =>
                          refine iteT ?_
                          rw [e4] at q3
                          exact ⟨_, rfl, _, dw, 1, 1000, rfl, g4'.da h5', m5, g4'.tb hT, fun H5 g5 => q3 H5 (g4'.trans g5)⟩
      · have e3 : (!decide (V.int (xs.length : Int) = V.int 5)) = true := by
          rw [decide_eq_false (fun z => h5 (by
            have z' : (xs.length : Int) = 5 := V.int.inj z
            omega))]
          rfl
        rw [e3]
        refine iteT ?_
        have z := q H (Ge.refl H)
        have e1 : isMap (.tuple ds) = false := by
          match ds, hl with
          | [], _ => rfl
          | [_], _ => rfl
          | [_, _], _ => rfl
          | [_, _, _], _ => rfl
          | [_, _, _, _], _ => rfl
          | [_, _, _, _, _], hl => exact absurd hl.symm h5
          | _ :: _ :: _ :: _ :: _ :: _ :: _, _ => rfl
        rw [e1] at z
        exact z
/-- what is a keymap passes -/
def spCheck (K : PySem.W.Frag) (T : List Addr) : Sp := fun vs H Q _ => ∃ v d, vs = [v] ∧ Da K H v d ∧ small d = true ∧ isMap d = true ∧ Tb T H ∧ ∀ H', Ge H H' → Q .non H'
theorem scCheck : FnScope ["keymap"] ["keymap"] (defScope s_check_map) := ⟨rfl, rfl, rfl, by decide +kernel, rfl, by decide +kernel, by decide +kernel⟩
theorem ok_check_map {f c : Addr} {fd : FuncData} (F : FunC K "check_map" s_check_map f fd c) (D : DfP P w K mg base 7 "is_map" ["thing"] (spD K T isMap)) : FnOk P w K mg base CX0 8 f fd ["keymap"] (spCheck K T) := by
  refine F.ok scCheck (fun vs H Q E ⟨_, _, h, _⟩ => by rw [h]; rfl) (fun A outer s H vs Q E hr h => ?_)
  obtain ⟨v, d, rfl, hd, hs, hm, hT, q⟩ := h
  refine ⟨_, pss_one (ps_if (pt_not (pt_val (pcall D hr pass0 rfl (pa_cons (pv 0) pa_nil)))) (pss_one ps_never) pss_nil), ?_⟩
  refine ⟨v, rfl, v, d, rfl, hd, hs, hT, fun H' g => ⟨_, rfl, ?_⟩⟩
  rw [hm]
  exact iteF (q H' g)
end
end Pr
set_option maxRecDepth 100000
set_option maxHeartbeats 2000000
/-! The pen that a law draws with: spread, open, take, pick -/
namespace Pr
open PySem PySem.Spec PyProof.Rows L2 GxR Gx Rp Dl Pd Tx
/-- all stays but the pen -/
def GeP (p : Addr) (H H' : Hp) : Prop := (∀ a o, a ≠ p → H a = some o → (∀ ps, o ≠ .tbl ps) → H' a = some o) ∧ ∀ a, TabG H a → TabG H' a
section
variable {p : Addr} {H H' H1 H2 : Hp} {K : PySem.W.Frag} {T : List Addr}
theorem GeP.refl : GeP p H H := ⟨fun _ _ _ h _ => h, fun _ h => h⟩
theorem GeP.of (g : Ge H H') : GeP p H H' := ⟨fun a o _ h n => g.1 a o h n, g.2⟩
theorem GeP.trans (a : GeP p H H1) (b : GeP p H1 H2) : GeP p H H2 := ⟨fun x o q h n => b.1 x o q (a.1 x o q h n) n, fun x h => b.2 x (a.2 x h)⟩
theorem GeP.set {xs : List V} {o : HO} (h : H p = some (.lst xs)) : GeP p H (upd H p o) := ⟨fun a u q e _ => by rw [upd_ne q]; exact e, fun a ⟨ps, e, t⟩ => ⟨ps, by rw [upd_ne (fun z => by rw [z, h] at e; cases e)]; exact e, t⟩⟩
theorem GeP.tb (g : GeP p H H') (h : Tb T H) : Tb T H' := fun P hP => g.2 P (h P hP)
mutual
theorem da_mapN (fT : ∀ a xs, Rd H a (.tup xs) → Rd H' a (.tup xs)) (fD : ∀ a kvs, Rd H a (.dK kvs) → Rd H' a (.dK kvs)) : ∀ (d : PyData) (v : V), noL d = true → Da K H v d → Da K H' v d
  | .none, _, _, h => by cases h; exact .non
  | .bool b, _, _, h => by cases h; exact .bl b
  | .int i, _, _, h => by cases h; exact .int i
  | .str x, _, _, h => by cases h; exact .str x
  | .list ds, _, n, h => by cases n
  | .tuple ds, _, n, h => by
    cases h with
    | tup hs ha => exact .tup (fT _ _ hs) (daAll_mapN fT fD ds _ (by simpa only [noL] using n) ha)
  | .dict ds, _, n, h => by
    cases h with
    | dct hs hn ha => exact .dct (fD _ _ hs) hn (daKv_mapN fT fD ds _ (by simpa only [noL] using n) ha)
theorem daAll_mapN (fT : ∀ a xs, Rd H a (.tup xs) → Rd H' a (.tup xs)) (fD : ∀ a kvs, Rd H a (.dK kvs) → Rd H' a (.dK kvs)) : ∀ (ds : List PyData) (vs : List V), noLAll ds = true → DaAll K H vs ds → DaAll K H' vs ds
  | [], _, _, h => by cases h; exact .nil
  | d :: ds, _, n, h => by
    simp only [noLAll, Bool.and_eq_true] at n
    cases h with
    | cons h1 h2 => exact .cons (da_mapN fT fD d _ n.1 h1) (daAll_mapN fT fD ds _ n.2 h2)
theorem daKv_mapN (fT : ∀ a xs, Rd H a (.tup xs) → Rd H' a (.tup xs)) (fD : ∀ a kvs, Rd H a (.dK kvs) → Rd H' a (.dK kvs)) : ∀ (ds : List (PyData × PyData)) (kvs : List (Key × V)), noLKv ds = true → DaKv K H kvs ds → DaKv K H' kvs ds
  | [], _, _, h => by cases h; exact .nil
  | (dk, d) :: ds, _, n, h => by
    simp only [noLKv, Bool.and_eq_true] at n
    cases h with
    | cons h1 h2 => exact .cons (da_mapN fT fD d _ n.1 h1) (daKv_mapN fT fD ds _ n.2 h2)
end
theorem GeP.rd {a : Addr} {u : HO} {xs : List V} (g : GeP p H H') (hp : H p = some (.lst xs)) (n : ∀ ps, u ≠ .tbl ps) (n2 : ∀ ys, u ≠ .lst ys) (h : Rd H a u) : Rd H' a u := by
  have ne : a ≠ p := fun z => by
    subst z
    rcases h with h | ⟨o, h⟩ <;> rw [hp] at h
    · exact n2 _ (Option.some.inj h).symm
    · cases h
  rcases h with h | ⟨o, h⟩
  · exact Or.inl (g.1 a u ne h n)
  · exact Or.inr ⟨o, g.1 a _ ne h fun ps z => by cases z⟩
theorem GeP.dk {a : Addr} {kvs : List (Key × V)} {xs : List V} (g : GeP p H H') (hp : H p = some (.lst xs)) (h : H a = some (.dK kvs)) : H' a = some (.dK kvs) := g.1 a _ (fun z => by subst z; rw [hp] at h; cases h) h fun ps z => by cases z
theorem GeP.da {v : V} {d : PyData} {xs : List V} (g : GeP p H H') (hp : H p = some (.lst xs)) (n : noL d = true) (h : Da K H v d) : Da K H' v d := da_mapN (fun _ _ => g.rd hp (fun ps q => by cases q) fun ys q => by cases q) (fun _ _ => g.rd hp (fun ps q => by cases q) fun ys q => by cases q) d v n h
theorem GeP.daAll {vs : List V} {ds : List PyData} {xs : List V} (g : GeP p H H') (hp : H p = some (.lst xs)) (n : noLAll ds = true) (h : DaAll K H vs ds) : DaAll K H' vs ds := daAll_mapN (fun _ _ => g.rd hp (fun ps q => by cases q) fun ys q => by cases q) (fun _ _ => g.rd hp (fun ps q => by cases q) fun ys q => by cases q) ds vs n h
theorem GeP.daKv {vs : List (Key × V)} {ds : List (PyData × PyData)} {xs : List V} (g : GeP p H H') (hp : H p = some (.lst xs)) (n : noLKv ds = true) (h : DaKv K H vs ds) : DaKv K H' vs ds := daKv_mapN (fun _ _ => g.rd hp (fun ps q => by cases q) fun ys q => by cases q) (fun _ _ => g.rd hp (fun ps q => by cases q) fun ys q => by cases q) ds vs n h
end
/-- the pen at p, its cells at cc, behind at most a takes -/
def PenAt (H : Hp) (p cc : Addr) (a : Nat) : Prop := ∃ (ns : List Int) (i val : Int), H p = some (.lst [.ref cc, .int i, .int val]) ∧ H cc = some (.lst (ns.map V.int)) ∧ ns.length ≤ 63 ∧ 0 ≤ i ∧ i ≤ a
theorem PenAt.lst {H : Hp} {p cc : Addr} {a : Nat} (h : PenAt H p cc a) : ∃ xs, H p = some (.lst xs) := let ⟨_, _, _, h, _⟩ := h; ⟨_, h⟩
theorem PenAt.mono {H : Hp} {p cc : Addr} {a b : Nat} (h : PenAt H p cc a) (l : a ≤ b) : PenAt H p cc b := let ⟨ns, i, v, h1, h2, h3, h4, h5⟩ := h; ⟨ns, i, v, h1, h2, h3, h4, by omega⟩
theorem PenAt.ge {H H' : Hp} {p cc : Addr} {a : Nat} (h : PenAt H p cc a) (g : Ge H H') : PenAt H' p cc a := let ⟨ns, i, v, h1, h2, h3⟩ := h; ⟨ns, i, v, g.1 _ _ h1 (fun ps z => by cases z), g.1 _ _ h2 (fun ps z => by cases z), h3⟩
theorem PenAt.upd {H : Hp} {p cc d : Addr} {a : Nat} {o : HO} (h : PenAt H p cc a) (h1 : d ≠ p) (h2 : d ≠ cc) : PenAt (upd H d o) p cc a := let ⟨ns, i, v, q1, q2, h3⟩ := h; ⟨ns, i, v, by rw [upd_ne h1.symm]; exact q1, by rw [upd_ne h2.symm]; exact q2, h3⟩
theorem PenAt.fresh {H : Hp} {p cc d : Addr} {a : Nat} (h : PenAt H p cc a) (n : H d = none) : d ≠ p ∧ d ≠ cc := let ⟨ns, i, v, q1, q2, h3⟩ := h; ⟨(fun z => by rw [z, q1] at n; cases n), (fun z => by rw [z, q2] at n; cases n)⟩
/-- not known before -/
def Nw (H : Hp) (d : Addr) : Prop := (∀ o, H d = some o → ∃ ps, o = .tbl ps) ∧ ¬ TabG H d
theorem Nw.none {H : Hp} {d : Addr} (h : H d = none) : Nw H d := ⟨(fun o e => by rw [h] at e; cases e), (fun ⟨ps, e, _⟩ => by rw [h] at e; cases e)⟩
theorem GeP.nw {p d : Addr} {H H' : Hp} (g : GeP p H H') (h : H' d = none) (n : d ≠ p) : Nw H d := by
  refine ⟨fun o e => ?_, fun t => ?_⟩
  · cases o with
    | tbl ps => exact ⟨ps, rfl⟩
    | _ =>
      have z := g.1 d _ n e (fun ps z => by cases z)
      rw [h] at z
      cases z
  · obtain ⟨ps, e, _⟩ := g.2 d t
    rw [h] at e
    cases e
theorem GeP.upd {p d : Addr} {H H' : Hp} {o : HO} (g : GeP p H H') (hd : Nw H d) : GeP p H (upd H' d o) :=
  ⟨fun b u hb e n => by
      have : b ≠ d := fun z => by
        subst z
        obtain ⟨ps, q⟩ := hd.1 u e
        exact n ps q
      rw [upd_ne this]; exact g.1 b u hb e n, fun b tb => by
    obtain ⟨ps, e, w⟩ := g.2 b tb
    have : b ≠ d := fun z => by
      subst z
      exact hd.2 tb
    exact ⟨ps, by rw [upd_ne this]; exact e, w⟩⟩
theorem cell_ne {H : Hp} {p c d : Addr} {ns : List Int} {xs : List V} (h1 : H p = some (.lst (.ref d :: xs))) (h2 : H c = some (.lst (ns.map V.int))) : c ≠ p := fun z => by
  subst z
  rw [h1] at h2
  cases ns with
  | nil => cases h2
  | cons n r => cases h2
theorem ints_at {ns : List Int} {i : Int} (h0 : 0 ≤ i) (h1 : i < ns.length) : ∃ q ∈ ns, atI (ns.map V.int) i = some (.int q) := by
  obtain ⟨k, rfl⟩ := Int.eq_ofNat_of_zero_le h0
  have hk : k < ns.length := by omega
  refine ⟨ns[k], List.getElem_mem hk, atI_nat ?_⟩
  rw [List.getElem?_map, List.getElem?_eq_getElem hk]
  rfl
theorem mulb {a b A B : Int} (h1 : 0 ≤ a) (h2 : a ≤ A) (h3 : 0 ≤ b) (h4 : b ≤ B) : 0 ≤ a * b ∧ a * b ≤ A * B := ⟨Int.mul_nonneg h1 h3, Int.mul_le_mul h2 h4 h3 (Int.le_trans h1 h2)⟩
theorem modb (a : Int) {m : Int} (h : 0 < m) : 0 ≤ a % m ∧ a % m < m := ⟨Int.emod_nonneg _ (by omega), Int.emod_lt_of_pos _ h⟩
def primes : List Int := [2147483629, 2147483587, 2147483579, 2147483563, 2147483549, 2147483543, 2147483497, 2147483489] ++ [2147483477, 2147483423, 2147483399, 2147483353, 2147483323]
theorem prime_at (i : Int) : ∃ q : Int, atI (primes.map V.int) (i % 13) = some (.int q) ∧ 0 < q ∧ q < 2147483648 := by
  obtain ⟨h0, h1⟩ := modb i (m := 13) (by omega)
  obtain ⟨q, hq, e⟩ := ints_at (ns := primes) h0 (by show i % 13 < 13; exact h1)
  have all : ∀ q ∈ primes, 0 < q ∧ q < 2147483648 := by decide
  exact ⟨q, e, all q hq⟩
section
variable {P : Program} {w : World} {K : PySem.W.Frag} {mg : Str → Option Value} {base : Heap} {T : List Addr}
def vOne (c i q : Int) : Int := (c % 1000000007 * (2 * i + 69069) + i * 40503 + 977) ^ (3 : Int).toNat % q
def vTwo (c i q r : Int) : Int := (vOne c i q * (i + 3) + c % 65537 + 5) ^ (5 : Int).toNat % r
def spSpread : Sp := fun vs H Q _ => ∃ c i : Int, vs = [.int c, .int i] ∧ 0 ≤ i ∧ i ≤ 1000000 ∧ ∀ H' r, Ge H H' → Q (.int r) H'
abbrev nSpread : List Str := ["_law_cell", "_law_k", "_law_primes", "_law_one", "_law_two", "_law_three"]
theorem scSpread : FnScope nSpread ["_law_cell", "_law_k"] (defScope s_law_spread) := ⟨rfl, rfl, rfl, by decide +kernel, rfl, by decide +kernel, by decide +kernel⟩
theorem cmul_l {i j : Int} (h : 0 ≤ i ∧ i ≤ 18446744073709551615) : CMul i j := Or.inl ⟨by omega, by omega⟩
theorem cmul_r {i j : Int} (h : 0 ≤ j ∧ j ≤ 18446744073709551615) : CMul i j := Or.inr ⟨by omega, by omega⟩
theorem cpow {i j : Int} (h : 0 ≤ i ∧ i ≤ 18446744073709551615) (hj : 0 ≤ j ∧ j ≤ 1000) : CPow i j := ⟨hj.1, by omega, by omega⟩
theorem ok_law_spread {f c : Addr} {fd : FuncData} (F : FunC K "_law_spread" s_law_spread f fd c) : FnOk P w K mg base CX0 1 f fd ["_law_cell", "_law_k"] spSpread := by
  refine F.ok scSpread (fun vs H Q E ⟨_, _, h, _⟩ => by rw [h]; rfl) (fun A outer s H vs Q E hr h => ?_)
  obtain ⟨c, i, rfl, hi0, hi1, q⟩ := h
  refine ⟨_, pss_cons (ps_if (pt_cmpR op_ge (pv 0) (pe_op op_pow pe_int pe_int) (nomark _)) (pss_one (ps_ret (pv 0))) pss_nil)
    (pss_cons (ps_asg (pe_lst (pa_cons pe_int (pa_cons pe_int (pa_cons pe_int (pa_cons pe_int (pa_cons pe_int (pa_cons pe_int (pa_cons pe_int (pa_cons pe_int pa_nil))))))))) (pg_name (i := 2) scSpread.nd rfl (Or.inl rfl)))
    (pss_cons (ps_asg (pe_op op_cat (pv 2) (pe_lst (pa_cons pe_int (pa_cons pe_int (pa_cons pe_int (pa_cons pe_int (pa_cons pe_int pa_nil))))))) (pg_name (i := 2) scSpread.nd rfl (Or.inl rfl)))
    (pss_cons (ps_asg (pe_op op_mod (pe_op op_pow (pe_op op_add (pe_op op_add (pe_op op_mul (pe_op op_mod (pv 0) pe_int) (pe_op op_add (pe_op op_mul pe_int (pv 1)) pe_int)) (pe_op op_mul (pv 1) pe_int)) pe_int) pe_int) (pe_ix ix_list (pv 2) (pe_op op_mod (pv 1) pe_int) (fun _ _ => rfl))) (pg_name (i := 3) scSpread.nd rfl (Or.inl rfl)))
    (pss_cons (ps_asg (pe_op op_mod (pe_op op_pow (pe_op op_add (pe_op op_add (pe_op op_mul (pv 3) (pe_op op_add (pv 1) pe_int)) (pe_op op_mod (pv 0) pe_int)) pe_int) pe_int) (pe_ix ix_list (pv 2) (pe_op op_mod (pe_op op_add (pv 1) pe_int) pe_int) (fun _ _ => rfl))) (pg_name (i := 4) scSpread.nd rfl (Or.inl rfl)))
    (pss_cons (ps_asg (pe_op op_mod (pe_op op_pow (pe_op op_add (pe_op op_add (pv 4) (pe_op op_mod (pv 3) pe_int)) (pv 1)) pe_int) (pe_ix ix_list (pv 2) (pe_op op_mod (pe_op op_add (pv 1) pe_int) pe_int) (fun _ _ => rfl))) (pg_name (i := 5) scSpread.nd rfl (Or.inl rfl)))
    (pss_one (ps_ret (pe_op op_add (pe_op op_mul (pe_op op_add (pe_op op_mul (pv 3) pe_int) (pv 4)) pe_int) (pv 5)))))))))
    , ?_⟩
  refine ⟨_, rfl, _, _, rfl, rfl, cpow ⟨by decide, by decide⟩ ⟨by decide, by decide⟩, _, _, rfl, rfl, _, rfl, ite2 (fun _ => ⟨_, rfl, q H c (Ge.refl H)⟩) fun _ => ?_⟩
  refine ⟨by decide, fun l1 h1 => ⟨_, rfl, by decide, fun l2 h2 => ?_⟩⟩
  have g1 : Ge H (upd H l1 (.lst ([2147483629, 2147483587, 2147483579, 2147483563, 2147483549, 2147483543, 2147483497, 2147483489].map V.int))) := Ge.new h1
  refine ⟨l1, l2, [2147483629, 2147483587, 2147483579, 2147483563, 2147483549, 2147483543, 2147483497, 2147483489].map V.int, _, rfl, rfl, (Ge.new h2).1 _ _ upd_same (fun ps z => by cases z), upd_same, by decide, fun l3 h3 => ?_⟩
  have g2 := g1.trans (Ge.new (o := .lst ([2147483477, 2147483423, 2147483399, 2147483353, 2147483323].map V.int)) h2)
  have g3 := g2.trans (Ge.new (o := .lst (primes.map V.int)) h3)
  obtain ⟨m1, m1'⟩ := modb c (m := 1000000007) (by omega)
  obtain ⟨q1, e1, p1, p1'⟩ := prime_at i
  have b1 := mulb m1 (show c % 1000000007 ≤ 1000000006 by omega) (show 0 ≤ 2 * i + 69069 by omega) (show 2 * i + 69069 ≤ 3000000 by omega)
  have x1 : 0 ≤ c % 1000000007 * (2 * i + 69069) + i * 40503 + 977 ∧ c % 1000000007 * (2 * i + 69069) + i * 40503 + 977 ≤ 18446744073709551615 := ⟨by omega, by omega⟩
  refine ⟨_, rfl, _, _, rfl, rfl, by show (0 : Int) < 1000000007; decide, _, rfl, _, _, rfl, rfl, cmul_l ⟨by decide, by decide⟩, _, _, rfl, rfl, _, _, rfl, rfl, cmul_l ⟨m1, by omega⟩, _, rfl, _, _, rfl, rfl, cmul_r ⟨by decide, by decide⟩, _, _, rfl, rfl, _, _, rfl, rfl, _, _, rfl, rfl, cpow x1 ⟨by decide, by decide⟩,
    _, rfl, _, rfl, _, _, rfl, rfl, by show (0 : Int) < 13; decide, l3, _, _, _, rfl, rfl, SqL.of upd_same, e1, _, _, rfl, rfl, p1, ?_⟩
  obtain ⟨o0, o1⟩ := modb ((c % 1000000007 * (2 * i + 69069) + i * 40503 + 977) ^ 3) p1
  change 0 ≤ vOne c i q1 at o0
  change vOne c i q1 < q1 at o1
  have o2 : vOne c i q1 ≤ 18446744073709551615 := by omega
  obtain ⟨q2, e2, p2, p2'⟩ := prime_at (i + 5)
  have b2 := mulb o0 (show vOne c i q1 ≤ 2147483647 by omega) (show 0 ≤ i + 3 by omega) (show i + 3 ≤ 1000003 by omega)
  obtain ⟨m2, m2'⟩ := modb c (m := 65537) (by omega)
  have x2 : 0 ≤ (vOne c i q1) * (i + 3) + c % 65537 + 5 ∧ (vOne c i q1) * (i + 3) + c % 65537 + 5 ≤ 18446744073709551615 := ⟨by omega, by omega⟩
  refine ⟨_, rfl, _, rfl, _, _, rfl, rfl, _, _, rfl, rfl, cmul_l ⟨o0, o2⟩, _, rfl, _, _, rfl, rfl, by show (0 : Int) < 65537; decide, _, _, rfl, rfl, _, _, rfl, rfl, _, _, rfl, rfl, cpow x2 ⟨by decide, by decide⟩,
    _, rfl, _, rfl, _, _, rfl, rfl, _, _, rfl, rfl, by show (0 : Int) < 13; decide, l3, _, _, _, rfl, rfl, SqL.of upd_same, e2, _, _, rfl, rfl, p2, ?_⟩
  obtain ⟨t0, t1⟩ : 0 ≤ vTwo c i q1 q2 ∧ vTwo c i q1 q2 < q2 := modb _ p2
  obtain ⟨q3, e3, p3, p3'⟩ := prime_at (i + 7)
  obtain ⟨m3, m3'⟩ := modb (vOne c i q1) (m := 1009) (by omega)
  have x3 : 0 ≤ vTwo c i q1 q2 + (vOne c i q1) % 1009 + i ∧ vTwo c i q1 q2 + (vOne c i q1) % 1009 + i ≤ 18446744073709551615 := ⟨by omega, by omega⟩
  refine ⟨_, rfl, _, rfl, _, _, rfl, rfl, by show (0 : Int) < 1009; decide, _, _, rfl, rfl, _, rfl, _, _, rfl, rfl, _, _, rfl, rfl, cpow x3 ⟨by decide, by decide⟩,
    _, rfl, _, rfl, _, _, rfl, rfl, _, _, rfl, rfl, by show (0 : Int) < 13; decide, l3, _, _, _, rfl, rfl, SqL.of upd_same, e3, _, _, rfl, rfl, p3, ?_⟩
  refine ⟨_, rfl, _, _, rfl, rfl, cmul_r ⟨by decide, by decide⟩, _, rfl, _, _, rfl, rfl, _, _, rfl, rfl, cmul_r ⟨by decide, by decide⟩, _, rfl, _, _, rfl, rfl, q _ _ g3⟩
end
end Pr
set_option maxRecDepth 100000
set_option maxHeartbeats 2000000
namespace Pr
open PySem PySem.Spec PyProof.Rows L2 GxR Gx Rp Dl Pd Tx
theorem Ge.upd {H H1 : Hp} {a : Addr} {o : HO} (g : Ge H H1) (h : H a = none) : Ge H (upd H1 a o) :=
  ⟨fun b u e n => by rw [upd_ne (ne_of_none e h)]; exact g.1 b u e n, fun b t => by
    obtain ⟨ps, e, w⟩ := g.2 b t
    obtain ⟨qs, e', w'⟩ := t
    exact ⟨ps, by rw [upd_ne (ne_of_none e' h)]; exact e, w⟩⟩
theorem cut_ints (ns : List Int) (lo hi : Option Int) : cutV (ns.map V.int) lo hi = ((ns.drop (HT.sIx ns.length 0 lo)).take (HT.sIx ns.length ns.length hi - HT.sIx ns.length 0 lo)).map V.int := by
  unfold cutV
  rw [List.length_map, List.map_take, List.map_drop]
def cellsOf (ns : List Int) : List Int := (ns.drop (HT.sIx ns.length 0 none)).take (HT.sIx ns.length ns.length (some 12) - HT.sIx ns.length 0 none)
def restOf (ns : List Int) : List Int := (ns.drop (HT.sIx ns.length 0 (some 12))).take (HT.sIx ns.length ns.length (some 63) - HT.sIx ns.length 0 (some 12))
theorem cells_len (ns : List Int) : (cellsOf ns).length = min 12 ns.length := by
  have e := HT.sIx_nat ns.length ns.length 12
  have e' : HT.sIx ns.length ns.length (some 12) = min 12 ns.length := e
  unfold cellsOf
  rw [e', HT.sIx_none, List.drop_zero, List.length_take]
  omega
theorem rest_len (ns : List Int) : (restOf ns).length ≤ ns.length - 12 := by
  have e := HT.sIx_nat ns.length 0 12
  have e' : HT.sIx ns.length 0 (some 12) = min 12 ns.length := e
  unfold restOf
  rw [e', List.length_take, List.length_drop]
  omega
section
variable {P : Program} {w : World} {K : PySem.W.Frag} {mg : Str → Option Value} {base : Heap} {T : List Addr}
def spOpen (K : PySem.W.Frag) : Sp := fun vs H Q _ => ∃ (a : Addr) (ns : List Int), vs = [.ref a] ∧ SqL K H a (ns.map V.int) ∧ ns.length ≤ 63 ∧ ∀ H' p cc, Ge H H' → PenAt H' p cc 0 → Q (.ref p) H'
abbrev nOpen : List Str := ["_law_script", "_law_cells", "_law_k", "_law_cell"]
theorem scOpen : FnScope nOpen ["_law_script"] (defScope s_law_open) := ⟨rfl, rfl, rfl, by decide +kernel, rfl, by decide +kernel, by decide +kernel⟩
theorem ok_law_open {f c : Addr} {fd : FuncData} (F : FunC K "_law_open" s_law_open f fd c) (B : Bn mg) : FnOk P w K mg base CX0 1 f fd ["_law_script"] (spOpen K) := by
  refine F.ok scOpen (fun vs H Q E ⟨_, _, h, _⟩ => by rw [h]; rfl) (fun A outer s H vs Q E hr h => ?_)
  obtain ⟨a, ns, rfl, hs, hl, q⟩ := h
  refine ⟨_, pss_cons (ps_asg (pe_callTy call_list_of rfl B.list bt_list (pa_cons (pe_slice sl_list (pv 0) po_none (po_some pe_int)) pa_nil)) (pg_name (i := 1) scOpen.nd rfl (Or.inl rfl)))
    (pss_cons (ps_for PassesOwn.never rfl (pi_enum rfl B.enumerate (pa_cons (pe_slice sl_list (pv 0) (po_some pe_int) (po_some pe_int)) pa_nil)) (pg_tup rfl (pgs_cons (pg_name (i := 2) scOpen.nd rfl (Or.inl rfl)) (pgs_cons (pg_name (i := 3) scOpen.nd rfl (Or.inl rfl)) pgs_nil)))
      (pss_one (ps_asg (pe_op op_add (pe_ix ix_list (pv 1) (pe_op op_mod (pv 2) pe_int) (fun _ _ => rfl)) (pv 3)) (pg_sub (pv 1) (pe_op op_mod (pv 2) pe_int) set_list))))
    (pss_one (ps_ret (pe_lst (pa_cons (pv 1) (pa_cons pe_int (pa_cons pe_int pa_nil))))))), ?_⟩
  refine ⟨_, rfl, 12, rfl, a, _, rfl, hs, fun l0 h0 => ⟨l0, _, rfl, Or.inl (SqL.of upd_same), fun l h => ?_⟩⟩
  have e1 : cutV (ns.map V.int) none (some 12) = (cellsOf ns).map V.int := cut_ints ns none (some 12)
  have e2 : cutV (ns.map V.int) (some 12) (some 63) = (restOf ns).map V.int := cut_ints ns (some 12) (some 63)
  rw [e1] at h ⊢
  have ga := Ge.new (H := H) (o := .lst ((cellsOf ns).map V.int)) h0
  have gb := ga.trans (Ge.new (o := .lst ((cellsOf ns).map V.int)) h)
  have hl0 : H l = none := by
    rcases hz : H l with _ | o
    · rfl
    · by_cases e : l = l0
      · rw [e, upd_same] at h
        cases h
      · rw [upd_ne e, hz] at h
        cases h
  refine ⟨_, rfl, 12, rfl, 63, rfl, a, _, rfl, gb.sqL hs, fun r hr => ⟨r, _, rfl, SqL.of upd_same, ?_⟩⟩
  rw [e2]
  have hrl : r ≠ l := fun z => by
    rw [z, upd_same] at hr
    cases hr
  have hr0 : H r = none := by
    rw [upd_ne hrl] at hr
    by_cases e : r = l0
    · rw [e, upd_same] at hr
      cases hr
    · rw [upd_ne e] at hr
      exact hr
  refine for_it (n := (restOf ns).length) (List.length_map (as := restOf ns) V.int ▸ walk_enum (xs := (restOf ns).map V.int)) (fun i σ H' => Ge H H' ∧ H' r = some (.lst ((restOf ns).map V.int)) ∧ (∃ cs : List Int, H' l = some (.lst (cs.map V.int)) ∧ cs.length = min 12 ns.length) ∧ ∃ x y, σ = [some (.ref a), some (.ref l), x, y])
    ⟨gb.trans (Ge.new hr), upd_same, ⟨cellsOf ns, by rw [upd_ne hrl.symm]; exact upd_same, cells_len ns⟩, _, _, rfl⟩ (fun i σ H' _ p => SqL.of p.2.1) ?_ ?_
  · rintro i x σ H1 H2 hi ⟨g, k1, ⟨cs, k2, k3⟩, x0, y0, rfl⟩ ⟨t, u, v, rfl, ht, rfl, eu, ev⟩
    cases eu
    have hi' := hi
    have hn : 12 < ns.length := by
      have := rest_len ns
      omega
    have hc12 : cs.length = 12 := by omega
    obtain ⟨m0, m1⟩ := modb (i : Int) (m := 12) (by omega)
    obtain ⟨q0, _, eq0⟩ := ints_at (ns := cs) m0 (by omega)
    have lt : l ≠ t := ne_of_none k2 ht
    have k2' : (upd H1 t (.tup [.int (i : Nat), v])) l = some (.lst (cs.map V.int)) := by rw [upd_ne lt]; exact k2
    obtain ⟨y, hy⟩ : ∃ y : Int, v = .int y := by
      change ((restOf ns).map V.int)[i]? = some v at ev
      rw [List.getElem?_map] at ev
      cases z : (restOf ns)[i]? with
      | none => rw [z] at ev; cases ev
      | some y => rw [z] at ev; exact ⟨y, (Option.some.inj ev).symm⟩
    subst hy
    refine ⟨t, _, rfl, SqT.of upd_same, rfl, _, _, rfl, _, _, rfl, rfl, ?_⟩
    refine ⟨_, rfl, _, rfl, _, _, rfl, rfl, by show (0 : Int) < 12; decide, l, _, _, _, rfl, rfl, SqL.of k2', eq0, _, rfl, _, _, rfl, rfl, ?_⟩
    have hx : ixN (cs.map V.int).length ((i : Int) % 12) = some ((i : Int) % 12).toNat := by
      unfold ixN
      rw [if_pos m0, if_pos (by rw [List.length_map]; omega)]
    refine ⟨_, rfl, _, rfl, _, _, rfl, rfl, by show (0 : Int) < 12; decide, l, _, _, _, rfl, rfl, k2', hx, ?_⟩
    refine ⟨Ge.upd (g.trans (Ge.new ht)) hl0, ?_, ⟨cs.set ((i : Int) % 12).toNat (q0 + y), ?_, by rw [List.length_set]; exact k3⟩, _, _, rfl⟩
    · rw [upd_ne hrl, upd_ne (ne_of_none k1 ht)]
      exact k1
    · rw [upd_same, List.map_set]
  · rintro σ H1 ⟨g, k1, ⟨cs, k2, k3⟩, x0, y0, rfl⟩
    refine ⟨_, rfl, by show 3 ≤ sizeLine; decide, fun p hp => ?_⟩
    exact q _ p l (g.trans (Ge.new hp)) ⟨cs, 0, 0, upd_same, by rw [upd_ne (ne_of_none k2 hp)]; exact k2, by omega, by omega, by omega⟩
end
end Pr
set_option maxRecDepth 100000
set_option maxHeartbeats 2000000
namespace Pr
open PySem PySem.Spec PyProof.Rows L2 GxR Gx Rp Dl Pd Tx
theorem seq_of {t u : TS} {D : Ends} {σ : L2.St} {H : Hp} (M : L2.St → Hp → Prop) (h1 : ∀ D' : Ends, (∀ σ' H', M σ' H' → D'.nx σ' H') → t D' σ H) (h2 : ∀ σ' H', M σ' H' → u D σ' H') : tSeq t u D σ H := h1 _ h2
theorem seq_set {u : TS} {D : Ends} {σ : L2.St} {H : Hp} {v : V} {i : Nat} (h : u D (σ.set i (some v)) H) : tSeq (tAsg (tC v) (gName i)) u D σ H := h
section
variable {P : Program} {w : World} {K : PySem.W.Frag} {mg : Str → Option Value} {base : Heap} {T : List Addr}
def spTake : Sp := fun vs H Q _ => ∃ (p cc : Addr) (m : Int) (a : Nat), vs = [.ref p, .int m] ∧ PenAt H p cc a ∧ a ≤ 100000 ∧ 0 < m ∧ m < 1073741824 ∧ ∀ H' r, GeP p H H' → PenAt H' p cc (a + 1) → 0 ≤ r → r < m → Q (.int r) H'
abbrev nTake : List Str := ["_law_pen", "_law_many", "_law_k", "_law_cell", "_law_found"]
theorem scTake : FnScope nTake ["_law_pen", "_law_many"] (defScope s_law_take) := ⟨rfl, rfl, rfl, by decide +kernel, rfl, by decide +kernel, by decide +kernel⟩
theorem ok_law_take {f c : Addr} {fd : FuncData} (F : FunC K "_law_take" s_law_take f fd c) (B : Bn mg) (D : DfP P w K mg base 1 "_law_spread" ["_law_cell", "_law_k"] spSpread) : FnOk P w K mg base CX0 2 f fd ["_law_pen", "_law_many"] spTake := by
  refine F.ok scTake (fun vs H Q E ⟨_, _, _, _, h, _⟩ => by rw [h]; rfl) (fun A outer s H vs Q E hr h => ?_)
  obtain ⟨p, cc, m, a, rfl, hp, ha, hm, hm2, q⟩ := h
  refine ⟨_, pss_cons (ps_if (pt_cmpR op_lt (pe_ix ix_list (pv 0) pe_int (fun _ _ => rfl)) (pv 1) (nomark _))
      (pss_cons (ps_asg (pe_ix ix_list (pv 0) pe_int (fun _ _ => rfl)) (pg_name (i := 2) scTake.nd rfl (Or.inl rfl)))
      (pss_cons (ps_asg pe_int (pg_name (i := 3) scTake.nd rfl (Or.inl rfl)))
      (pss_cons (ps_if (pt_cmpR op_lt (pv 2) (pe_callB call_len_seq rfl B.len PySem.boot_len (pa_cons (pe_ix ix_list (pv 0) pe_int (fun _ _ => rfl)) pa_nil)) (nomark _))
          (pss_one (ps_asg (pe_ix ix_list (pe_ix ix_list (pv 0) pe_int (fun _ _ => rfl)) (pv 2) (fun _ _ => rfl)) (pg_name (i := 3) scTake.nd rfl (Or.inl rfl))))
          (pss_one (ps_if (pt_cmpR op_gt (pe_callB call_len_seq rfl B.len PySem.boot_len (pa_cons (pe_ix ix_list (pv 0) pe_int (fun _ _ => rfl)) pa_nil)) pe_int (nomark _))
            (pss_one (ps_asg (pe_op op_mod (pe_ix ix_list (pe_ix ix_list (pv 0) pe_int (fun _ _ => rfl)) (pe_op op_mod (pe_op op_add (pe_op op_mul (pv 2) pe_int) pe_int) (pe_callB call_len_seq rfl B.len PySem.boot_len (pa_cons (pe_ix ix_list (pv 0) pe_int (fun _ _ => rfl)) pa_nil))) (fun _ _ => rfl)) (pe_op op_add (pe_op op_pow pe_int pe_int) (pv 2))) (pg_name (i := 3) scTake.nd rfl (Or.inl rfl))))
            pss_nil)))
      (pss_cons (ps_asg (pe_op op_add (pv 2) pe_int) (pg_sub (pv 0) pe_int set_list))
      (pss_one (ps_asg (pcall D hr pass0 rfl (pa_cons (pv 3) (pa_cons (pv 2) pa_nil))) (pg_sub (pv 0) pe_int set_list))))))) pss_nil)
    (pss_cons (ps_asg (pe_op op_mod (pe_ix ix_list (pv 0) pe_int (fun _ _ => rfl)) (pv 1)) (pg_name (i := 4) scTake.nd rfl (Or.inl rfl)))
    (pss_cons (ps_asg (pe_op op_fdiv (pe_ix ix_list (pv 0) pe_int (fun _ _ => rfl)) (pv 1)) (pg_sub (pv 0) pe_int set_list))
    (pss_one (ps_ret (pv 4))))), ?_⟩
  obtain ⟨ns, i, val, hp1, hc, hn, hi0, hi1⟩ := hp
  refine seq_of (fun σ' H1 => GeP p H H1 ∧ (∃ (ns : List Int) (i val : Int), H1 p = some (.lst [.ref cc, .int i, .int val]) ∧ H1 cc = some (.lst (ns.map V.int)) ∧ ns.length ≤ 63 ∧ 0 ≤ i ∧ i ≤ (a + 1 : Nat)) ∧ ∃ x y z, σ' = [some (.ref p), some (.int m), x, y, z]) (fun D' hD => ?_) ?_
  · refine ⟨_, rfl, p, _, _, _, rfl, rfl, SqL.of hp1, atI_nat (j := 2) rfl, _, rfl, _, _, rfl, rfl, _, rfl, ?_⟩
    refine ite2 (fun _ => ?_) fun _ => hD _ _ ⟨GeP.refl, ⟨ns, i, val, hp1, hc, hn, hi0, by omega⟩, _, _, _, rfl⟩
    refine ⟨_, rfl, p, _, _, _, rfl, rfl, SqL.of hp1, atI_nat (j := 1) rfl, ?_⟩
    dsimp only [gName]
    refine seq_set (seq_of (fun σ' H1 => H1 = H ∧ ∃ x : Int, σ' = [some (.ref p), some (.int m), some (.int i), some (.int x), none]) (fun D' hD => ?_) ?_)
    · refine ⟨_, rfl, _, rfl, p, _, _, _, rfl, rfl, SqL.of hp1, atI_nat (j := 0) rfl, cc, _, rfl, Or.inl (SqL.of hc), _, _, rfl, rfl, _, rfl, ?_⟩
      rw [List.length_map]
      refine ite2 (fun z => ?_) fun z => ?_
      · have hlt := of_decide_eq_true z
        obtain ⟨x, _, ex⟩ := ints_at hi0 hlt
        exact ⟨_, rfl, p, _, _, _, rfl, rfl, SqL.of hp1, atI_nat (j := 0) rfl, _, rfl, cc, _, _, _, rfl, rfl, SqL.of hc, ex, hD _ _ ⟨rfl, x, rfl⟩⟩
      · refine ⟨_, rfl, p, _, _, _, rfl, rfl, SqL.of hp1, atI_nat (j := 0) rfl, cc, _, rfl, Or.inl (SqL.of hc), _, _, rfl, rfl, _, rfl, ?_⟩
        rw [List.length_map]
        refine ite2 (fun z => ?_) fun z => hD _ _ ⟨rfl, 0, rfl⟩
        have hpos : (0 : Int) < ns.length := of_decide_eq_true z
        obtain ⟨m0, m1⟩ := modb (i * 5 + 3) hpos
        obtain ⟨x, _, ex⟩ := ints_at m0 m1
        refine ⟨_, rfl, p, _, _, _, rfl, rfl, SqL.of hp1, atI_nat (j := 0) rfl, _, rfl, _, _, rfl, rfl, cmul_r ⟨by decide, by decide⟩, _, _, rfl, rfl, _, rfl, p, _, _, _, rfl, rfl, SqL.of hp1, atI_nat (j := 0) rfl, cc, _, rfl, Or.inl (SqL.of hc), ?_⟩
        rw [List.length_map]
        refine ⟨_, _, rfl, rfl, hpos, cc, _, _, _, rfl, rfl, SqL.of hc, ex, _, _, rfl, rfl, cpow ⟨by decide, by decide⟩ ⟨by decide, by decide⟩, _, rfl, _, _, rfl, rfl, _, _, rfl, rfl, ?_, hD _ _ ⟨rfl, _, rfl⟩⟩
        have : (0 : Int) < 10 ^ (17 : Int).toNat := by decide
        show (0 : Int) < 10 ^ (17 : Int).toNat + i
        omega
    · rintro σ' H1 ⟨rfl, x, rfl⟩
      refine ⟨_, rfl, _, _, rfl, rfl, _, rfl, p, _, 1, 1, rfl, rfl, hp1, rfl, ?_⟩
      have hcp := cell_ne hp1 hc
      have g0 : GeP p H1 (upd H1 p (.lst [.ref cc, .int (i + 1), .int val])) := GeP.set hp1
      refine ⟨_, rfl, _, rfl, x, i, rfl, hi0, by omega, fun H2 r g => ⟨_, rfl, p, _, 2, 2, rfl, rfl, g.1 p _ upd_same (fun ps z => by cases z), rfl, hD _ _ ⟨?_, ⟨ns, i + 1, r, upd_same, ?_, hn, by omega, by omega⟩, _, _, _, rfl⟩⟩⟩
      · exact g0.trans ((GeP.of g).trans (GeP.set (g.1 p _ upd_same (fun ps z => by cases z))))
      · rw [upd_ne hcp]
        exact g.1 cc _ (by rw [upd_ne hcp]; exact hc) (fun ps z => by cases z)
  · rintro σ' H1 ⟨g, ⟨ns, i, val, hp1, hc, hn, hi0, hi1⟩, x, y, z, rfl⟩
    refine ⟨_, rfl, p, _, _, _, rfl, rfl, SqL.of hp1, atI_nat (j := 2) rfl, _, rfl, _, _, rfl, rfl, hm, ?_⟩
    refine ⟨_, rfl, p, _, _, _, rfl, rfl, SqL.of hp1, atI_nat (j := 2) rfl, _, rfl, _, _, rfl, rfl, ⟨hm, hm2⟩, _, rfl, p, _, 2, 2, rfl, rfl, hp1, rfl, ?_⟩
    obtain ⟨m0, m1⟩ := modb val hm
    exact ⟨_, rfl, q _ _ (g.trans (GeP.set hp1)) ⟨ns, i, val / m, upd_same, by rw [upd_ne (cell_ne hp1 hc)]; exact hc, hn, hi0, hi1⟩ m0 m1⟩
end
end Pr
set_option maxRecDepth 100000
set_option maxHeartbeats 2000000
namespace Pr
open PySem PySem.Spec PyProof.Rows L2 GxR Gx Rp Dl Pd Tx
theorem any_at {α : Type} {xs : List α} {i : Int} (h0 : 0 ≤ i) (h1 : i < xs.length) : ∃ v ∈ xs, atI xs i = some v := by
  obtain ⟨k, rfl⟩ := Int.eq_ofNat_of_zero_le h0
  have hk : k < xs.length := by omega
  exact ⟨xs[k], List.getElem_mem hk, atI_nat (List.getElem?_eq_getElem hk)⟩
section
variable {P : Program} {w : World} {K : PySem.W.Frag} {mg : Str → Option Value} {base : Heap} {T : List Addr}
/-- what is picked from: a list that is tracked, a text -/
def PickL (H : Hp) (p : Addr) (x : V) (ok : V → Prop) : Prop := ∃ b xs, x = .ref b ∧ b ≠ p ∧ H b = some (.lst xs) ∧ 0 < xs.length ∧ xs.length ≤ 100000 ∧ ∀ v ∈ xs, ok v
def PickS (x : V) (ok : V → Prop) : Prop := ∃ z : Str, x = .str z ∧ 0 < z.length ∧ z.length ≤ 100000 ∧ ∀ c ∈ z.cps.toList, ok (.str ⟨#[c]⟩)
def spPick : Sp := fun vs H Q _ => ∃ (p cc : Addr) (x : V) (a : Nat) (ok : V → Prop), vs = [.ref p, x] ∧ PenAt H p cc a ∧ a ≤ 100000 ∧ (PickL H p x ok ∨ PickS x ok) ∧ ∀ H' v, GeP p H H' → PenAt H' p cc (a + 1) → ok v → Q v H'
abbrev nPick : List Str := ["_law_pen", "_law_some"]
theorem scPick : FnScope nPick ["_law_pen", "_law_some"] (defScope s_law_one_of) := ⟨rfl, rfl, rfl, by decide +kernel, rfl, by decide +kernel, by decide +kernel⟩
theorem ok_law_one_of {f c : Addr} {fd : FuncData} (F : FunC K "_law_one_of" s_law_one_of f fd c) (B : Bn mg) (D : DfP P w K mg base 2 "_law_take" ["_law_pen", "_law_many"] spTake) : FnOk P w K mg base CX0 3 f fd ["_law_pen", "_law_some"] spPick := by
  refine F.ok scPick (fun vs H Q E ⟨_, _, _, _, _, h, _⟩ => by rw [h]; rfl) (fun A outer s H vs Q E hr h => ?_)
  obtain ⟨p, cc, x, a, ok, rfl, hp, ha, hx, q⟩ := h
  refine ⟨_, pss_one (ps_ret (pe_ix ix_seq (pv 1) (pcall D hr pass0 rfl (pa_cons (pv 0) (pa_cons (pe_callB (call_len_seq.or call_len_str) rfl B.len PySem.boot_len (pa_cons (pv 1) pa_nil)) pa_nil))) (fun _ _ => rfl))), ?_⟩
  rcases hx with ⟨b, xs, rfl, hb, hH, h0, h1, hok⟩ | ⟨z, rfl, h0, h1, hok⟩
  · refine ⟨_, rfl, _, rfl, _, rfl, Or.inl ⟨b, xs, rfl, Or.inl (SqL.of hH), p, cc, _, a, rfl, hp, ha, by omega, by omega, fun H' r g hp' r0 r1 => ?_⟩⟩
    obtain ⟨v, hv, e⟩ := any_at r0 r1
    exact Or.inl ⟨b, xs, r, v, rfl, rfl, SqL.of (g.1 b _ hb hH (fun ps z => by cases z)), e, q H' v g hp' (hok v hv)⟩
  · have hs : z.length ≤ sizeLine := Nat.le_trans h1 (by decide)
    refine ⟨_, rfl, _, rfl, _, rfl, Or.inr ⟨z, rfl, hs, p, cc, _, a, rfl, hp, ha, by omega, by omega, fun H' r g hp' r0 r1 => ?_⟩⟩
    obtain ⟨c, hc, e⟩ := any_at (xs := z.cps.toList) r0 (by simpa [Str.length] using r1)
    exact Or.inr (Or.inr ⟨z, r, c, rfl, rfl, hs, e, q H' _ g hp' (hok c hc)⟩)
end
end Pr
set_option maxRecDepth 100000
set_option maxHeartbeats 2000000
namespace Pr
open PySem PySem.Spec PyProof.Rows L2 GxR Gx Rp Dl Pd Tx
/-- a dict of some of the flags, with a boolean each -/
def Eff (H : Hp) (v : V) (fl : List Str) : Prop := ∃ d kvs, v = .ref d ∧ H d = some (.dK kvs) ∧ (kvs.map (·.1)).Nodup ∧ (∀ kv ∈ kvs, ∃ f b, kv = (.inr f, .bl b) ∧ f ∈ fl) ∧ kvs.length ≤ fl.length
theorem putK_app {kvs : List (Key × V)} {k : Key} {v : V} (h : k ∉ kvs.map (·.1)) : putK kvs k v = kvs ++ [(k, v)] := by
  unfold putK
  rw [if_neg]
  intro z
  obtain ⟨kv, hm, e⟩ := List.any_eq_true.mp z
  exact h (List.mem_map.mpr ⟨kv, hm, of_decide_eq_true e⟩)
theorem take_fresh {α : Type} {fl : List α} {i : Nat} {x : α} (hn : fl.Nodup) (h : fl[i]? = some x) : x ∉ fl.take i := by
  intro hm
  obtain ⟨k, hk, e⟩ := List.getElem_of_mem hm
  rw [List.length_take] at hk
  rw [List.getElem_take] at e
  obtain ⟨hi, ei⟩ := List.getElem?_eq_some_iff.mp h
  exact (List.pairwise_iff_getElem.mp hn) k i (by omega) hi (by omega) (e.trans ei.symm)
section
variable {P : Program} {w : World} {K : PySem.W.Frag} {mg : Str → Option Value} {base : Heap} {T : List Addr}
def spEffect (K : PySem.W.Frag) : Sp := fun vs H Q _ => ∃ (p cc t : Addr) (a : Nat) (fl : List Str), vs = [.ref p, .ref t] ∧ PenAt H p cc a ∧ a + 3 ≤ 100000 ∧ Rd H t (.tup (fl.map V.str)) ∧ fl.Nodup ∧ fl.length ≤ 3 ∧ ∀ H' v, GeP p H H' → PenAt H' p cc (a + 3) → Eff H' v fl → Q v H'
abbrev nEffect : List Str := ["_law_pen", "_law_flags", "_law_found", "_law_flag", "_law_way"]
end
end Pr
set_option maxRecDepth 100000
set_option maxHeartbeats 2000000
namespace Pr
open PySem PySem.Spec PyProof.Rows L2 GxR Gx Rp Dl Pd Tx
section
variable {P : Program} {w : World} {K : PySem.W.Frag} {mg : Str → Option Value} {base : Heap} {T : List Addr}
def isCh (c : Nat) : Bool := decide (97 ≤ c) && decide (c ≤ 122)
/-- a text of letters to pick from -/
def LetS (z : Str) : Prop := 0 < z.length ∧ z.length ≤ 100 ∧ letters z = true
def spKeys : Sp := fun vs H Q _ => ∃ (p cc : Addr) (a : Nat) (z : Str), vs = [.ref p, .str z] ∧ PenAt H p cc a ∧ a + 5 ≤ 100000 ∧ LetS z ∧ ∀ H' x, GeP p H H' → PenAt H' p cc (a + 5) → 1 ≤ x.length → x.length ≤ 4 → letters x = true → Q (.str x) H'
abbrev nKeys : List Str := ["_law_pen", "_law_letters", "_law_size", "_law_turn"]
theorem joinL_nil : ∀ cs : List Nat, TL.joinL [] (cs.map fun c => [c]) = cs
  | [] => rfl
  | [c] => rfl
  | c :: e :: r => by
    show [c] ++ ([] ++ TL.joinL [] ((e :: r).map fun c => [c])) = c :: e :: r
    rw [joinL_nil (e :: r)]
    rfl
theorem join_signs (cs : List Nat) : (Txt.join (Str.ofString "") (cs.map fun c => (⟨#[c]⟩ : Str))).cps.toList = cs := by
  rw [TL.join_eq]
  have h := TL.tl_join (Str.ofString "") (cs.map fun c => (⟨#[c]⟩ : Str))
  have e : (cs.map fun c => (⟨#[c]⟩ : Str)).map TL.tl = cs.map fun c => [c] := by
    rw [List.map_map]
    rfl
  rw [e] at h
  have e2 : TL.tl (Str.ofString "") = [] := rfl
  rw [e2, joinL_nil] at h
  exact h
end
end Pr
set_option maxRecDepth 100000
set_option maxHeartbeats 2000000
namespace Pr
open PySem PySem.Spec PyProof.Rows L2 GxR Gx Rp Dl Pd Tx
theorem Eff.gp {p : Addr} {H H' : Hp} {v : V} {fl : List Str} {xs : List V} (e : Eff H v fl) (g : GeP p H H') (hp : H p = some (.lst xs)) : Eff H' v fl := let ⟨d, kvs, e1, e2, e3⟩ := e; ⟨d, kvs, e1, g.dk hp e2, e3⟩
theorem Eff.ge {H H' : Hp} {v : V} {fl : List Str} (e : Eff H v fl) (g : Ge H H') : Eff H' v fl := let ⟨d, kvs, e1, e2, e3⟩ := e; ⟨d, kvs, e1, g.dk e2, e3⟩
/-- a binding -/
def Bnd (H : Hp) (v : V) (fl ns : List Str) : Prop := ∃ b x c m, v = .ref b ∧ H b = some (.tup [.str x, c, m]) ∧ 1 ≤ x.length ∧ x.length ≤ 4 ∧ letters x = true ∧ Eff H c fl ∧ (m = .non ∨ ∃ n ∈ ns, m = .str n)
theorem Bnd.gp {p : Addr} {H H' : Hp} {v : V} {fl ns : List Str} {xs : List V} (e : Bnd H v fl ns) (g : GeP p H H') (hp : H p = some (.lst xs)) : Bnd H' v fl ns := let ⟨b, x, c, m, e1, e2, e3, e4, e5, e6, e7⟩ := e; ⟨b, x, c, m, e1, g.1 b _ (fun z => by rw [z, hp] at e2; cases e2) e2 (fun ps z => by cases z), e3, e4, e5, e6.gp g hp, e7⟩
theorem Bnd.ge {H H' : Hp} {v : V} {fl ns : List Str} (e : Bnd H v fl ns) (g : Ge H H') : Bnd H' v fl ns := let ⟨b, x, c, m, e1, e2, e3, e4, e5, e6, e7⟩ := e; ⟨b, x, c, m, e1, g.1 b _ e2 (fun ps z => by cases z), e3, e4, e5, e6.ge g, e7⟩
theorem dp_strs {K : PySem.W.Frag} {H : Hp} : ∀ ns : List Str, DpAll K H (ns.map V.str) (ns.map PyData.str)
  | [] => .nil
  | n :: r => .cons (.str n) (dp_strs r)
section
variable {P : Program} {w : World} {K : PySem.W.Frag} {mg : Str → Option Value} {base : Heap} {T : List Addr}
/-- names, a list -/
def NmL (H : Hp) (p nl : Addr) (ns : List Str) : Prop := nl ≠ p ∧ H nl = some (.lst (ns.map V.str)) ∧ ns.length ≤ 5 ∧ SeqAt.shaped (.list (ns.map PyData.str)) = true
/-- flags, a tuple -/
def FlT (H : Hp) (t : Addr) (fl : List Str) : Prop := Rd H t (.tup (fl.map V.str)) ∧ fl.Nodup ∧ fl.length ≤ 3
def spBinding : Sp := fun vs H Q _ => ∃ (p cc t nl : Addr) (a : Nat) (fl ns : List Str) (z : Str), vs = [.ref p, .ref t, .ref nl, .str z] ∧ PenAt H p cc a ∧ a + 10 ≤ 100000 ∧ FlT H t fl ∧ NmL H p nl ns ∧ LetS z ∧ ∀ H' v, GeP p H H' → PenAt H' p cc (a + 10) → Bnd H' v fl ns → Q v H'
abbrev nLBind : List Str := ["_law_pen", "_law_flags", "_law_names", "_law_letters", "_law_keys", "_law_condition"]
end
end Pr
set_option maxRecDepth 100000
set_option maxHeartbeats 2000000
namespace Pr
open PySem PySem.Spec PyProof.Rows L2 GxR Gx Rp Dl Pd Tx
/-- xs[::s], s one or minus one -/
def tStepL (K : PySem.W.Frag) (te : TE) (ts : TO) : TE := fun σ H Q => te σ H fun x H1 => ts σ H1 fun o H2 => ∃ a xs i, x = .ref a ∧ o = some i ∧ (i = 1 ∨ i = -1) ∧ SqL K H2 a xs ∧ ∀ p, H2 p = none → Q (.ref p) (upd H2 p (.lst (if i = 1 then xs else xs.reverse)))
theorem pe_stepL {X : Cx} {e st : Expr} {te : TE} {ts : TO} {p2 pos : Pos} (he : PE X e te) (hs : PO X (some st) ts) : PE X (.Subscript e (.Slice none none (some st) p2) pos) (tStepL X.K te ts) := by
  refine ⟨fun pins s σ H Q I h => ?_⟩
  refine Subscript_ (thn (he.run pins s σ H _ I h) fun v s1 ⟨x, H1, I1, r1, q1⟩ => ?_)
  refine wpAny_Slice (thn (po_none.run pins s1 σ H1 (fun o H2 => o = none ∧ H2 = H1) I1 ⟨rfl, rfl⟩) fun vl s2 ⟨l, H2, I2, pl, el, e2⟩ => ?_)
  subst el e2
  refine thn (po_none.run pins s2 σ H2 (fun o H3 => o = none ∧ H3 = H2) I2 ⟨rfl, rfl⟩) fun vu s3 ⟨u, H3, I3, pu, eu, e3⟩ => ?_
  subst eu e3
  refine thn (hs.run pins s3 σ H3 _ I3 q1) fun vs s4 ⟨o, H4, I4, ps, a, xs, i, ex, eo, hi, hx, q⟩ => ?_
  subst ex eo
  cases r1
  have I5 : Inv X pins σ H4 { s4 with heap := s4.heap.push { cls := .type "slice", data := .fields #[vl, vu, vs] } } := I4.kept (t' := s4.toks) fun b ob q => Heap.get?_push_of_some _ q
  obtain ⟨its, r, ht, hz⟩ := I5.list hx
  have hlen := r.length
  show wpAny (model X.prog X.w) X.A (subscriptTail e (.Slice none none (some st) p2) (.ref a) (.ref s4.heap.objs.size)) (EP X pins σ Q) X.xe { s4 with heap := s4.heap.push { cls := .type "slice", data := .fields #[vl, vu, vs] } }
  refine tail_any (ops := [.ref a, .ref s4.heap.objs.size]) ht.isList.typeIs (PySem.slot_list_getitem.lookup) ?_ (by with_unfolding_all rfl)
  refine wpAny_getItem_list_slice ht.isList (Heap.IsSliceOf.new _ vl vu vs) pl pu ps (by rcases hi with rfl | rfl <;> decide) ?_ (by rw [List.size_toArray]; omega)
  rcases hi with rfl | rfl
  · have e : slicePick its.toArray none none (some 1) = its.toArray := slicePick_all its.toArray
    rw [e]
    refine ⟨.ref _, _, I5.laid (t' := s4.toks) (o := .lst xs) (fun b ob q => Heap.get?_push_of_some _ q) (Nat.le_refl _) ?_, rfl, q _ (I5.hok.fresh (Nat.le_refl _))⟩
    exact ⟨hz, _, 0, r, Heap.get?_push_size _ rfl⟩
  · rw [PySem.W.krv_pick]
    refine ⟨.ref _, _, I5.laid (t' := s4.toks) (o := .lst xs.reverse) (fun b ob q => Heap.get?_push_of_some _ q) (Nat.le_refl _) ?_, rfl, q _ (I5.hok.fresh (Nat.le_refl _))⟩
    exact ⟨by rw [List.length_reverse]; exact hz, _, 0, r.reverse, Heap.get?_push_size _ rfl⟩
end Pr
set_option maxRecDepth 100000
set_option maxHeartbeats 2000000
namespace Pr
open PySem PySem.Spec PyProof.Rows L2 GxR Gx Rp Dl Pd Tx
theorem mergeK_app : ∀ {more acc : List (Key × V)}, ((acc ++ more).map (·.1)).Nodup → mergeK acc more = acc ++ more
  | [], acc, _ => (List.append_nil acc).symm
  | (k, v) :: r, acc, h => by
    have fresh : k ∉ acc.map (·.1) := fun z => by
      rw [List.map_append, List.nodup_append] at h
      exact h.2.2 k z k (by simp) rfl
    show mergeK (putK acc k v) r = acc ++ (k, v) :: r
    rw [putK_app fresh, mergeK_app (by rw [List.append_assoc]; exact h), List.append_assoc]
    rfl
/-- the list at l with v behind -/
def bump (lay : List (Addr × List V)) (l : Addr) (v : V) : List (Addr × List V) := lay.map fun e => if e.1 = l then (e.1, e.2 ++ [v]) else e
def cnt (lay : List (Addr × List V)) : Nat := (lay.map fun e => e.2.length).sum
theorem bump_fst (lay : List (Addr × List V)) (l : Addr) (v : V) : (bump lay l v).map (·.1) = lay.map (·.1) := by
  unfold bump
  rw [List.map_map]
  refine List.map_congr_left fun e _ => ?_
  show (if e.1 = l then (e.1, e.2 ++ [v]) else e).1 = e.1
  by_cases h : e.1 = l
  · rw [if_pos h]
  · rw [if_neg h]
theorem bump_len (lay : List (Addr × List V)) (l : Addr) (v : V) : (bump lay l v).length = lay.length := by
  unfold bump
  rw [List.length_map]
theorem bump_not : ∀ {lay : List (Addr × List V)} {l : Addr} {v : V}, l ∉ lay.map (·.1) → bump lay l v = lay
  | [], _, _, _ => rfl
  | e :: r, l, v, h => by
    have h1 : e.1 ≠ l := fun z => h (by rw [← z]; simp)
    have h2 : l ∉ r.map (·.1) := fun z => h (by simp only [List.map_cons, List.mem_cons]; exact Or.inr z)
    show (if e.1 = l then (e.1, e.2 ++ [v]) else e) :: bump r l v = e :: r
    rw [if_neg h1, bump_not h2]
theorem cnt_bump : ∀ {lay : List (Addr × List V)} {l : Addr} {v : V}, (lay.map (·.1)).Nodup → cnt (bump lay l v) ≤ cnt lay + 1
  | [], _, _, _ => by show 0 ≤ 1; omega
  | e :: r, l, v, h => by
    have h' : e.1 ∉ r.map (·.1) ∧ (r.map (·.1)).Nodup := List.nodup_cons.mp h
    show (((if e.1 = l then (e.1, e.2 ++ [v]) else e) :: bump r l v).map fun e => e.2.length).sum ≤ ((e :: r).map fun e => e.2.length).sum + 1
    by_cases z : e.1 = l
    · rw [if_pos z, bump_not (by rw [← z]; exact h'.1)]
      simp only [List.map_cons, List.sum_cons, List.length_append, List.length_singleton]
      omega
    · rw [if_neg z]
      have ih := cnt_bump (v := v) (l := l) h'.2
      unfold cnt at ih
      simp only [List.map_cons, List.sum_cons]
      omega
theorem sub_snoc {α : Type} {ys xs : List α} {x : α} {k : Nat} (h : ys.Sublist (xs.take k)) (e : xs[k]? = some x) : (ys ++ [x]).Sublist (xs.take (k + 1)) ∧ ys.Sublist (xs.take (k + 1)) := by
  rw [List.take_succ, e]
  exact ⟨h.append (List.Sublist.refl [x]), h.trans (List.sublist_append_left _ _)⟩
/-- [x for x in texts if a test that draws from the pen] -/
theorem filt {p cc : Addr} {a : Nat} {J : It} {G : Hp → Prop} {xs : List Str} {σ : L2.St} {i : Nat} {tt : TT} {D : Addr} {H1 : Hp} {Qd : Hp → Prop} (wk : Walk J xs.length G (YAt (xs.map V.str))) (hD : H1 D = none) (hp : PenAt H1 p cc a) (hi : i < σ.length) (hn : xs.length ≤ 1000)
    (hG : ∀ H', GeP p H1 H' → G H')
    (htt : ∀ x H' k, k < xs.length → GeP p H1 H' → PenAt H' p cc (a + k) → ∀ R : Bool → Hp → Prop, (∀ b H4, GeP p H' H4 → PenAt H4 p cc (a + k + 1) → R b H4) → tt ((wipe σ [i]).set i (some x)) H' R)
    (hd : ∀ (H' : Hp) (ys : List Str), ys.Sublist xs → GeP p H1 H' → PenAt H' p cc (a + xs.length) → H' D = some (.lst (ys.map V.str)) → Qd H') :
    ∃ W : Nat → Nat → Hp → Prop, (∃ m, W 0 m (upd H1 D (.lst []))) ∧ ∀ k m H, W k m H →
      (J.stop k H ∧ Qd H) ∨ (J.go k H ∧ ∃ Nx : Hp → Prop, (∀ H', Nx H' → ∃ m', m' < m ∧ W (k + 1) m' H') ∧ ∀ x H', J.yld k H x H' → gName i x (wipe σ [i]) H' fun σ2 H2 => wipe σ2 [i] = wipe σ [i] ∧ tt σ2 H2 fun b H3 =>
        if b = true then tVar i σ2 H3 fun y H4 => ∃ acc, H4 D = some (.lst acc) ∧ acc.length < sizeLine ∧ Nx (upd H4 D (.lst (acc ++ [y]))) else Nx H3) := by
  have hf := hp.fresh hD
  refine lc_it (n := xs.length) wk (fun k H' => k ≤ xs.length ∧ GeP p H1 H' ∧ PenAt H' p cc (a + k) ∧ ∃ ys, ys.Sublist (xs.take k) ∧ H' D = some (.lst (ys.map V.str)))
    ⟨Nat.zero_le _, GeP.refl.upd (Nw.none hD), hp.upd hf.1 hf.2, [], List.nil_sublist _, upd_same⟩ (fun k H' _ z => hG H' z.2.1) ?_ ?_
  · rintro k x H2 H3 hk ⟨_, g, hp2, ys, s1, s2⟩ ⟨rfl, ex⟩
    rw [List.getElem?_map] at ex
    cases ez : xs[k]? with
    | none => rw [ez] at ex; cases ex
    | some y =>
      rw [ez] at ex
      cases ex
      obtain ⟨u1, u2⟩ := sub_snoc s1 ez
      refine ⟨?_, htt _ _ k hk g hp2 _ fun b H4 g4 hp4 => ?_⟩
      · show ((σ.set i none).set i (some (V.str y))).set i none = σ.set i none
        rw [List.set_set, List.set_set]
      · have k4 := g4.1 D _ hf.1 s2 (fun ps z => by cases z)
        have hl : ys.length ≤ 1000 := Nat.le_trans s1.length_le (by rw [List.length_take]; omega)
        refine ite2 (fun _ => ⟨V.str y, ?_, _, k4, ?_, hk, (g.trans g4).upd (Nw.none hD), hp4.upd hf.1 hf.2, ys ++ [y], u1, ?_⟩) fun _ => ⟨hk, g.trans g4, hp4, ys, u2, k4⟩
        · show ((σ.set i none).set i (some (V.str y)))[i]? = some (some (V.str y))
          rw [List.set_set, List.getElem?_set_self hi]
        · rw [List.length_map]
          exact Nat.lt_of_le_of_lt hl (by decide)
        · rw [upd_same, List.map_append]
          rfl
  · rintro H2 ⟨_, g, hp2, ys, s1, s2⟩
    rw [List.take_length] at s1
    exact hd H2 ys s1 g hp2 s2
end Pr
set_option maxRecDepth 100000
set_option maxHeartbeats 4000000
namespace Pr
open PySem PySem.Spec PyProof.Rows L2 GxR Gx Rp Dl Pd Tx
theorem call_tupleK {X : Cx} {K : PySem.W.Frag} (h : X.K = K) : CallR X (.type "tuple") (fun xs H Q => ∃ p ys, xs = [.ref p] ∧ ((SqL K H p ys ∧ ∀ l, H l = none → Q (.ref l) (upd H l (.tup ys))) ∨ (SqT K H p ys ∧ Q (.ref p) H))) := h ▸ call_tuple_of
section
variable {P : Program} {w : World} {K : PySem.W.Frag} {mg : Str → Option Value} {base : Heap} {T : List Addr}
def FLAGS : List Str := ["caps", "ins", "vis"]
def NAMES : List Str := ["down", "leave", "nothing", "x"]
/-- the commands -/
def Cmd (H : Hp) (cd : Addr) (ns fl : List Str) : Prop := ∃ kvs, H cd = some (.dK kvs) ∧ (kvs.map (·.1)).Nodup ∧ (∀ kv ∈ kvs, ∃ n v, kv = (.inr n, v) ∧ n ∈ ns ∧ Eff H v fl) ∧ (∀ n ∈ ns, ∃ v, (Sum.inr n, v) ∈ kvs) ∧ kvs.length ≤ 5
theorem Cmd.gp {p cd : Addr} {H H' : Hp} {ns fl : List Str} {xs : List V} (e : Cmd H cd ns fl) (g : GeP p H H') (hp : H p = some (.lst xs)) : Cmd H' cd ns fl := by
  obtain ⟨kvs, e1, e2, e3, e4, e5⟩ := e
  exact ⟨kvs, g.dk hp e1, e2, fun kv hk => let ⟨n, v, h1, h2, h3⟩ := e3 kv hk; ⟨n, v, h1, h2, h3.gp g hp⟩, e4, e5⟩
/-- a keymap -/
def MapH (H : Hp) (v : V) : Prop := ∃ (m t o cd ly : Addr) (fl ol ns : List Str) (ks : List (Addr × List V)) (i : Int), v = .ref m ∧ H m = some (.tup [.ref t, .ref o, .ref cd, .ref ly, .int i]) ∧ Rd H t (.tup (fl.map V.str)) ∧ Rd H o (.tup (ol.map V.str)) ∧ fl.Sublist FLAGS ∧ ol.Sublist fl ∧ ns.Sublist NAMES ∧ Cmd H cd ns fl ∧ 1 ≤ i ∧ i ≤ 1000 ∧
  H ly = some (.tup (ks.map fun e => .ref e.1)) ∧ 1 ≤ ks.length ∧ ks.length ≤ 4 ∧ cnt ks ≤ 16 ∧ ∀ e ∈ ks, H e.1 = some (.tup e.2) ∧ ∀ b ∈ e.2, Bnd H b fl ns
def spMap : Sp := fun vs H Q _ => ∃ (p cc : Addr) (a : Nat) (most : Int), vs = [.ref p, .int most] ∧ 0 ≤ most ∧ most ≤ 16 ∧ PenAt H p cc a ∧ a + 300 ≤ 100000 ∧ ∀ H' v, GeP p H H' → PenAt H' p cc (a + 300) → MapH H' v → Q v H'
structure Stg (H0 H : Hp) (p cc : Addr) (a : Nat) (t o nl : Addr) (fl ol ns : List Str) : Prop where
  g : GeP p H0 H
  pen : PenAt H p cc a
  hfl : FlT H t fl
  hol : Rd H o (.tup (ol.map V.str))
  nm : NmL H p nl ns
  s1 : fl.Sublist FLAGS
  s2 : ol.Sublist fl
  s3 : ns.Sublist NAMES
theorem Stg.gp {H0 H H' : Hp} {p cc : Addr} {a b : Nat} {t o nl : Addr} {fl ol ns : List Str} (S : Stg H0 H p cc a t o nl fl ol ns) (g : GeP p H H') (hp : PenAt H' p cc b) : Stg H0 H' p cc b t o nl fl ol ns := by
  obtain ⟨xs, hx⟩ := S.pen.lst
  exact ⟨S.g.trans g, hp, ⟨g.rd hx (fun ps z => by cases z) (fun ys z => by cases z) S.hfl.1, S.hfl.2⟩, g.rd hx (fun ps z => by cases z) (fun ys z => by cases z) S.hol, ⟨S.nm.1, g.1 nl _ S.nm.1 S.nm.2.1 (fun ps z => by cases z), S.nm.2.2⟩, S.s1, S.s2, S.s3⟩
theorem Stg.ge {H0 H H' : Hp} {p cc : Addr} {a : Nat} {t o nl : Addr} {fl ol ns : List Str} (S : Stg H0 H p cc a t o nl fl ol ns) (g : Ge H H') : Stg H0 H' p cc a t o nl fl ol ns := S.gp (GeP.of g) (S.pen.ge g)
theorem Stg.updL {H0 H : Hp} {p cc D : Addr} {a : Nat} {t o nl : Addr} {fl ol ns : List Str} {ys zs : List V} (S : Stg H0 H p cc a t o nl fl ol ns) (hD : H D = some (.lst ys)) (h1 : D ≠ p) (h2 : D ≠ cc) (h3 : D ≠ nl) (h4 : Nw H0 D) : Stg H0 (upd H D (.lst zs)) p cc a t o nl fl ol ns := by
  have g : GeP D H (upd H D (.lst zs)) := GeP.set hD
  exact ⟨S.g.upd h4, S.pen.upd h1 h2, ⟨g.rd hD (fun ps z => by cases z) (fun ys z => by cases z) S.hfl.1, S.hfl.2⟩, g.rd hD (fun ps z => by cases z) (fun ys z => by cases z) S.hol, ⟨S.nm.1, by rw [upd_ne h3.symm]; exact S.nm.2.1, S.nm.2.2⟩, S.s1, S.s2, S.s3⟩
theorem Stg.mono {H0 H : Hp} {p cc : Addr} {a b : Nat} {t o nl : Addr} {fl ol ns : List Str} (S : Stg H0 H p cc a t o nl fl ol ns) (h : a ≤ b) : Stg H0 H p cc b t o nl fl ol ns := ⟨S.g, S.pen.mono h, S.hfl, S.hol, S.nm, S.s1, S.s2, S.s3⟩
theorem paired_of {K : PySem.W.Frag} {H : Hp} : ∀ es : List (Addr × Str × V), (∀ e ∈ es, SqT K H e.1 [.str e.2.1, e.2.2]) → Paired (fun p (kv : Key × V) => SqT K H p [kV kv.1, kv.2]) (es.map (·.1)) (es.map fun e => (.inr e.2.1, e.2.2))
  | [], _ => .nil
  | e :: r, h => .cons (h e List.mem_cons_self) (paired_of r fun x hx => h x (List.mem_cons_of_mem _ hx))
/-- the layers under way -/
structure Lay (H0 H : Hp) (p cc nl L : Addr) (fl ns : List Str) (lay : List (Addr × List V)) : Prop where
  top : H L = some (.lst (lay.map fun e => .ref e.1))
  nd : (lay.map (·.1)).Nodup
  Lp : L ≠ p
  ok : ∀ e ∈ lay, e.1 ≠ p ∧ e.1 ≠ cc ∧ e.1 ≠ nl ∧ e.1 ≠ L ∧ Nw H0 e.1 ∧ H e.1 = some (.lst e.2) ∧ ∀ b ∈ e.2, Bnd H b fl ns
theorem Lay.gp {H0 H H' : Hp} {p cc nl L : Addr} {fl ns : List Str} {lay : List (Addr × List V)} {xs : List V} (Y : Lay H0 H p cc nl L fl ns lay) (g : GeP p H H') (hp : H p = some (.lst xs)) : Lay H0 H' p cc nl L fl ns lay :=
  ⟨g.1 L _ Y.Lp Y.top (fun ps z => by cases z), Y.nd, Y.Lp, fun e he => let ⟨h1, h2, h3, h4, h5, h6, h7⟩ := Y.ok e he; ⟨h1, h2, h3, h4, h5, g.1 e.1 _ h1 h6 (fun ps z => by cases z), fun b hb => (h7 b hb).gp g hp⟩⟩
theorem Lay.bump {H0 H : Hp} {p cc nl L : Addr} {fl ns : List Str} {lay : List (Addr × List V)} {e : Addr × List V} {v : V} (Y : Lay H0 H p cc nl L fl ns lay) (he : e ∈ lay) (hv : Bnd H v fl ns) : Lay H0 (upd H e.1 (.lst (e.2 ++ [v]))) p cc nl L fl ns (bump lay e.1 v) := by
  obtain ⟨h1, h2, h3, h4, h5, h6, h7⟩ := Y.ok e he
  have g : GeP e.1 H (upd H e.1 (.lst (e.2 ++ [v]))) := GeP.set h6
  refine ⟨?_, by rw [bump_fst]; exact Y.nd, Y.Lp, fun x hx => ?_⟩
  · rw [upd_ne h4.symm, Y.top]
    have z : ∀ l : List (Addr × List V), (l.map fun e => V.ref e.1) = (l.map (·.1)).map V.ref := fun l => by rw [List.map_map]; rfl
    rw [z, z, bump_fst]
  · obtain ⟨y, hy, rfl⟩ := List.mem_map.mp hx
    obtain ⟨k1, k2, k3, k4, k5, k6, k7⟩ := Y.ok y hy
    by_cases z : y.1 = e.1
    · rw [if_pos z]
      have ey : y.2 = e.2 := by
        rw [z, h6] at k6
        exact (HO.lst.inj (Option.some.inj k6)).symm
      refine ⟨k1, k2, k3, k4, k5, ?_, fun b hb => ?_⟩
      · show upd H e.1 _ y.1 = some (.lst (y.2 ++ [v]))
        rw [z, ey]
        exact upd_same
      · rcases List.mem_append.mp hb with hb | hb
        · exact (k7 b hb).gp g h6
        · rw [List.mem_singleton.mp hb]
          exact hv.gp g h6
    · rw [if_neg z]
      exact ⟨k1, k2, k3, k4, k5, by rw [upd_ne z]; exact k6, fun b hb => (k7 b hb).gp g h6⟩
theorem Lay.add {H0 H : Hp} {p cc nl L b : Addr} {fl ns : List Str} {lay : List (Addr × List V)} (Y : Lay H0 H p cc nl L fl ns lay) (hb : H b = none) (b1 : b ≠ p) (b2 : b ≠ cc) (b3 : b ≠ nl) (b4 : Nw H0 b) : Lay H0 (upd (upd H b (.lst [])) L (.lst ((lay.map fun e => .ref e.1) ++ [.ref b]))) p cc nl L fl ns (lay ++ [(b, [])]) := by
  have bL : b ≠ L := (ne_of_none Y.top hb).symm
  have g1 : Ge H (upd H b (.lst [])) := Ge.new hb
  have hL : upd H b (.lst []) L = some (.lst (lay.map fun e => .ref e.1)) := g1.1 _ _ Y.top (fun ps z => by cases z)
  have g2 : GeP L (upd H b (.lst [])) (upd (upd H b (.lst [])) L (.lst ((lay.map fun e => .ref e.1) ++ [.ref b]))) := GeP.set hL
  refine ⟨?_, ?_, Y.Lp, fun e he => ?_⟩
  · rw [upd_same, List.map_append]
    rfl
  · rw [List.map_append, List.nodup_append]
    refine ⟨Y.nd, by simp, fun x hx y hy z => ?_⟩
    simp at hy
    subst z
    subst hy
    obtain ⟨e, he, e1⟩ := List.mem_map.mp hx
    have h6 := (Y.ok e he).2.2.2.2.2.1
    rw [e1, hb] at h6
    cases h6
  · rcases List.mem_append.mp he with he | he
    · obtain ⟨k1, k2, k3, k4, k5, k6, k7⟩ := Y.ok e he
      exact ⟨k1, k2, k3, k4, k5, g2.1 _ _ k4 (g1.1 _ _ k6 (fun ps z => by cases z)) (fun ps z => by cases z), fun v hv => ((k7 v hv).ge g1).gp g2 hL⟩
    · rw [List.mem_singleton.mp he]
      exact ⟨b1, b2, b3, bL, b4, g2.1 _ _ bL upd_same (fun ps z => by cases z), fun v hv => by cases hv⟩
theorem mem_cnt : ∀ {lay : List (Addr × List V)} {e : Addr × List V}, e ∈ lay → e.2.length ≤ cnt lay
  | [], _, h => by cases h
  | x :: r, e, h => by
    show e.2.length ≤ ((x :: r).map fun e => e.2.length).sum
    rw [List.map_cons, List.sum_cons]
    rcases List.mem_cons.mp h with h | h
    · rw [h]
      omega
    · have ih := mem_cnt h
      unfold cnt at ih
      omega
theorem Lay.updO {H0 H : Hp} {p cc nl L D : Addr} {fl ns : List Str} {lay : List (Addr × List V)} {ys zs : List V} (Y : Lay H0 H p cc nl L fl ns lay) (hD : H D = some (.lst ys)) (h1 : D ≠ L) (h2 : ∀ e ∈ lay, e.1 ≠ D) : Lay H0 (upd H D (.lst zs)) p cc nl L fl ns lay :=
  ⟨by rw [upd_ne h1.symm]; exact Y.top, Y.nd, Y.Lp, fun e he => let ⟨k1, k2, k3, k4, k5, k6, k7⟩ := Y.ok e he; ⟨k1, k2, k3, k4, k5, by rw [upd_ne (h2 e he)]; exact k6, fun b hb => (k7 b hb).gp (GeP.set (p := D) hD) hD⟩⟩
theorem nd_flags : FLAGS.Nodup := by decide +kernel
theorem nd_names : NAMES.Nodup := by decide +kernel
def subs {α : Type} : List α → List (List α)
  | [] => [[]]
  | x :: r => subs r ++ (subs r).map (x :: ·)
theorem mem_subs {α : Type} {ys xs : List α} (h : ys.Sublist xs) : ys ∈ subs xs := by
  induction h with
  | slnil => simp [subs]
  | cons a _ ih => exact List.mem_append_left _ ih
  | cons_cons a _ ih => exact List.mem_append_right _ (List.mem_map.mpr ⟨_, ih, rfl⟩)
theorem walk_list_tup {K : PySem.W.Frag} {a : Addr} (xs : List Str) : Walk (Itt K a) xs.length (fun H => SqT K H a (xs.map V.str)) (YAt (xs.map V.str)) := by
  have h := walk_tup (K := K) (a := a) (xs := xs.map V.str)
  rw [List.length_map] at h
  exact h
theorem names_shaped : ∀ ns ∈ subs NAMES, SeqAt.shaped (.list (ns.map PyData.str)) = true := by decide +kernel
abbrev nLMap : List Str := ["_law_pen", "_law_most", "_law_flags", "_law_outside", "_law_names", "_law_commands", "_law_letters", "_law_turn", "_law_layers", "_law_wait", "_law_flag", "_law_name", "_law_layer"]
end
end Pr
set_option maxRecDepth 100000
set_option maxHeartbeats 2000000
namespace Pr
open PySem PySem.Spec PyProof.Rows L2 GxR Gx Rp Dl Pd Tx
mutual
/-- a bound of the text that repr gives -/
def wgt : PyData → Nat
  | .none => 5
  | .bool _ => 5
  | .int _ => 5
  | .str x => 10 * x.length + 2
  | .list xs => wgtAll xs + 4
  | .tuple xs => wgtAll xs + 4
  | .dict kvs => wgtKv kvs + 4
def wgtAll : List PyData → Nat
  | [] => 0
  | x :: xs => wgt x + 2 + wgtAll xs
def wgtKv : List (PyData × PyData) → Nat
  | [] => 0
  | (k, v) :: r => wgt k + wgt v + 4 + wgtKv r
end
mutual
/-- short ints, plain signs, few items -/
def okD : PyData → Bool
  | .none => true
  | .bool _ => true
  | .int i => decide (0 ≤ i) && decide (i ≤ 1000)
  | .str x => decide (x.length ≤ 100) && x.cps.toList.all (fun c => decide (c < 128))
  | .list xs => decide (xs.length ≤ 100) && okAll xs
  | .tuple xs => decide (xs.length ≤ 100) && okAll xs
  | .dict kvs => decide (kvs.length ≤ 100) && okKv kvs
def okAll : List PyData → Bool
  | [] => true
  | x :: xs => okD x && okAll xs
def okKv : List (PyData × PyData) → Bool
  | [] => true
  | (k, v) :: r => okD k && okD v && okKv r
end
theorem int_len : ∀ i : Fin 1001, ((toString (i.val : Int) : String) : Str).length ≤ 5 := by decide +kernel
theorem strLen_join {ts : List Str} {n : Nat} (h : piled ts ≤ n) : (Str.join ", " ts).length ≤ n := by
  by_cases e : ts = []
  · subst e
    exact Nat.zero_le _
  · have := join_length_add ts e
    omega
theorem listText_le (ts : List Str) : (listText ts).length ≤ piled ts + 4 := by
  cases ts with
  | nil => exact (by decide : (listText []).length ≤ 0 + 4)
  | cons t r =>
    have h := textFrom_length_pos r 1 (("[" : Str) ++ (if (0 : Nat) > 0 then ", " else "" : String) ++ t) (Nat.succ_pos 0)
    have e : ((("[" : Str) ++ (if (0 : Nat) > 0 then ", " else "" : String) ++ t)).length = 1 + t.length := by
      rw [strLen_append, strLen_append]; rfl
    have hX : (listText (t :: r)).length = (textFrom 1 (("[" : Str) ++ (if (0 : Nat) > 0 then ", " else "" : String) ++ t) r).length + 1 := by
      show (textFrom 0 "[" (t :: r) ++ "]").length = _
      rw [strLen_append]; rfl
    rw [hX, h, e, piled_cons]; omega
theorem tupleText_le (ts : List Str) : (tupleText ts).length ≤ piled ts + 4 := by
  unfold tupleText
  rw [strLen_append, strLen_append]
  have e1 : ((("(" : String) : Str)).length = 1 := rfl
  have e3 : (((if ts.length == 1 then ",)" else ")" : String) : Str)).length ≤ 2 := by split <;> decide
  have := strLen_join (Nat.le_refl (piled ts))
  omega
theorem dictText_le (ts : List Str) : (dictText ts).length ≤ piled ts + 4 := by
  unfold dictText
  rw [strLen_append, strLen_append]
  have e1 : ((("{" : String) : Str)).length = 1 := rfl
  have e2 : ((("}" : String) : Str)).length = 1 := rfl
  have := strLen_join (Nat.le_refl (piled ts))
  omega
mutual
theorem shown_le : ∀ d : PyData, okD d = true → d.shown.length ≤ wgt d ∧ d.showable = true ∧ small d = true
  | .none, _ => ⟨by decide, rfl, rfl⟩
  | .bool b, _ => by cases b <;> exact ⟨by decide, rfl, rfl⟩
  | .int i, h => by
    have h' : (decide (0 ≤ i) && decide (i ≤ 1000)) = true := h
    rw [Bool.and_eq_true] at h'
    have h0 := of_decide_eq_true h'.1
    have h1 := of_decide_eq_true h'.2
    have e : ((⟨i.toNat, by omega⟩ : Fin 1001).val : Int) = i := by show (i.toNat : Int) = i; omega
    have z := int_len ⟨i.toNat, by omega⟩
    rw [e] at z
    refine ⟨z, ?_, rfl⟩
    show decide (i.natAbs.log2 < 1920) = true
    have : i.natAbs.log2 ≤ i.natAbs := Nat.log2_le_self _
    exact decide_eq_true (by omega)
  | .str x, h => by
    have h' : (decide (x.length ≤ 100) && x.cps.toList.all (fun c => decide (c < 128))) = true := h
    rw [Bool.and_eq_true] at h'
    have h0 := of_decide_eq_true h'.1
    refine ⟨StrLaws.reprText_len x fun c hc => Nat.lt_trans (of_decide_eq_true (List.all_eq_true.mp h'.2 c hc)) (by decide), rfl, ?_⟩
    show decide (x.length ≤ 100000) = true
    exact decide_eq_true (by omega)
  | .list xs, h => by
    have h' : (decide (xs.length ≤ 100) && okAll xs) = true := by simpa only [okD] using h
    rw [Bool.and_eq_true] at h'
    have h0 := of_decide_eq_true h'.1
    obtain ⟨a, b, c⟩ := shownAll_le xs h'.2
    refine ⟨?_, by simpa only [PyData.showable] using b, ?_⟩
    · have := listText_le (PyData.shownAll xs)
      simp only [PyData.shown, wgt]
      omega
    · simp only [small, c, Bool.and_true]
      exact decide_eq_true (by omega)
  | .tuple xs, h => by
    have h' : (decide (xs.length ≤ 100) && okAll xs) = true := by simpa only [okD] using h
    rw [Bool.and_eq_true] at h'
    have h0 := of_decide_eq_true h'.1
    obtain ⟨a, b, c⟩ := shownAll_le xs h'.2
    refine ⟨?_, by simpa only [PyData.showable] using b, ?_⟩
    · have := tupleText_le (PyData.shownAll xs)
      simp only [PyData.shown, wgt]
      omega
    · simp only [small, c, Bool.and_true]
      exact decide_eq_true (by omega)
  | .dict kvs, h => by
    have h' : (decide (kvs.length ≤ 100) && okKv kvs) = true := by simpa only [okD] using h
    rw [Bool.and_eq_true] at h'
    have h0 := of_decide_eq_true h'.1
    obtain ⟨a, b, c⟩ := shownKv_le kvs h'.2
    refine ⟨?_, by simpa only [PyData.showable] using b, ?_⟩
    · have := dictText_le (PyData.shownKv kvs)
      simp only [PyData.shown, wgt]
      omega
    · simp only [small, c, Bool.and_true]
      exact decide_eq_true (by omega)
theorem shownAll_le : ∀ xs : List PyData, okAll xs = true → piled (PyData.shownAll xs) ≤ wgtAll xs ∧ PyData.showableAll xs = true ∧ smallAll xs = true
  | [], _ => ⟨by decide, rfl, rfl⟩
  | x :: xs, h => by
    have h' : (okD x && okAll xs) = true := by simpa only [okAll] using h
    rw [Bool.and_eq_true] at h'
    obtain ⟨a, b, c⟩ := shown_le x h'.1
    obtain ⟨a', b', c'⟩ := shownAll_le xs h'.2
    refine ⟨?_, by simp only [PyData.showableAll, b, b', Bool.and_self], by simp only [smallAll, c, c', Bool.and_self]⟩
    simp only [PyData.shownAll, wgtAll, piled_cons]
    omega
theorem shownKv_le : ∀ kvs : List (PyData × PyData), okKv kvs = true → piled (PyData.shownKv kvs) ≤ wgtKv kvs ∧ PyData.showableKv kvs = true ∧ smallKv kvs = true
  | [], _ => ⟨by decide, rfl, rfl⟩
  | (k, v) :: r, h => by
    have h' : (okD k && okD v && okKv r) = true := by simpa only [okKv] using h
    rw [Bool.and_eq_true, Bool.and_eq_true] at h'
    obtain ⟨a, b, c⟩ := shown_le k h'.1.1
    obtain ⟨a1, b1, c1⟩ := shown_le v h'.1.2
    obtain ⟨a', b', c'⟩ := shownKv_le r h'.2
    refine ⟨?_, by simp only [PyData.showableKv, b, b1, b', Bool.and_self], by simp only [smallKv, c, c1, c', Bool.and_self]⟩
    have e : (((": " : String) : Str)).length = 2 := rfl
    simp only [PyData.shownKv, wgtKv, piled_cons, strLen_append, e]
    omega
end
end Pr
set_option maxRecDepth 100000
set_option maxHeartbeats 2000000
namespace Pr
open PySem PySem.Spec PyProof.Rows L2 GxR Gx Rp Dl Pd Tx
theorem ok_flags : ∀ fl ∈ subs FLAGS, areFlags (.tuple (fl.map .str)) = true ∧ fl.length ≤ 3 := by decide +kernel
theorem ok_outside : ∀ fl ∈ subs FLAGS, ∀ ol ∈ subs fl, areOutside (fl.map .str) (.tuple (ol.map .str)) = true ∧ ol.length ≤ 3 := by decide +kernel
theorem ok_names : ∀ n ∈ NAMES, isName (.str n) = true ∧ okD (.str n) = true ∧ n.length ≤ 8 := by decide +kernel
theorem ok_fnames : ∀ n ∈ FLAGS, okD (.str n) = true ∧ n.length ≤ 8 := by decide +kernel
theorem isS_self (x : Str) : isS x (.str x) = true := by
  unfold isS
  exact beq_self_eq_true x
theorem memS_of {fl : List Str} {f : Str} (h : f ∈ fl) : memS (fl.map .str) (.str f) = true := List.any_eq_true.mpr ⟨.str f, List.mem_map.mpr ⟨f, h, rfl⟩, isS_self f⟩
section
variable {K : PySem.W.Frag} {H : Hp}
theorem da_strs : ∀ xs : List Str, DaAll K H (xs.map V.str) (xs.map PyData.str)
  | [] => .nil
  | x :: r => .cons (.str x) (da_strs r)
/-- settings as data -/
def EffD (ds : List (PyData × PyData)) (fl : List Str) : Prop := (∀ p ∈ ds, ∃ f b, p = (PyData.str f, PyData.bool b) ∧ f ∈ fl) ∧ ds.length ≤ fl.length
theorem eff_kv {fl : List Str} : ∀ kvs : List (Key × V), (∀ kv ∈ kvs, ∃ f b, kv = (.inr f, .bl b) ∧ f ∈ fl) → ∃ ds, DaKv K H kvs ds ∧ (∀ p ∈ ds, ∃ f b, p = (PyData.str f, PyData.bool b) ∧ f ∈ fl) ∧ ds.length = kvs.length
  | [], _ => ⟨[], .nil, (fun p hp => by cases hp), rfl⟩
  | kv :: r, h => by
    obtain ⟨f, b, rfl, hf⟩ := h kv List.mem_cons_self
    obtain ⟨ds, h1, h2, h3⟩ := eff_kv r fun x hx => h x (List.mem_cons_of_mem _ hx)
    refine ⟨(.str f, .bool b) :: ds, .cons (k := .inr f) (.bl b) h1, fun p hp => ?_, by simp [h3]⟩
    rcases List.mem_cons.mp hp with rfl | hp
    · exact ⟨f, b, rfl, hf⟩
    · exact h2 p hp
theorem eff_da {v : V} {fl : List Str} (e : Eff H v fl) : ∃ ds, Da K H v (.dict ds) ∧ EffD ds fl := by
  obtain ⟨d, kvs, rfl, h1, h2, h3, h4⟩ := e
  obtain ⟨ds, k1, k2, k3⟩ := eff_kv (K := K) (H := H) kvs h3
  exact ⟨ds, .dct (Or.inl h1) h2 k1, k2, by omega⟩
theorem effd_set {ds : List (PyData × PyData)} {fl : List Str} (e : EffD ds fl) : areSettings (fl.map .str) (.dict ds) = true := by
  refine List.all_eq_true.mpr fun p hp => ?_
  obtain ⟨f, b, rfl, hf⟩ := e.1 p hp
  rw [Bool.and_eq_true]
  exact ⟨memS_of hf, rfl⟩
/-- what is bounded -/
def Fit (d : PyData) (wt dp : Nat) : Prop := okD d = true ∧ noL d = true ∧ wgt d ≤ wt ∧ d.depth ≤ dp
theorem fit_kv {B D : Nat} : ∀ ds : List (PyData × PyData), (∀ p ∈ ds, (okD p.1 = true ∧ wgt p.1 ≤ 100 ∧ p.1.depth = 0) ∧ Fit p.2 B D) → okKv ds = true ∧ noLKv ds = true ∧ wgtKv ds ≤ ds.length * (B + 104) ∧ PyData.depthKv ds ≤ D
  | [], _ => ⟨rfl, rfl, by simp [wgtKv], by simp [PyData.depthKv]⟩
  | (k, v) :: r, h => by
    obtain ⟨⟨a1, a2, a3⟩, b1, b2, b3, b4⟩ := h (k, v) List.mem_cons_self
    obtain ⟨c1, c2, c3, c4⟩ := fit_kv r fun p hp => h p (List.mem_cons_of_mem _ hp)
    change okD k = true at a1
    change okD v = true at b1
    change noL v = true at b2
    change wgt k ≤ 100 at a2
    change wgt v ≤ B at b3
    change k.depth = 0 at a3
    change v.depth ≤ D at b4
    refine ⟨by simp only [okKv, a1, b1, c1, Bool.and_self], by simp only [noLKv, b2, c2, Bool.and_self], ?_, ?_⟩
    · have e : (r.length + 1) * (B + 104) = r.length * (B + 104) + (B + 104) := by rw [Nat.add_mul, Nat.one_mul]
      simp only [wgtKv, List.length_cons]
      omega
    · simp only [PyData.depthKv, a3]
      omega
theorem fit_all {B D : Nat} : ∀ ds : List PyData, (∀ d ∈ ds, Fit d B D) → okAll ds = true ∧ noLAll ds = true ∧ wgtAll ds ≤ ds.length * (B + 2) ∧ PyData.depthAll ds ≤ D
  | [], _ => ⟨rfl, rfl, by simp [wgtAll], by simp [PyData.depthAll]⟩
  | v :: r, h => by
    obtain ⟨b1, b2, b3, b4⟩ := h v List.mem_cons_self
    obtain ⟨c1, c2, c3, c4⟩ := fit_all r fun p hp => h p (List.mem_cons_of_mem _ hp)
    refine ⟨by simp only [okAll, b1, c1, Bool.and_self], by simp only [noLAll, b2, c2, Bool.and_self], ?_, ?_⟩
    · have e : (r.length + 1) * (B + 2) = r.length * (B + 2) + (B + 2) := by rw [Nat.add_mul, Nat.one_mul]
      simp only [wgtAll, List.length_cons]
      omega
    · simp only [PyData.depthAll]
      omega
theorem fit_tuple {ds : List PyData} {B D n : Nat} (h : ∀ d ∈ ds, Fit d B D) (hn : ds.length ≤ n) (h100 : n ≤ 100) : Fit (.tuple ds) (n * (B + 2) + 4) (D + 1) := by
  obtain ⟨a, b, c, d⟩ := fit_all ds h
  have e : ds.length * (B + 2) ≤ n * (B + 2) := Nat.mul_le_mul_right _ hn
  refine ⟨?_, by simp only [noL, b], ?_, ?_⟩
  · simp only [okD, a, Bool.and_true]
    exact decide_eq_true (by omega)
  · simp only [wgt]
    omega
  · simp only [PyData.depth]
    omega
theorem fit_dict {ds : List (PyData × PyData)} {B D n : Nat} (h : ∀ p ∈ ds, (okD p.1 = true ∧ wgt p.1 ≤ 100 ∧ p.1.depth = 0) ∧ Fit p.2 B D) (hn : ds.length ≤ n) (h100 : n ≤ 100) : Fit (.dict ds) (n * (B + 104) + 4) (D + 1) := by
  obtain ⟨a, b, c, d⟩ := fit_kv ds h
  have e : ds.length * (B + 104) ≤ n * (B + 104) := Nat.mul_le_mul_right _ hn
  refine ⟨?_, by simp only [noL, b], ?_, ?_⟩
  · simp only [okD, a, Bool.and_true]
    exact decide_eq_true (by omega)
  · simp only [wgt]
    omega
  · simp only [PyData.depth]
    omega
theorem Fit.mono {d : PyData} {a b c e : Nat} (h : Fit d a b) (h1 : a ≤ c) (h2 : b ≤ e) : Fit d c e := ⟨h.1, h.2.1, Nat.le_trans h.2.2.1 h1, Nat.le_trans h.2.2.2 h2⟩
theorem fit_str {x : Str} (h : okD (.str x) = true) (hx : x.length ≤ 8) : Fit (.str x) 100 0 := ⟨h, rfl, by simp only [wgt]; omega, Nat.le_refl _⟩
theorem fit_bool (b : Bool) : Fit (.bool b) 100 0 := ⟨rfl, rfl, by simp only [wgt]; omega, Nat.le_refl _⟩
theorem fit_none : Fit .none 100 0 := ⟨rfl, rfl, by simp only [wgt]; omega, Nat.le_refl _⟩
theorem effd_fit {ds : List (PyData × PyData)} {fl : List Str} (e : EffD ds fl) (hf : fl.Sublist FLAGS) : Fit (.dict ds) 1000 1 := by
  have l3 : fl.length ≤ 3 := hf.length_le
  refine (fit_dict (B := 100) (D := 0) (n := 3) (fun p hp => ?_) (Nat.le_trans e.2 l3) (by decide)).mono (by decide) (by decide)
  obtain ⟨f, b, rfl, hm⟩ := e.1 p hp
  have z := ok_fnames f (hf.subset hm)
  exact ⟨⟨z.1, (fit_str z.1 z.2).2.2.1, rfl⟩, fit_bool b⟩
def BndD (d : PyData) (fl ns : List Str) : Prop := ∃ x ds m, d = .tuple [.str x, .dict ds, m] ∧ 1 ≤ x.length ∧ x.length ≤ 4 ∧ letters x = true ∧ EffD ds fl ∧ (m = .none ∨ ∃ n ∈ ns, m = .str n)
theorem bnd_da {v : V} {fl ns : List Str} (e : Bnd H v fl ns) : ∃ d, Da K H v d ∧ BndD d fl ns := by
  obtain ⟨b, x, c, m, rfl, h1, x1, x4, xl, ef, hm⟩ := e
  obtain ⟨ds, k1, k2⟩ := eff_da (K := K) ef
  rcases hm with rfl | ⟨n, hn, rfl⟩
  · exact ⟨_, .tup (Or.inl h1) (.cons (.str x) (.cons k1 (.cons .non .nil))), x, ds, .none, rfl, x1, x4, xl, k2, Or.inl rfl⟩
  · exact ⟨_, .tup (Or.inl h1) (.cons (.str x) (.cons k1 (.cons (.str n) .nil))), x, ds, .str n, rfl, x1, x4, xl, k2, Or.inr ⟨n, hn, rfl⟩⟩
theorem letters_ok {x : Str} (h : letters x = true) (hl : x.length ≤ 8) : okD (.str x) = true := by
  show (decide (x.length ≤ 100) && x.cps.toList.all (fun c => decide (c < 128))) = true
  rw [Bool.and_eq_true]
  refine ⟨decide_eq_true (by omega), List.all_eq_true.mpr fun c hc => ?_⟩
  have z := List.all_eq_true.mp h c hc
  rw [Bool.and_eq_true] at z
  have := of_decide_eq_true z.2
  exact decide_eq_true (by omega)
theorem bndd_fit {d : PyData} {fl ns : List Str} (e : BndD d fl ns) (hf : fl.Sublist FLAGS) (hn : ns.Sublist NAMES) : Fit d 4000 2 := by
  obtain ⟨x, ds, m, rfl, x1, x4, xl, ef, hm⟩ := e
  refine (fit_tuple (B := 1000) (D := 1) (n := 3) (fun d hd => ?_) (Nat.le_refl _) (by decide)).mono (by decide) (by decide)
  simp only [List.mem_cons, List.not_mem_nil, or_false] at hd
  rcases hd with rfl | rfl | rfl
  · exact (fit_str (letters_ok xl (by omega)) (by omega)).mono (by decide) (by decide)
  · exact effd_fit ef hf
  · rcases hm with rfl | ⟨n, hn', rfl⟩
    · exact fit_none.mono (by decide) (by decide)
    · have z := ok_names n (hn.subset hn')
      exact (fit_str z.2.1 z.2.2).mono (by decide) (by decide)
theorem bndd_is {d : PyData} {fl ns : List Str} {cs : List (PyData × PyData)} (e : BndD d fl ns) (hn : ns.Sublist NAMES) (hc : ∀ n ∈ ns, ∃ v, (PyData.str n, v) ∈ cs) : isBinding (fl.map .str) cs d = true := by
  obtain ⟨x, ds, m, rfl, x1, x4, xl, ef, hm⟩ := e
  show (isKeys (.str x) && areSettings (fl.map .str) (.dict ds) && cmdOk cs m) = true
  rw [effd_set ef]
  have e1 : isKeys (.str x) = true := by
    show (decide (1 ≤ (x.length : Int)) && decide ((x.length : Int) ≤ 4) && letters x) = true
    rw [xl, decide_eq_true (by omega), decide_eq_true (by omega)]
    rfl
  rw [e1]
  rcases hm with rfl | ⟨n, hn', rfl⟩
  · rfl
  · show (true && true && (isName (.str n) && memC cs (.str n))) = true
    rw [(ok_names n (hn.subset hn')).1]
    obtain ⟨v, hv⟩ := hc n hn'
    have z : memC cs (.str n) = true := List.any_eq_true.mpr ⟨_, hv, isS_self n⟩
    rw [z]
    rfl
theorem bnds_da {fl ns : List Str} : ∀ bs : List V, (∀ b ∈ bs, Bnd H b fl ns) → ∃ ds, DaAll K H bs ds ∧ (∀ d ∈ ds, BndD d fl ns) ∧ ds.length = bs.length
  | [], _ => ⟨[], .nil, (fun p hp => by cases hp), rfl⟩
  | b :: r, h => by
    obtain ⟨d, h1, h2⟩ := bnd_da (K := K) (h b List.mem_cons_self)
    obtain ⟨ds, k1, k2, k3⟩ := bnds_da r fun x hx => h x (List.mem_cons_of_mem _ hx)
    refine ⟨d :: ds, .cons h1 k1, fun p hp => ?_, by simp [k3]⟩
    rcases List.mem_cons.mp hp with rfl | hp
    · exact h2
    · exact k2 p hp
theorem lays_da {fl ns : List Str} : ∀ ks : List (Addr × List V), (∀ e ∈ ks, H e.1 = some (.tup e.2) ∧ ∀ b ∈ e.2, Bnd H b fl ns) → ∃ ls, DaAll K H (ks.map fun e => .ref e.1) ls ∧ (∀ l ∈ ls, ∃ ds, l = PyData.tuple ds ∧ (∀ d ∈ ds, BndD d fl ns) ∧ ds.length ≤ cnt ks) ∧ ls.length = ks.length ∧ (ls.map lenT).sum = cnt ks
  | [], _ => ⟨[], .nil, (fun p hp => by cases hp), rfl, rfl⟩
  | e :: r, h => by
    obtain ⟨h1, h2⟩ := h e List.mem_cons_self
    obtain ⟨ds, a1, a2, a3⟩ := bnds_da (K := K) e.2 h2
    obtain ⟨ls, k1, k2, k3, k4⟩ := lays_da r fun x hx => h x (List.mem_cons_of_mem _ hx)
    have ec : cnt (e :: r) = e.2.length + cnt r := by
      unfold cnt
      rw [List.map_cons, List.sum_cons]
    refine ⟨.tuple ds :: ls, .cons (.tup (Or.inl h1) a1) k1, fun p hp => ?_, by simp [k3], ?_⟩
    · rcases List.mem_cons.mp hp with rfl | hp
      · exact ⟨ds, rfl, a2, by omega⟩
      · obtain ⟨ds', q1, q2, q3⟩ := k2 p hp
        exact ⟨ds', q1, q2, by omega⟩
    · rw [List.map_cons, List.sum_cons, k4, ec]
      show ds.length + _ = _
      omega
theorem cmd_kv {ns fl : List Str} : ∀ kvs : List (Key × V), (∀ kv ∈ kvs, ∃ n v, kv = (.inr n, v) ∧ n ∈ ns ∧ Eff H v fl) → ∃ cs, DaKv K H kvs cs ∧ (∀ p ∈ cs, ∃ n ds, p = (PyData.str n, PyData.dict ds) ∧ n ∈ ns ∧ EffD ds fl) ∧ cs.length = kvs.length ∧ ∀ n v, (Sum.inr n, v) ∈ kvs → ∃ d, (PyData.str n, d) ∈ cs
  | [], _ => ⟨[], .nil, (fun p hp => by cases hp), rfl, (fun n v hp => by cases hp)⟩
  | kv :: r, h => by
    obtain ⟨n, v, rfl, hn, ef⟩ := h kv List.mem_cons_self
    obtain ⟨ds, a1, a2⟩ := eff_da (K := K) ef
    obtain ⟨cs, h1, h2, h3, h4⟩ := cmd_kv r fun x hx => h x (List.mem_cons_of_mem _ hx)
    refine ⟨(.str n, .dict ds) :: cs, .cons (k := .inr n) a1 h1, fun p hp => ?_, by simp [h3], fun m u hm => ?_⟩
    · rcases List.mem_cons.mp hp with rfl | hp
      · exact ⟨n, ds, rfl, hn, a2⟩
      · exact h2 p hp
    · rcases List.mem_cons.mp hm with e | hm
      · cases e
        exact ⟨_, List.mem_cons_self⟩
      · obtain ⟨d, hd⟩ := h4 m u hm
        exact ⟨d, List.mem_cons_of_mem _ hd⟩
/-- a keymap as data -/
def MapD (d : PyData) : Prop := isMap d = true ∧ Fit d 2000000 10
theorem map_da {v : V} (e : MapH H v) : ∃ d, Da K H v d ∧ MapD d := by
  obtain ⟨m, t, o, cd, ly, fl, ol, ns, ks, i, rfl, hm, ht, ho, s1, s2, s3, ⟨kvs, c1, c2, c3, c4, c5⟩, i1, i2, hly, k1, k4, kc, hk⟩ := e
  obtain ⟨cs, d1, d2, d3, d4⟩ := cmd_kv (K := K) kvs c3
  obtain ⟨ls, l1, l2, l3, l4⟩ := lays_da (K := K) ks hk
  have f1 := ok_flags fl (mem_subs s1)
  have f2 := ok_outside fl (mem_subs s1) ol (mem_subs s2)
  have hc : ∀ n ∈ ns, ∃ v, (PyData.str n, v) ∈ cs := fun n hn => by
    obtain ⟨v, hv⟩ := c4 n hn
    exact d4 n v hv
  refine ⟨.tuple [.tuple (fl.map .str), .tuple (ol.map .str), .dict cs, .tuple ls, .int i], .tup (Or.inl hm) (.cons (.tup ht (da_strs fl)) (.cons (.tup ho (da_strs ol)) (.cons (.dct (Or.inl c1) c2 d1) (.cons (.tup (Or.inl hly) l1) (.cons (.int i) .nil))))), ?_, ?_⟩
  · show (areFlags (.tuple (fl.map .str)) && areOutside (fl.map .str) (.tuple (ol.map .str)) && areCommands (fl.map .str) (.dict cs) && areLayers (fl.map .str) cs (.tuple ls) && isWithin 1 1000 (.int i)) = true
    have e1 : areCommands (fl.map .str) (.dict cs) = true := by
      show (decide (cs.length ≤ 8) && cs.all fun p => isName p.1 && areSettings (fl.map .str) p.2) = true
      rw [decide_eq_true (by omega), Bool.true_and]
      refine List.all_eq_true.mpr fun p hp => ?_
      obtain ⟨n, ds, rfl, hn, ef⟩ := d2 p hp
      rw [Bool.and_eq_true]
      exact ⟨(ok_names n (s3.subset hn)).1, effd_set ef⟩
    have e2 : areLayers (fl.map .str) cs (.tuple ls) = true := by
      show (decide (1 ≤ ls.length) && decide (ls.length ≤ 4) && ls.all isTup && decide ((ls.map lenT).sum ≤ 16) && ls.all fun l => (itemsT l).all (isBinding (fl.map .str) cs)) = true
      rw [decide_eq_true (by omega), decide_eq_true (by omega), decide_eq_true (by omega)]
      simp only [Bool.and_eq_true, Bool.and_true, Bool.true_and]
      refine ⟨List.all_eq_true.mpr fun l hl => ?_, List.all_eq_true.mpr fun l hl => ?_⟩
      · obtain ⟨ds, rfl, _⟩ := l2 l hl
        rfl
      · obtain ⟨ds, rfl, hb, _⟩ := l2 l hl
        exact List.all_eq_true.mpr fun d hd => bndd_is (hb d hd) s3 hc
    have e3 : isWithin 1 1000 (.int i) = true := by
      show (decide (1 ≤ i) && decide (i ≤ 1000)) = true
      rw [decide_eq_true i1, decide_eq_true i2]
      rfl
    rw [f1.1, f2.1, e1, e2, e3]
    rfl
  · refine (fit_tuple (B := 330000) (D := 4) (n := 5) (fun d hd => ?_) (Nat.le_refl _) (by decide)).mono (by decide) (by decide)
    have fstr : ∀ xs : List Str, xs.Sublist FLAGS → Fit (.tuple (xs.map PyData.str)) 400 1 := fun xs hx => by
      refine (fit_tuple (B := 100) (D := 0) (n := 3) (fun d hd => ?_) (by rw [List.length_map]; exact hx.length_le) (by decide)).mono (by decide) (by decide)
      obtain ⟨x, hx', rfl⟩ := List.mem_map.mp hd
      have z := ok_fnames x (hx.subset hx')
      exact fit_str z.1 z.2
    simp only [List.mem_cons, List.not_mem_nil, or_false] at hd
    rcases hd with rfl | rfl | rfl | rfl | rfl
    · exact (fstr fl s1).mono (by decide) (by decide)
    · exact (fstr ol (s2.trans s1)).mono (by decide) (by decide)
    · refine (fit_dict (B := 1000) (D := 1) (n := 5) (fun p hp => ?_) (by omega) (by decide)).mono (by decide) (by decide)
      obtain ⟨n, ds, rfl, hn, ef⟩ := d2 p hp
      have z := ok_names n (s3.subset hn)
      exact ⟨⟨z.2.1, (fit_str z.2.1 z.2.2).2.2.1, rfl⟩, effd_fit ef s1⟩
    · refine (fit_tuple (B := 65000) (D := 3) (n := 4) (fun l hl => ?_) (by omega) (by decide)).mono (by decide) (by decide)
      obtain ⟨ds, rfl, hb, hl⟩ := l2 l hl
      exact (fit_tuple (B := 4000) (D := 2) (n := 16) (fun d hd => bndd_fit (hb d hd) s1 s3) (by omega) (by decide)).mono (by decide) (by decide)
    · refine ⟨?_, rfl, by simp only [wgt]; omega, by simp only [PyData.depth]; omega⟩
      show (decide (0 ≤ i) && decide (i ≤ 1000)) = true
      rw [decide_eq_true (by omega), decide_eq_true i2]
      rfl
end
end Pr
set_option maxRecDepth 100000
set_option maxHeartbeats 2000000
namespace Pr
open PySem PySem.Spec PyProof.Rows L2 GxR Gx Rp Dl Pd Tx
section
variable {P : Program} {w : World} {K : PySem.W.Frag} {mg : Str → Option Value} {base : Heap} {T : List Addr}
theorem da_bools {H : Hp} : ∀ bs : List Bool, DaAll K H (bs.map V.bl) (bs.map PyData.bool)
  | [] => .nil
  | b :: r => .cons (.bl b) (da_bools r)
def spState : Sp := fun vs H Q _ => ∃ (p cc m t : Addr) (rest : List V) (a : Nat) (fl : List Str), vs = [.ref p, .ref m] ∧ PenAt H p cc a ∧ a + 3 ≤ 100000 ∧ H m = some (.tup (.ref t :: rest)) ∧ Rd H t (.tup (fl.map V.str)) ∧ fl.length ≤ 3 ∧ ∀ (H' : Hp) (s : Addr) (bs : List Bool), GeP p H H' → PenAt H' p cc (a + 3) → H' s = some (.tup (bs.map V.bl)) → bs.length = fl.length → Q (.ref s) H'
abbrev nLState : List Str := ["_law_pen", "_law_keymap", "_law_flag"]
theorem scLState : FnScope nLState ["_law_pen", "_law_keymap"] (defScope s_law_any_state) := ⟨rfl, rfl, rfl, by decide +kernel, rfl, by decide +kernel, by decide +kernel⟩
theorem ok_law_any_state {f c : Addr} {fd : FuncData} (F : FunC K "_law_any_state" s_law_any_state f fd c) (B : Bn mg) (D3 : DfP P w K mg base 2 "_law_take" ["_law_pen", "_law_many"] spTake) : FnOk P w K mg base CX0 3 f fd ["_law_pen", "_law_keymap"] spState := by
  refine F.ok scLState (fun vs H Q E ⟨_, _, _, _, _, _, _, h, _⟩ => by rw [h]; rfl) (fun A outer s H vs Q E hr h => ?_)
  obtain ⟨p, cc, m, t, rest, a, fl, rfl, hp, ha, hm, ht, h3, q⟩ := h
  refine ⟨_, pss_one (ps_ret (pe_callTy call_tuple_of rfl B.tuple bt_tuple (pa_cons (pe_lc (own := [("_law_flag", 2)]) (g := gName 2) (tt := tYes) rfl scLState.nd (pi_tup (pe_ix ix_tup (pv 1) pe_int (fun _ _ => rfl))) (blkOk_by (N := nLState) (sc := defScope s_law_any_state) (by decide +kernel)) (fun _ _ _ _ _ => pg_name (i := 2) scLState.nd rfl (Or.inl rfl))
        (fun _ _ _ _ _ => pts_nil) (fun _ _ _ _ _ => pe_cmp (pc_eqI (pcall D3 hr pass0 rfl (pa_cons (pv 0) (pa_cons pe_int pa_nil))) pe_int))) pa_nil))), ?_⟩
  obtain ⟨px, hpx⟩ := hp.lst
  refine ⟨_, rfl, m, _, _, _, rfl, rfl, SqT.of hm, atI_nat (j := 0) rfl, t, rfl, ⟨_, Or.inl ht⟩, fun D hD => ?_⟩
  have fD := hp.fresh hD
  refine lc_tup (xs := fl.map V.str) (fun k H' => k ≤ fl.length ∧ GeP p H H' ∧ PenAt H' p cc (a + k) ∧ ∃ bs : List Bool, H' D = some (.lst (bs.map V.bl)) ∧ bs.length = k)
    ⟨Nat.zero_le _, GeP.of (Ge.new hD), hp.ge (Ge.new hD), [], upd_same, rfl⟩ (fun k H' _ z => Or.inl (z.2.1.rd hpx (fun ps z => by cases z) (fun ys z => by cases z) ht)) ?_ ?_
  · rintro k x H1 hx ⟨hk, g, hp1, bs, k1, k2⟩
    have hk' : k < fl.length := by
      have := (List.getElem?_eq_some_iff.mp hx).1
      rwa [List.length_map] at this
    refine ⟨rfl, _, rfl, p, cc, 2, a + k, rfl, hp1, by omega, by decide, by decide, fun H2 r g2 hp2 r0 r1 => ⟨r, 1, rfl, rfl, ?_⟩⟩
    have kD := g2.1 D _ fD.1 k1 (fun ps z => by cases z)
    refine ⟨_, kD, ?_, hk', (g.trans g2).upd (Nw.none hD), hp2.upd fD.1 fD.2, bs ++ [r == 1], ?_, ?_⟩
    · rw [List.length_map, k2]
      exact Nat.lt_of_lt_of_le hk' (Nat.le_trans h3 (by decide))
    · rw [upd_same, List.map_append]
      rfl
    · rw [List.length_append, k2]
      rfl
  · rintro H1 ⟨hk, g, hp1, bs, k1, k2⟩
    rw [List.length_map] at hp1 k2
    refine ⟨D, _, rfl, Or.inl ⟨SqL.of k1, fun s hs => ?_⟩⟩
    exact q _ s bs (g.trans (GeP.of (Ge.new hs))) ((hp1.mono (by omega)).ge (Ge.new hs)) upd_same k2
/-! ### things -/
/-- what is judged: its data, and what is due -/
def TD (K : PySem.W.Frag) (n : Nat) (H : Hp) (x : V) (due : Bool) : Prop := ∃ d, Da K H x d ∧ okD d = true ∧ wgt d ≤ 100000 ∧ d.depth ≤ 20 ∧ (d.hasDict = true → noL d = true) ∧ fitsState n d = due
def Thing (K : PySem.W.Frag) (n : Nat) (H : Hp) (q : Addr) : Prop := ∃ x due, H q = some (.tup [x, .bl due]) ∧ TD K n H x due
theorem TD.ge {n : Nat} {H H' : Hp} {x : V} {due : Bool} (h : TD K n H x due) (g : Ge H H') : TD K n H' x due := let ⟨d, h1, h2⟩ := h; ⟨d, g.da h1, h2⟩
theorem Thing.ge {n : Nat} {H H' : Hp} {q : Addr} (h : Thing K n H q) (g : Ge H H') : Thing K n H' q := let ⟨x, due, h1, h2⟩ := h; ⟨x, due, g.1 q _ h1 (fun ps z => by cases z), h2.ge g⟩
/-- x, due -/
theorem rd_pair {n : Nat} {te : TE} {σ : L2.St} {H : Hp} {due : Bool} {R : VK} (h : ∀ Q : VK, (∀ x H1, Ge H H1 → TD K n H1 x due → Q x H1) → te σ H Q) (hR : ∀ q H2, Ge H H2 → Thing K n H2 q → R (.ref q) H2) : tTup (tCons te (tCons (tC (.bl due)) tNil)) σ H R :=
  h _ fun x H1 g t => ⟨(by decide : 2 ≤ sizeLine), fun q hq => hR q _ (g.trans (Ge.new hq)) ⟨x, due, upd_same, t.ge (Ge.new hq)⟩⟩
theorem rd_ths {n : Nat} {tp : TE} {tr : TA} {σ : L2.St} {H : Hp} {k : Nat} (h1 : ∀ R : VK, (∀ q H1, Ge H H1 → Thing K n H1 q → R (.ref q) H1) → tp σ H R)
    (h2 : ∀ H1, Ge H H1 → ∀ R : List V → Hp → Prop, (∀ (ts : List Addr) H2, ts.length = k → Ge H1 H2 → (∀ q ∈ ts, Thing K n H2 q) → R (ts.map V.ref) H2) → tr σ H1 R) :
    ∀ R : List V → Hp → Prop, (∀ (ts : List Addr) H2, ts.length = k + 1 → Ge H H2 → (∀ q ∈ ts, Thing K n H2 q) → R (ts.map V.ref) H2) → tCons tp tr σ H R := fun R hR =>
  h1 _ fun q H1 g1 t1 => h2 H1 g1 _ fun ts H2 hl g2 hts => hR (q :: ts) H2 (by simp [hl]) (g1.trans g2) fun x hx => by
    rcases List.mem_cons.mp hx with rfl | hx
    · exact t1.ge g2
    · exact hts x hx
theorem rd_ths0 {n : Nat} {σ : L2.St} {H : Hp} : ∀ R : List V → Hp → Prop, (∀ (ts : List Addr) H2, ts.length = 0 → Ge H H2 → (∀ q ∈ ts, Thing K n H2 q) → R (ts.map V.ref) H2) → tNil σ H R := fun R hR => hR [] H rfl (Ge.refl H) fun q hq => by cases hq
/-- t + u, all ways alike -/
theorem rd_cat {H : Hp} {a b : Addr} {xs ys : List V} {Q : VK} (ha : Rd H a (.tup xs)) (hb : Rd H b (.tup ys)) (hz : xs.length + ys.length ≤ sizeLine) (q : ∀ H' c, Ge H H' → Rd H' c (.tup (xs ++ ys)) → Q (.ref c) H') : rCatA K (.ref a) (.ref b) H Q := by
  refine ⟨a, b, xs, ys, rfl, rfl, Or.inl ha, Or.inl hb, hz, fun e => ?_, fun _ e => ?_, fun _ _ p hp => q _ p (Ge.new hp) (Or.inl upd_same)⟩
  · subst e
    exact q H b (Ge.refl H) hb
  · subst e
    exact q H a (Ge.refl H) (by rw [List.append_nil]; exact ha)
theorem rd_slA {H : Hp} {a : Addr} {xs : List V} {lo hi : Option Int} {Q : VK} (ha : Rd H a (.tup xs)) (q : ∀ H' c, Ge H H' → Rd H' c (.tup (cutV xs lo hi)) → Q (.ref c) H') : rSlA K (.ref a) lo hi H Q := by
  refine ⟨a, xs, rfl, Or.inl ha, fun e => ?_, fun _ p hp => q _ p (Ge.new hp) (Or.inl upd_same)⟩
  refine q H a (Ge.refl H) ?_
  unfold cutV
  rw [e.1, e.2]
  simpa using ha
/-- the heap without what stands at F -/
def wo (F : Addr) (H : Hp) : Hp := fun b => if b = F then none else H b
theorem wo_ge {F : Addr} {H : Hp} : Ge (wo F H) H := by
  refine ⟨fun a o e _ => ?_, fun a ⟨ps, e, t⟩ => ⟨ps, ?_, t⟩⟩ <;> unfold wo at e <;> by_cases z : a = F
  · rw [if_pos z] at e; cases e
  · rw [if_neg z] at e; exact e
  · rw [if_pos z] at e; cases e
  · rw [if_neg z] at e; exact e
theorem wo_ne {F b : Addr} {H : Hp} (h : b ≠ F) : wo F H b = H b := if_neg h
theorem wo_upd {F : Addr} {H : Hp} {o : HO} : wo F (upd H F o) = wo F H := by
  funext b
  unfold wo
  by_cases z : b = F
  · rw [if_pos z, if_pos z]
  · rw [if_neg z, if_neg z, upd_ne z]
theorem wo_mono {F : Addr} {H H' : Hp} {xs : List V} (g : Ge H H') (hF : H F = some (.lst xs)) : Ge (wo F H) (wo F H') := by
  refine ⟨fun a o e n => ?_, fun a ⟨ps, e, t⟩ => ?_⟩
  · by_cases z : a = F
    · unfold wo at e
      rw [if_pos z] at e
      cases e
    · rw [wo_ne z] at e ⊢
      exact g.1 a o e n
  · by_cases z : a = F
    · unfold wo at e
      rw [if_pos z] at e
      cases e
    · rw [wo_ne z] at e
      obtain ⟨qs, e', t'⟩ := g.2 a ⟨ps, e, t⟩
      exact ⟨qs, by rw [wo_ne z]; exact e', t'⟩
theorem wo_new {F : Addr} {H : Hp} {o : HO} (h : H F = none) : Ge H (wo F (upd H F o)) := by
  rw [wo_upd]
  refine ⟨fun a u e n => ?_, fun a ⟨ps, e, t⟩ => ⟨ps, ?_, t⟩⟩
  · rw [wo_ne (ne_of_none e h)]
    exact e
  · rw [wo_ne (ne_of_none e h)]
    exact e
end
end Pr
set_option maxRecDepth 100000
set_option maxHeartbeats 2000000
namespace Pr
open PySem.Builtin.Str (reprChar)
open PySem PySem.Spec PyProof.Rows L2 GxR Gx Rp Dl Pd Tx
def CpOk (l : List Nat) : Prop := ∀ c ∈ l, c < 1114112
theorem CpOk.app {l m : List Nat} (h : CpOk l) (h' : CpOk m) : CpOk (l ++ m) := fun c hc => (List.mem_append.mp hc).elim (h c) (h' c)
theorem strOk_of {x : Str} (h : CpOk x.cps.toList) : PyData.strOk x = true := by
  unfold PyData.strOk
  rw [Array.all_eq_true]
  intro i hi
  exact decide_eq_true (h _ (by simp))
abbrev Cx1 (x : Str) : Prop := CpOk x.cps.toList
theorem cp_app {x y : Str} (h : Cx1 x) (h' : Cx1 y) : Cx1 (x ++ y) := by
  show CpOk (TL.tl (x ++ y))
  rw [TL.tl_append]
  exact h.app h'
theorem cp_join {sep : Str} (hs : Cx1 sep) : ∀ ts : List Str, (∀ t ∈ ts, Cx1 t) → Cx1 (Str.join sep ts)
  | [], _ => fun c hc => by cases hc
  | [x], h => h x List.mem_cons_self
  | x :: y :: r, h => cp_app (cp_app (h x List.mem_cons_self) hs) (cp_join hs (y :: r) fun t ht => h t (List.mem_cons_of_mem _ ht))
theorem cp_from : ∀ (ts : List Str) (k : Nat) (acc : Str), Cx1 acc → (∀ t ∈ ts, Cx1 t) → Cx1 (textFrom k acc ts)
  | [], _, _, h, _ => h
  | t :: r, k, acc, h, h' => cp_from r (k + 1) _ (cp_app (cp_app h (by split <;> (unfold Cx1 CpOk; decide +kernel))) (h' t List.mem_cons_self)) fun u hu => h' u (List.mem_cons_of_mem _ hu)
theorem cp_int : ∀ i : Fin 1001, CpOk ((toString (i.val : Int) : String) : Str).cps.toList := by unfold CpOk; decide +kernel
theorem cp_chars : ∀ c : Fin 128, CpOk (reprChar 39 c.val) ∧ CpOk (reprChar 34 c.val) := by unfold CpOk; decide +kernel
theorem cp_fold (q : Nat) : ∀ (l : List Nat) (acc : Array Nat), CpOk acc.toList → (∀ c ∈ l, CpOk (reprChar q c)) → CpOk (l.foldl (fun out c => out ++ (reprChar q c).toArray) acc).toList
  | [], acc, h, _ => h
  | c :: r, acc, h, h' => cp_fold q r _ (by rw [Array.toList_append]; exact h.app (h' c List.mem_cons_self)) fun d hd => h' d (List.mem_cons_of_mem _ hd)
theorem quote_two (x : Str) : reprQuote x = 39 ∨ reprQuote x = 34 := by
  unfold reprQuote
  split <;> simp
theorem cp_repr {x : Str} (h : ∀ c ∈ x.cps.toList, c < 128) : Cx1 (reprText x) := by
  have hq : CpOk [reprQuote x] := fun c hc => by
    rw [List.mem_singleton.mp hc]
    rcases quote_two x with e | e <;> rw [e] <;> decide
  have hc : ∀ c ∈ x.cps.toList, CpOk (reprChar (reprQuote x) c) := fun c hc => by
    have z := cp_chars ⟨c, h c hc⟩
    rcases quote_two x with e | e <;> rw [e]
    · exact z.1
    · exact z.2
  show CpOk ((x.cps.foldl (fun out c => out ++ (reprChar (reprQuote x) c).toArray) #[reprQuote x]).push (reprQuote x)).toList
  rw [Array.toList_push, ← Array.foldl_toList]
  exact (cp_fold _ _ _ hq hc).app hq
mutual
theorem cp_shown : ∀ d : PyData, okD d = true → Cx1 d.shown
  | .none, _ => by unfold Cx1 CpOk; decide +kernel
  | .bool b, _ => by cases b <;> (unfold Cx1 CpOk; decide +kernel)
  | .int i, h => by
    have h' : (decide (0 ≤ i) && decide (i ≤ 1000)) = true := h
    rw [Bool.and_eq_true] at h'
    have h0 := of_decide_eq_true h'.1
    have h1 := of_decide_eq_true h'.2
    have e : ((⟨i.toNat, by omega⟩ : Fin 1001).val : Int) = i := by show (i.toNat : Int) = i; omega
    have z := cp_int ⟨i.toNat, by omega⟩
    rw [e] at z
    exact z
  | .str x, h => by
    have h' : (decide (x.length ≤ 100) && x.cps.toList.all (fun c => decide (c < 128))) = true := h
    rw [Bool.and_eq_true] at h'
    exact cp_repr fun c hc => of_decide_eq_true (List.all_eq_true.mp h'.2 c hc)
  | .list xs, h => by
    have h' : (decide (xs.length ≤ 100) && okAll xs) = true := by simpa only [okD] using h
    rw [Bool.and_eq_true] at h'
    have a := cp_shownAll xs h'.2
    simp only [PyData.shown]
    exact cp_app (cp_from _ _ _ (by unfold Cx1 CpOk; decide +kernel) a) (by unfold Cx1 CpOk; decide +kernel)
  | .tuple xs, h => by
    have h' : (decide (xs.length ≤ 100) && okAll xs) = true := by simpa only [okD] using h
    rw [Bool.and_eq_true] at h'
    have a := cp_shownAll xs h'.2
    simp only [PyData.shown]
    exact cp_app (cp_app (by unfold Cx1 CpOk; decide +kernel) (cp_join (by unfold Cx1 CpOk; decide +kernel) _ a)) (by split <;> (unfold Cx1 CpOk; decide +kernel))
  | .dict kvs, h => by
    have h' : (decide (kvs.length ≤ 100) && okKv kvs) = true := by simpa only [okD] using h
    rw [Bool.and_eq_true] at h'
    have a := cp_shownKv kvs h'.2
    simp only [PyData.shown]
    exact cp_app (cp_app (by unfold Cx1 CpOk; decide +kernel) (cp_join (by unfold Cx1 CpOk; decide +kernel) _ a)) (by unfold Cx1 CpOk; decide +kernel)
theorem cp_shownAll : ∀ xs : List PyData, okAll xs = true → ∀ t ∈ PyData.shownAll xs, Cx1 t
  | [], _ => fun t ht => by simp [PyData.shownAll] at ht
  | x :: xs, h => by
    have h' : (okD x && okAll xs) = true := by simpa only [okAll] using h
    rw [Bool.and_eq_true] at h'
    intro t ht
    simp only [PyData.shownAll] at ht
    rcases List.mem_cons.mp ht with rfl | ht
    · exact cp_shown x h'.1
    · exact cp_shownAll xs h'.2 t ht
theorem cp_shownKv : ∀ kvs : List (PyData × PyData), okKv kvs = true → ∀ t ∈ PyData.shownKv kvs, Cx1 t
  | [], _ => fun t ht => by simp [PyData.shownKv] at ht
  | (k, v) :: r, h => by
    have h' : (okD k && okD v && okKv r) = true := by simpa only [okKv] using h
    rw [Bool.and_eq_true, Bool.and_eq_true] at h'
    intro t ht
    simp only [PyData.shownKv] at ht
    rcases List.mem_cons.mp ht with rfl | ht
    · exact cp_app (cp_app (cp_shown k h'.1.1) (by unfold Cx1 CpOk; decide +kernel)) (cp_shown v h'.1.2)
    · exact cp_shownKv r h'.2 t ht
end
end Pr
set_option maxRecDepth 100000
set_option maxHeartbeats 2000000
/-! data that a law draws: bounds; expressions that give data; lists of candidates -/
namespace Pr
open PySem PySem.Spec PyProof.Rows L2 GxR Gx Rp Dl Pd Tx
mutual
def wg : PyData → Nat
  | .none => 5
  | .bool _ => 5
  | .int _ => 50
  | .str x => 10 * x.length + 2
  | .list xs => wgA xs + 4
  | .tuple xs => wgA xs + 4
  | .dict kvs => wgK kvs + 4
def wgA : List PyData → Nat
  | [] => 0
  | x :: xs => wg x + 2 + wgA xs
def wgK : List (PyData × PyData) → Nat
  | [] => 0
  | (k, v) :: r => wg k + wg v + 4 + wgK r
end
mutual
/-- plain signs, ints of few digits -/
def tm : PyData → Bool
  | .int i => decide (i.natAbs < 10 ^ 40)
  | .str x => x.cps.toList.all (fun c => decide (c < 128))
  | .list xs => tmA xs
  | .tuple xs => tmA xs
  | .dict kvs => tmK kvs
  | _ => true
def tmA : List PyData → Bool
  | [] => true
  | x :: xs => tm x && tmA xs
def tmK : List (PyData × PyData) → Bool
  | [] => true
  | (k, v) :: r => tm k && tm v && tmK r
end
mutual
theorem tm_shown : ∀ d : PyData, tm d = true → d.shown.length ≤ wg d ∧ d.showable = true
  | .none, _ => ⟨by decide, rfl⟩
  | .bool b, _ => by cases b <;> exact ⟨by decide, rfl⟩
  | .int i, h => by
    have h' : decide (i.natAbs < 10 ^ 40) = true := h
    have h0 := of_decide_eq_true h'
    refine ⟨?_, ?_⟩
    · have z := PySem.int_text_length_le10 (k := 40) (by decide) h0
      show (Str.ofString (toString i)).length ≤ 50
      rw [PySem.ofString_length]
      omega
    · show decide (i.natAbs.log2 < 1920) = true
      refine decide_eq_true ?_
      have h2 : i.natAbs < 2 ^ 1920 := Nat.lt_of_lt_of_le h0 (Nat.le_trans (show 10 ^ 40 ≤ 2 ^ 200 by decide +kernel) (Nat.pow_le_pow_right (by decide) (by decide)))
      by_cases hz : i.natAbs = 0
      · rw [hz]; decide
      · exact (Nat.log2_lt hz).mpr h2
  | .str x, h => by
    have h' : x.cps.toList.all (fun c => decide (c < 128)) = true := h
    exact ⟨StrLaws.reprText_len x fun c hc => Nat.lt_trans (of_decide_eq_true (List.all_eq_true.mp h' c hc)) (by decide), rfl⟩
  | .list xs, h => by
    have h' : tmA xs = true := by simpa only [tm] using h
    obtain ⟨a, b⟩ := tmA_shown xs h'
    refine ⟨?_, by simpa only [PyData.showable] using b⟩
    have := listText_le (PyData.shownAll xs)
    simp only [PyData.shown, wg]
    omega
  | .tuple xs, h => by
    have h' : tmA xs = true := by simpa only [tm] using h
    obtain ⟨a, b⟩ := tmA_shown xs h'
    refine ⟨?_, by simpa only [PyData.showable] using b⟩
    have := tupleText_le (PyData.shownAll xs)
    simp only [PyData.shown, wg]
    omega
  | .dict kvs, h => by
    have h' : tmK kvs = true := by simpa only [tm] using h
    obtain ⟨a, b⟩ := tmK_shown kvs h'
    refine ⟨?_, by simpa only [PyData.showable] using b⟩
    have := dictText_le (PyData.shownKv kvs)
    simp only [PyData.shown, wg]
    omega
theorem tmA_shown : ∀ xs : List PyData, tmA xs = true → piled (PyData.shownAll xs) ≤ wgA xs ∧ PyData.showableAll xs = true
  | [], _ => ⟨by decide, rfl⟩
  | x :: xs, h => by
    have h' : (tm x && tmA xs) = true := by simpa only [tmA] using h
    rw [Bool.and_eq_true] at h'
    obtain ⟨a, b⟩ := tm_shown x h'.1
    obtain ⟨a', b'⟩ := tmA_shown xs h'.2
    refine ⟨?_, by simp only [PyData.showableAll, b, b', Bool.and_self]⟩
    simp only [PyData.shownAll, wgA, piled_cons]
    omega
theorem tmK_shown : ∀ kvs : List (PyData × PyData), tmK kvs = true → piled (PyData.shownKv kvs) ≤ wgK kvs ∧ PyData.showableKv kvs = true
  | [], _ => ⟨by decide, rfl⟩
  | (k, v) :: r, h => by
    have h' : (tm k && tm v && tmK r) = true := by simpa only [tmK] using h
    rw [Bool.and_eq_true, Bool.and_eq_true] at h'
    obtain ⟨a, b⟩ := tm_shown k h'.1.1
    obtain ⟨a1, b1⟩ := tm_shown v h'.1.2
    obtain ⟨a', b'⟩ := tmK_shown r h'.2
    refine ⟨?_, by simp only [PyData.showableKv, b, b1, b', Bool.and_self]⟩
    have e : (((": " : String) : Str)).length = 2 := rfl
    simp only [PyData.shownKv, wgK, piled_cons, strLen_append, e]
    omega
end
theorem len_wgA : ∀ xs : List PyData, xs.length ≤ wgA xs
  | [] => Nat.le_refl _
  | x :: xs => by
    have := len_wgA xs
    simp only [wgA, List.length_cons]
    omega
theorem len_wgK : ∀ xs : List (PyData × PyData), xs.length ≤ wgK xs
  | [] => Nat.le_refl _
  | (k, v) :: xs => by
    have := len_wgK xs
    simp only [wgK, List.length_cons]
    omega
mutual
theorem wg_small : ∀ d : PyData, wg d ≤ 100000 → small d = true
  | .none, _ => rfl
  | .bool b, _ => rfl
  | .int i, h => rfl
  | .str x, h => by
    have h : 10 * x.length + 2 ≤ 100000 := by simpa only [wg] using h
    show decide (x.length ≤ 100000) = true
    exact decide_eq_true (by omega)
  | .list xs, h => by
    have h : wgA xs + 4 ≤ 100000 := by simpa only [wg] using h
    have := len_wgA xs
    simp only [small, wgA_small xs (by omega), Bool.and_true]
    exact decide_eq_true (by omega)
  | .tuple xs, h => by
    have h : wgA xs + 4 ≤ 100000 := by simpa only [wg] using h
    have := len_wgA xs
    simp only [small, wgA_small xs (by omega), Bool.and_true]
    exact decide_eq_true (by omega)
  | .dict kvs, h => by
    have h : wgK kvs + 4 ≤ 100000 := by simpa only [wg] using h
    have := len_wgK kvs
    simp only [small, wgK_small kvs (by omega), Bool.and_true]
    exact decide_eq_true (by omega)
theorem wgA_small : ∀ xs : List PyData, wgA xs ≤ 100000 → smallAll xs = true
  | [], _ => rfl
  | x :: xs, h => by
    simp only [wgA] at h
    simp only [smallAll, wg_small x (by omega), wgA_small xs (by omega), Bool.and_self]
theorem wgK_small : ∀ xs : List (PyData × PyData), wgK xs ≤ 100000 → smallKv xs = true
  | [], _ => rfl
  | (k, v) :: xs, h => by
    simp only [wgK] at h
    simp only [smallKv, wg_small k (by omega), wg_small v (by omega), wgK_small xs (by omega), Bool.and_self]
end
/-- data of at most W signs, at most n deep; g: no dict within -/
structure Good (g : Bool) (W n : Nat) (d : PyData) : Prop where
  t : tm d = true
  w : wg d ≤ W
  n : d.depth ≤ n
  g : g = true → d.canLay0 = true
structure GoodA (g : Bool) (W n : Nat) (ds : List PyData) : Prop where
  t : tmA ds = true
  w : wgA ds ≤ W
  n : PyData.depthAll ds ≤ n
  g : g = true → PyData.canLayAll0 ds = true
section
variable {g g1 g2 : Bool} {W W1 W2 n n1 n2 : Nat} {d : PyData} {ds : List PyData}
theorem Good.mono {g' : Bool} {W' n' : Nat} (h : Good g W n d) (hW : W ≤ W') (hn : n ≤ n') (hg : g' = true → g = true) : Good g' W' n' d := ⟨h.t, Nat.le_trans h.w hW, Nat.le_trans h.n hn, fun z => h.g (hg z)⟩
theorem Good.nil : GoodA g W n [] := ⟨rfl, Nat.zero_le _, Nat.zero_le _, fun _ => rfl⟩
theorem Good.cons (h : Good g1 W1 n1 d) (h' : GoodA g2 W2 n2 ds) : GoodA (g1 && g2) (W1 + 2 + W2) (max n1 n2) (d :: ds) := by
  refine ⟨by simp only [tmA, h.t, h'.t, Bool.and_self], ?_, ?_, fun z => ?_⟩
  · have := h.w
    have := h'.w
    simp only [wgA]
    omega
  · have := h.n
    have := h'.n
    simp only [PyData.depthAll]
    omega
  · rw [Bool.and_eq_true] at z
    simp only [PyData.canLayAll0, h.g z.1, h'.g z.2, Bool.and_self]
theorem Good.tup (h : GoodA g W n ds) : Good g (W + 4) (n + 1) (.tuple ds) := by
  refine ⟨by simpa only [tm] using h.t, ?_, ?_, fun z => by simpa only [PyData.canLay0] using h.g z⟩
  · have := h.w
    simp only [wg]
    omega
  · have := h.n
    simp only [PyData.depth]
    omega
theorem Good.lst (h : GoodA g W n ds) : Good g (W + 4) (n + 1) (.list ds) := by
  refine ⟨by simpa only [tm] using h.t, ?_, ?_, fun z => by simpa only [PyData.canLay0] using h.g z⟩
  · have := h.w
    simp only [wg]
    omega
  · have := h.n
    simp only [PyData.depth]
    omega
theorem GoodA.of (h : ∀ d ∈ ds, Good g W n d) {k : Nat} (hk : ds.length ≤ k) : GoodA g (k * (W + 2)) n ds := by
  have A : tmA ds = true ∧ wgA ds ≤ ds.length * (W + 2) ∧ PyData.depthAll ds ≤ n ∧ (g = true → PyData.canLayAll0 ds = true) := by
    clear hk
    induction ds with
    | nil => exact ⟨rfl, Nat.zero_le _, Nat.zero_le _, fun _ => rfl⟩
    | cons x r ih =>
      obtain ⟨a, b, c, e⟩ := ih fun d hd => h d (List.mem_cons_of_mem _ hd)
      have hx := h x List.mem_cons_self
      refine ⟨by simp only [tmA, hx.t, a, Bool.and_self], ?_, ?_, fun z => by simp only [PyData.canLayAll0, hx.g z, e z, Bool.and_self]⟩
      · have := hx.w
        have : (r.length + 1) * (W + 2) = r.length * (W + 2) + (W + 2) := Nat.succ_mul _ _
        simp only [wgA, List.length_cons]
        omega
      · have := hx.n
        simp only [PyData.depthAll]
        omega
  exact ⟨A.1, Nat.le_trans A.2.1 (Nat.mul_le_mul_right _ hk), A.2.2.1, A.2.2.2⟩
theorem Good.none : Good true 5 0 .none := ⟨rfl, Nat.le_refl _, Nat.le_refl _, fun _ => rfl⟩
theorem Good.bool {b : Bool} : Good true 5 0 (.bool b) := ⟨rfl, Nat.le_refl _, Nat.le_refl _, fun _ => rfl⟩
theorem Good.int {i : Int} (h : i.natAbs < 10 ^ 40) : Good true 50 0 (.int i) := ⟨decide_eq_true h, Nat.le_refl _, Nat.le_refl _, fun _ => rfl⟩
theorem Good.str {x : Str} {k : Nat} (h : ∀ c ∈ x.cps.toList, c < 128) (hk : x.length ≤ k) : Good true (10 * k + 2) 0 (.str x) :=
  ⟨List.all_eq_true.mpr fun c hc => decide_eq_true (h c hc), by show 10 * x.length + 2 ≤ _; omega, Nat.le_refl _, fun _ => strOk_of fun c hc => Nat.lt_trans (h c hc) (by decide)⟩
theorem Good.shown (h : Good g W n d) : d.showable = true ∧ d.shown.length ≤ W := ⟨(tm_shown d h.t).2, Nat.le_trans (tm_shown d h.t).1 h.w⟩
theorem Good.small (h : Good g W n d) (hW : W ≤ 100000) : small d = true := wg_small d (Nat.le_trans h.w hW)
theorem Good.shaped (h : Good true W n d) (hn : n ≤ 64) : SeqAt.shaped d = true := by
  unfold SeqAt.shaped
  rw [h.g rfl, decide_eq_true (Nat.le_trans h.n hn)]
  rfl
end
/-! ### the heap without the pen and without lists that still change -/
open Classical in
noncomputable def wos (S : Addr → Prop) (H : Hp) : Hp := fun b => if S b then none else H b
/-- the pen, and the lists that change: all stand -/
structure Wd (p cc : Addr) (S : Addr → Prop) (H : Hp) (a : Nat) : Prop where
  pen : PenAt H p cc a
  sp : S p
  al : ∀ b, S b → ∃ xs, H b = some (.lst xs)
section
variable {p : Addr} {S S' : Addr → Prop} {H H' : Hp} {K : PySem.W.Frag} {v : V} {vs : List V} {d : PyData} {ds : List PyData} {xs : List V}
theorem wos_in {b : Addr} (h : S b) : wos S H b = none := if_pos h
theorem wos_ne {b : Addr} (h : ¬ S b) : wos S H b = H b := if_neg h
theorem wos_ge : Ge (wos S H) H := by
  refine ⟨fun a o e _ => ?_, fun a ⟨ps, e, t⟩ => ⟨ps, ?_, t⟩⟩ <;> by_cases z : S a
  · rw [wos_in z] at e; cases e
  · rw [wos_ne z] at e; exact e
  · rw [wos_in z] at e; cases e
  · rw [wos_ne z] at e; exact e
theorem wos_mono (h : ∀ a o, ¬ S a → H a = some o → (∀ ps, o ≠ .tbl ps) → ¬ S' a ∧ H' a = some o) (ht : ∀ a, ¬ S a → TabG H a → ¬ S' a ∧ TabG H' a) : Ge (wos S H) (wos S' H') := by
  refine ⟨fun a o e n => ?_, fun a ⟨ps, e, t⟩ => ?_⟩
  · by_cases z : S a
    · rw [wos_in z] at e; cases e
    · rw [wos_ne z] at e
      obtain ⟨u1, u2⟩ := h a o z e n
      rw [wos_ne u1]
      exact u2
  · by_cases z : S a
    · rw [wos_in z] at e; cases e
    · rw [wos_ne z] at e
      obtain ⟨u1, qs, e', t'⟩ := ht a z ⟨ps, e, t⟩
      exact ⟨qs, by rw [wos_ne u1]; exact e', t'⟩
theorem GeP.w (g : GeP p H H') (hS : S p) : Ge (wos S H) (wos S H') := wos_mono (fun a o z e n => ⟨z, g.1 a o (fun q => z (q ▸ hS)) e n⟩) fun a z t => ⟨z, g.2 a t⟩
theorem geW (g : Ge H H') : Ge (wos S H) (wos S H') := wos_mono (fun a o z e n => ⟨z, g.1 a o e n⟩) fun a z t => ⟨z, g.2 a t⟩
/-- one more list that changes, new -/
theorem ge_more {D : Addr} {o : HO} (h : H D = none) : Ge (wos S H) (wos (fun b => S b ∨ b = D) (upd H D o)) := by
  have ne : ∀ a u, H a = some u → a ≠ D := fun a u e => ne_of_none e h
  exact wos_mono (fun a u z e _ => ⟨(fun q => q.elim z (ne a u e)), by rw [upd_ne (ne a u e)]; exact e⟩) fun a z ⟨ps, e, t⟩ => ⟨(fun q => q.elim z (ne a _ e)), ps, by rw [upd_ne (ne a _ e)]; exact e, t⟩
theorem wos_less (h : ∀ b, S b → S' b) : Ge (wos S' H) (wos S H) := wos_mono (fun a o z e _ => ⟨fun q => z (h a q), e⟩) fun a z t => ⟨fun q => z (h a q), t⟩
theorem wos_upd {D : Addr} {o : HO} (h : S D) : wos S (upd H D o) = wos S H := by
  funext b
  by_cases z : S b
  · rw [wos_in z, wos_in z]
  · rw [wos_ne z, wos_ne z, upd_ne fun q => z (by rw [q]; exact h)]
theorem rd_w {a : Addr} {u : HO} (h : Rd H a u) (n : ¬ S a) : Rd (wos S H) a u := by
  rcases h with h | ⟨o, h⟩
  · exact Or.inl (by rw [wos_ne n]; exact h)
  · exact Or.inr ⟨o, by rw [wos_ne n]; exact h⟩
theorem rd_of_w {a : Addr} {u : HO} (h : Rd (wos S H) a u) : Rd H a u ∧ ¬ S a := by
  have n : ¬ S a := fun z => by rcases h with h | ⟨o, h⟩ <;> rw [wos_in z] at h <;> cases h
  rcases h with h | ⟨o, h⟩ <;> rw [wos_ne n] at h
  · exact ⟨Or.inl h, n⟩
  · exact ⟨Or.inr ⟨o, h⟩, n⟩
theorem w_da (h : Da K (wos S H) v d) : Da K H v d := wos_ge.da h
variable {cc : Addr} {a b : Nat} {H0 : Hp} {σ : L2.St}
theorem Wd.gp (w : Wd p cc S H a) (g : GeP p H H') (hp : PenAt H' p cc b) : Wd p cc S H' b := ⟨hp, w.sp, fun c hc => by
  obtain ⟨xs, h⟩ := w.al c hc
  by_cases z : c = p
  · rw [z]; exact hp.lst
  · exact ⟨xs, g.1 c _ z h (fun ps z => by cases z)⟩⟩
theorem Wd.ge (w : Wd p cc S H a) (g : Ge H H') : Wd p cc S H' a := w.gp (GeP.of g) (w.pen.ge g)
theorem Wd.mono (w : Wd p cc S H a) (h : a ≤ b) : Wd p cc S H b := ⟨w.pen.mono h, w.sp, w.al⟩
theorem Wd.new (w : Wd p cc S H a) {q : Addr} (hq : H q = none) : ¬ S q := fun z => by
  obtain ⟨xs, h⟩ := w.al q z
  rw [hq] at h
  cases h
theorem Wd.tup (w : Wd p cc S H a) {c : Addr} {xs : List V} (h : Rd H c (.tup xs)) : ¬ S c := fun z => by
  obtain ⟨ys, e⟩ := w.al c z
  have := rd_one (fun o w z => by cases z) (fun o w z => by cases z) h (Or.inl e)
  cases this
theorem Wd.dct (w : Wd p cc S H a) {c : Addr} {xs : List (Key × V)} (h : Rd H c (.dK xs)) : ¬ S c := fun z => by
  obtain ⟨ys, e⟩ := w.al c z
  have := rd_one (fun o w z => by cases z) (fun o w z => by cases z) h (Or.inl e)
  cases this
/-- no list within: nothing that changes is in it -/
theorem Wd.da (w : Wd p cc S H a) (n : noL d = true) (h : Da K H v d) : Da K (wos S H) v d :=
  da_mapN (fun c ys r => rd_w r (w.tup r)) (fun c ys r => rd_w r (w.dct r)) d v n h
theorem Wd.daAll (w : Wd p cc S H a) (n : noLAll ds = true) (h : DaAll K H vs ds) : DaAll K (wos S H) vs ds :=
  daAll_mapN (fun c ys r => rd_w r (w.tup r)) (fun c ys r => rd_w r (w.dct r)) ds vs n h
theorem Wd.more (w : Wd p cc S H a) {D : Addr} {xs : List V} (hD : H D = none) : Wd p cc (fun b => S b ∨ b = D) (upd H D (.lst xs)) a :=
  ⟨w.pen.ge (Ge.new hD), Or.inl w.sp, fun b hb => by
    by_cases z : b = D
    · rw [z]; exact ⟨xs, upd_same⟩
    · obtain ⟨ys, h⟩ := w.al b (hb.resolve_right z)
      exact ⟨ys, by rw [upd_ne z]; exact h⟩⟩
/-! ### expressions that give data -/
def DO (K : PySem.W.Frag) (p : Addr) (S : Addr → Prop) (cc : Addr) (H0 : Hp) (σ : L2.St) (k : Nat) (t : TE) (P : PyData → Prop) : Prop :=
  ∀ (H : Hp) (a : Nat) (Q : VK), GeP p H0 H → Wd p cc S H a → a + k ≤ 90000 → (∀ v d H', GeP p H H' → Wd p cc S H' (a + k) → Da K (wos S H') v d → P d → Q v H') → t σ H Q
def AO (K : PySem.W.Frag) (p : Addr) (S : Addr → Prop) (cc : Addr) (H0 : Hp) (σ : L2.St) (k : Nat) (t : TA) (P : List PyData → Prop) : Prop :=
  ∀ (H : Hp) (a : Nat) (Q : List V → Hp → Prop), GeP p H0 H → Wd p cc S H a → a + k ≤ 90000 → (∀ vs ds H', GeP p H H' → Wd p cc S H' (a + k) → DaAll K (wos S H') vs ds → P ds → Q vs H') → t σ H Q
theorem do_c {v : V} {d : PyData} {P : PyData → Prop} (h : ∀ H, Da K H v d) (hP : P d) : DO K p S cc H0 σ 0 (tC v) P := fun H a Q g hp ha q => q v d H GeP.refl hp (h _) hP
theorem do_int {i : Int} (h : i.natAbs < 10 ^ 40) : DO K p S cc H0 σ 0 (tC (.int i)) (Good true 50 0) := do_c (fun _ => .int i) (Good.int h)
theorem do_bl {b : Bool} : DO K p S cc H0 σ 0 (tC (.bl b)) (Good true 5 0) := do_c (fun _ => .bl b) Good.bool
theorem do_non : DO K p S cc H0 σ 0 (tC .non) (Good true 5 0) := do_c (fun _ => .non) Good.none
theorem do_str {x : Str} (h : (x.cps.toList.all fun c => decide (c < 128)) = true) : DO K p S cc H0 σ 0 (tC (.str x)) (Good true (10 * x.length + 2) 0) := do_c (fun _ => .str x) (Good.str (fun c hc => of_decide_eq_true (List.all_eq_true.mp h c hc)) (Nat.le_refl _))
theorem do_var {i : Nat} {P : PyData → Prop} (e : σ[i]? = some (some v)) (h : Da K (wos S H0) v d) (hP : P d) : DO K p S cc H0 σ 0 (tVar i) P := fun H a Q g hp ha q => ⟨v, e, q v d H GeP.refl hp ((g.w hp.sp).da h) hP⟩
theorem do_varC {i : Nat} {P : PyData → Prop} (e : σ[i]? = some (some v)) (h : ∀ H, Da K H v d) (hP : P d) : DO K p S cc H0 σ 0 (tVar i) P := do_var e (h _) hP
theorem DO.to {k k' : Nat} {t : TE} {P P' : PyData → Prop} (h : DO K p S cc H0 σ k t P) (hk : k ≤ k') (hP : ∀ d, P d → P' d) : DO K p S cc H0 σ k' t P' := fun H a Q g hp ha q => h H a Q g hp (by omega) fun v d H' g' hp' hd z => q v d H' g' (hp'.mono (by omega)) hd (hP d z)
theorem DO.good {k : Nat} {t : TE} {g g' : Bool} {W W' n n' : Nat} (h : DO K p S cc H0 σ k t (Good g W n)) (hW : W ≤ W') (hn : n ≤ n') (hg : g' = true → g = true) : DO K p S cc H0 σ k t (Good g' W' n') := h.to (Nat.le_refl _) fun _ z => z.mono hW hn hg
theorem ao_nil : AO K p S cc H0 σ 0 tNil (GoodA true 0 0) := fun H a Q g hp ha q => q [] [] H GeP.refl hp .nil Good.nil
theorem ao_cons {k1 k2 : Nat} {t1 : TE} {t2 : TA} {g1 g2 : Bool} {W1 W2 n1 n2 : Nat} (h1 : DO K p S cc H0 σ k1 t1 (Good g1 W1 n1)) (h2 : AO K p S cc H0 σ k2 t2 (GoodA g2 W2 n2)) : AO K p S cc H0 σ (k1 + k2) (tCons t1 t2) (GoodA (g1 && g2) (W1 + 2 + W2) (max n1 n2)) := fun H a Q g hp ha q =>
  h1 H a _ g hp (by omega) fun v d H1 gg1 hp1 hd1 z1 => h2 H1 (a + k1) _ (g.trans gg1) hp1 (by omega) fun vs ds H2 gg2 hp2 hd2 z2 => q (v :: vs) (d :: ds) H2 (gg1.trans gg2) (hp2.mono (by omega)) (.cons ((gg2.w hp1.sp).da hd1) hd2) (z1.cons z2)
theorem w_new {q : Addr} {o : HO} {a : Nat} (hp : Wd p cc S H a) (hq : H q = none) : wos S (upd H q o) q = some o := by rw [wos_ne (hp.new hq)]; exact upd_same
theorem do_tup {k : Nat} {t : TA} {g : Bool} {W n : Nat} (h : AO K p S cc H0 σ k t (GoodA g W n)) (hW : W ≤ 10000000 := by decide) : DO K p S cc H0 σ k (tTup t) (Good g (W + 4) (n + 1)) := fun H a Q gg hp ha q =>
  h H a _ gg hp ha fun vs ds H1 g1 hp1 hd z => ⟨Nat.le_trans (Nat.le_trans (by rw [← daAll_len hd]; exact len_wgA ds) (Nat.le_trans z.w hW)) (by decide), fun r hr => q (.ref r) (.tuple ds) _ (g1.trans (GeP.of (Ge.new hr))) (hp1.ge (Ge.new hr)) (.tup (Or.inl (w_new hp1 hr)) ((geW (Ge.new hr)).daAll hd)) (Good.tup z)⟩
theorem do_lst {k : Nat} {t : TA} {g : Bool} {W n : Nat} (h : AO K p S cc H0 σ k t (GoodA g W n)) (hW : W ≤ 10000000 := by decide) : DO K p S cc H0 σ k (tLst t) (Good g (W + 4) (n + 1)) := fun H a Q gg hp ha q =>
  h H a _ gg hp ha fun vs ds H1 g1 hp1 hd z => ⟨Nat.le_trans (Nat.le_trans (by rw [← daAll_len hd]; exact len_wgA ds) (Nat.le_trans z.w hW)) (by decide), fun r hr => q (.ref r) (.list ds) _ (g1.trans (GeP.of (Ge.new hr))) (hp1.ge (Ge.new hr)) (.lst (Or.inl (w_new hp1 hr)) ((geW (Ge.new hr)).daAll hd)) (Good.lst z)⟩
theorem do_dict0 : DO K p S cc H0 σ 0 tDNewK (Good false 4 1) := fun H a Q gg hp ha q r hr => q (.ref r) (.dict []) _ (GeP.of (Ge.new hr)) (hp.ge (Ge.new hr)) (.dct (kvs := []) (Or.inl (w_new hp hr)) List.nodup_nil .nil) ⟨rfl, Nat.le_refl _, by simp [PyData.depth, PyData.depthKv], fun z => by cases z⟩
/-! ### lists of candidates -/
/-- at l a list of at most m values, each data with G -/
def CandAt (K : PySem.W.Frag) (S : Addr → Prop) (H : Hp) (l : Addr) (m : Nat) (G : PyData → Prop) : Prop := ∃ vs ds, H l = some (.lst vs) ∧ ¬ S l ∧ vs.length = m ∧ DaAll K (wos S H) vs ds ∧ ∀ d ∈ ds, G d
theorem CandAt.gp {l : Addr} {m : Nat} {G : PyData → Prop} (h : CandAt K S H l m G) (g : GeP p H H') (hS : S p) : CandAt K S H' l m G := let ⟨vs, ds, h1, h2, h3, h4, h5⟩ := h; ⟨vs, ds, g.1 l _ (fun z => h2 (z ▸ hS)) h1 (fun ps z => by cases z), h2, h3, (g.w hS).daAll h4, h5⟩
def GO (K : PySem.W.Frag) (p : Addr) (S : Addr → Prop) (cc : Addr) (H0 : Hp) (σ : L2.St) (k m : Nat) (t : TA) (G : PyData → Prop) : Prop :=
  ∀ (H : Hp) (a : Nat) (Q : List V → Hp → Prop), GeP p H0 H → Wd p cc S H a → a + k ≤ 90000 → (∀ vs ds H', GeP p H H' → Wd p cc S H' (a + k) → vs.length = m → DaAll K (wos S H') vs ds → (∀ d ∈ ds, G d) → Q vs H') → t σ H Q
def CO (K : PySem.W.Frag) (p : Addr) (S : Addr → Prop) (cc : Addr) (H0 : Hp) (σ : L2.St) (k m : Nat) (t : TE) (G : PyData → Prop) : Prop :=
  ∀ (H : Hp) (a : Nat) (Q : VK), GeP p H0 H → Wd p cc S H a → a + k ≤ 90000 → (∀ l H', GeP p H H' → Wd p cc S H' (a + k) → CandAt K S H' l m G → Q (.ref l) H') → t σ H Q
variable {G : PyData → Prop} {k k1 k2 m m1 m2 : Nat}
theorem go_nil : GO K p S cc H0 σ 0 0 tNil G := fun H a Q g hp ha q => q [] [] H GeP.refl hp rfl .nil (fun _ z => by cases z)
theorem go_cons {t1 : TE} {t2 : TA} (h1 : DO K p S cc H0 σ k1 t1 G) (h2 : GO K p S cc H0 σ k2 m t2 G) : GO K p S cc H0 σ (k1 + k2) (m + 1) (tCons t1 t2) G := fun H a Q g hp ha q =>
  h1 H a _ g hp (by omega) fun v d H1 gg1 hp1 hd1 z1 => h2 H1 (a + k1) _ (g.trans gg1) hp1 (by omega) fun vs ds H2 gg2 hp2 hl hd2 z2 => q (v :: vs) (d :: ds) H2 (gg1.trans gg2) (hp2.mono (by omega)) (by rw [List.length_cons, hl]) (.cons ((gg2.w hp1.sp).da hd1) hd2) fun x hx => by
    rcases List.mem_cons.mp hx with rfl | hx
    · exact z1
    · exact z2 x hx
theorem co_lst {t : TA} (h : GO K p S cc H0 σ k m t G) (hm : m ≤ 10000 := by decide) : CO K p S cc H0 σ k m (tLst t) G := fun H a Q gg hp ha q =>
  h H a _ gg hp ha fun vs ds H1 g1 hp1 hl hd z => ⟨by rw [hl]; exact Nat.le_trans hm (by decide), fun r hr => q r _ (g1.trans (GeP.of (Ge.new hr))) (hp1.ge (Ge.new hr)) ⟨vs, ds, upd_same, (hp1.new hr), hl, (geW (Ge.new hr)).daAll hd, z⟩⟩
theorem co_var {i : Nat} {l : Addr} (e : σ[i]? = some (some (.ref l))) (h : CandAt K S H0 l m G) : CO K p S cc H0 σ 0 m (tVar i) G := fun H a Q g hp ha q => ⟨_, e, q l H GeP.refl hp (h.gp g hp.sp)⟩
theorem daAll_appU {vs vs' : List V} {ds ds' : List PyData} (h : DaAll K H vs ds) (h' : DaAll K H vs' ds') : DaAll K H (vs ++ vs') (ds ++ ds') := by
  induction vs generalizing ds with
  | nil => cases h; exact h'
  | cons x r ih =>
    cases h with
    | cons a b => exact .cons a (ih b)
theorem co_cat {t1 t2 : TE} (h1 : CO K p S cc H0 σ k1 m1 t1 G) (h2 : CO K p S cc H0 σ k2 m2 t2 G) (hm : m1 + m2 ≤ 10000 := by decide) : CO K p S cc H0 σ (k1 + k2) (m1 + m2) (tOp rCat t1 t2) G := fun H a Q g hp ha q =>
  h1 H a _ g hp (by omega) fun l1 H1 g1 hp1 c1 => h2 H1 (a + k1) _ (g.trans g1) hp1 (by omega) fun l2 H2 g2 hp2 c2 => by
    obtain ⟨vs, ds, x1, x2, x3, x4, x5⟩ := c1.gp g2 hp.sp
    obtain ⟨us, es, y1, y2, y3, y4, y5⟩ := c2
    refine ⟨l1, l2, vs, us, rfl, rfl, x1, y1, by rw [x3, y3]; exact Nat.le_trans hm (by decide), fun r hr => ?_⟩
    refine q r _ ((g1.trans g2).trans (GeP.of (Ge.new hr))) ((hp2.mono (by omega)).ge (Ge.new hr)) ⟨vs ++ us, ds ++ es, upd_same, (hp2.new hr), by rw [List.length_append, x3, y3], (geW (Ge.new hr)).daAll (daAll_appU x4 y4), fun d hd => ?_⟩
    rcases List.mem_append.mp hd with hd | hd
    · exact x5 d hd
    · exact y5 d hd
theorem daAll_rep {vs : List V} {ds : List PyData} (h : DaAll K H vs ds) : ∀ n : Nat, DaAll K H (List.replicate n vs).flatten (List.replicate n ds).flatten
  | 0 => .nil
  | n + 1 => by
    rw [List.replicate_succ, List.replicate_succ, List.flatten_cons, List.flatten_cons]
    exact daAll_appU h (daAll_rep h n)
theorem len_rep {α : Type} (xs : List α) (n : Nat) : (List.replicate n xs).flatten.length = xs.length * n := by
  induction n with
  | zero => rfl
  | succ n ih => rw [List.replicate_succ, List.flatten_cons, List.length_append, ih, Nat.mul_succ, Nat.add_comm]
theorem mem_rep {α : Type} {xs : List α} {x : α} : ∀ {n : Nat}, x ∈ (List.replicate n xs).flatten → x ∈ xs
  | 0, h => by cases h
  | n + 1, h => by
    rw [List.replicate_succ, List.flatten_cons] at h
    rcases List.mem_append.mp h with h | h
    · exact h
    · exact mem_rep h
theorem co_rep {t1 : TE} {c : Nat} (h1 : CO K p S cc H0 σ k m t1 G) (hm : m * c ≤ 10000 := by decide) (hc : c ≤ 10000 := by decide) : CO K p S cc H0 σ k (m * c) (tOp rRep t1 (tC (.int c))) G := fun H a Q g hp ha q =>
  h1 H a _ g hp ha fun l1 H1 g1 hp1 c1 => by
    obtain ⟨vs, ds, x1, x2, x3, x4, x5⟩ := c1
    have e : ((c : Int)).toNat = c := rfl
    refine ⟨l1, c, vs, rfl, rfl, x1, by omega, by omega, by rw [x3, e]; exact Nat.le_trans hm (by decide), fun r hr => ?_⟩
    rw [e]
    exact q r _ (g1.trans (GeP.of (Ge.new hr))) (hp1.ge (Ge.new hr)) ⟨_, _, upd_same, (hp1.new hr), by rw [len_rep, x3], (geW (Ge.new hr)).daAll (daAll_rep x4 c), fun d hd => x5 d (mem_rep hd)⟩
end
end Pr
set_option maxRecDepth 100000
set_option maxHeartbeats 2000000
/-! ints told by an expression; comprehensions, slices, choices over lists of candidates -/
namespace Pr
open PySem PySem.Spec PyProof.Rows L2 GxR Gx Rp Dl Pd Tx
section
variable {p cc : Addr} {S : Addr → Prop} {H H' H0 : Hp} {K : PySem.W.Frag} {v : V} {vs : List V} {d : PyData} {ds : List PyData} {xs : List V} {σ : L2.St} {G G1 : PyData → Prop} {k k1 k2 m m1 m2 : Nat}
/-- an expression that tells just this int -/
def IO (σ : L2.St) (t : TE) (i : Int) : Prop := ∀ (H : Hp) (Q : VK), Q (.int i) H → t σ H Q
theorem io_c {i : Int} : IO σ (tC (.int i)) i := fun H Q q => q
theorem io_var {n : Nat} {i : Int} (e : σ[n]? = some (some (.int i))) : IO σ (tVar n) i := fun H Q q => ⟨_, e, q⟩
theorem io_add {a b : TE} {i j : Int} (h : IO σ a i) (h' : IO σ b j) : IO σ (tOp (rI0 fun i j => .int (i + j)) a b) (i + j) := fun H Q q => h H _ (h' H _ ⟨i, j, rfl, rfl, q⟩)
theorem io_sub {a b : TE} {i j : Int} (h : IO σ a i) (h' : IO σ b j) : IO σ (tOp (rI0 fun i j => .int (i - j)) a b) (i - j) := fun H Q q => h H _ (h' H _ ⟨i, j, rfl, rfl, q⟩)
theorem io_neg {a : TE} {i : Int} (h : IO σ a i) : IO σ (tUn (rU fun i => .int (-i)) a) (-i) := fun H Q q => h H _ ⟨i, rfl, q⟩
theorem io_pow {a b : TE} {i j : Int} (h : IO σ a i) (h' : IO σ b j) (hc : 0 ≤ j ∧ j ≤ 1000000 ∧ i.natAbs < 2 ^ 64) : IO σ (tOp (rI CPow fun i j => .int (i ^ j.toNat)) a b) (i ^ j.toNat) := fun H Q q => h H _ (h' H _ ⟨i, j, rfl, rfl, hc, q⟩)
theorem do_io {t : TE} {i : Int} (h : IO σ t i) (hi : i.natAbs < 10 ^ 40) : DO K p S cc H0 σ 0 t (Good true 50 0) := fun H a Q g hp ha q => h H _ (q _ (.int i) H GeP.refl hp (.int i) (Good.int hi))
theorem daAll_mem {G : PyData → Prop} {i : Nat} (h : DaAll K H vs ds) (hG : ∀ d ∈ ds, G d) (e : vs[i]? = some v) : ∃ d, Da K H v d ∧ G d := by
  obtain ⟨d, h1, h2⟩ := daAll_get h e
  exact ⟨d, h2, hG d (List.mem_of_getElem? h1)⟩
theorem daAll_v {G : PyData → Prop} (h : DaAll K H vs ds) (hG : ∀ d ∈ ds, G d) (e : v ∈ vs) : ∃ d, Da K H v d ∧ G d := by
  obtain ⟨i, hi, rfl⟩ := List.getElem_of_mem e
  exact daAll_mem h hG (List.getElem?_eq_getElem hi)
theorem CandAt.of (h1 : H m = some (.lst vs)) (h2 : ¬ S m) (h3 : DaAll K (wos S H) vs ds) (h4 : ∀ d ∈ ds, G d) : CandAt K S H m vs.length G := ⟨vs, ds, h1, h2, rfl, h3, h4⟩
theorem daAll_snoc (h : DaAll K H vs ds) (h' : Da K H v d) : DaAll K H (vs ++ [v]) (ds ++ [d]) := daAll_appU h (.cons h' .nil)
/-- [e for x in some] -/
theorem co_lc {tl te : TE} {i : Nat} (hl : CO K p S cc H0 σ k m tl G1) (he : ∀ v d H1 S', Ge (wos S H0) (wos S' H1) → Da K (wos S' H1) v d → G1 d → DO K p S' cc H1 ((wipe σ [i]).set i (some v)) k1 te G) (hm : m ≤ 10000 := by decide) (hw : ∀ v, wipe ((wipe σ [i]).set i (some v)) [i] = wipe σ [i] := by intro v; rfl) : CO K p S cc H0 σ (k + m * k1) m (tLc (iList K tl) (gName i) tYes te [i]) G := fun H a Q g hp ha q =>
  hl H a _ g hp (by omega) fun l H1 g1 hp1 c1 => by
    obtain ⟨us, ds, u1, u2, u3, u4, u5⟩ := c1
    refine ⟨l, rfl, ⟨us, SqL.of u1⟩, fun D hD => ?_⟩
    have lD : l ≠ D := ne_of_none u1 hD
    have hS := hp.sp
    have mo := hp1.more (xs := []) hD
    have gm : Ge (wos S H1) (wos (fun b => S b ∨ b = D) (upd H1 D (.lst []))) := ge_more hD
    refine lc_list (K := K) (xs := us) (fun j H' => j ≤ m ∧ GeP p H1 H' ∧ Wd p cc (fun b => S b ∨ b = D) H' (a + k + j * k1) ∧ Ge (wos S H1) (wos (fun b => S b ∨ b = D) H') ∧ ∃ ws es, H' D = some (.lst ws) ∧ ws.length = j ∧ DaAll K (wos (fun b => S b ∨ b = D) H') ws es ∧ ∀ e ∈ es, G e)
      ⟨Nat.zero_le _, GeP.of (Ge.new hD), mo.mono (by omega), gm, [], [], upd_same, rfl, .nil, fun _ z => by cases z⟩ (fun j H' _ z => SqL.of (z.2.1.1 l _ (fun q => u2 (q ▸ hS)) u1 (fun ps z => by cases z))) ?_ ?_
    · rintro j x H2 hx ⟨hj, g2, hp2, gw, ws, es, w1, w2, w3, w4⟩
      obtain ⟨dx, e1, e2⟩ := daAll_mem u4 u5 hx
      have hjm : j < m := by rw [← u3]; exact (List.getElem?_eq_some_iff.mp hx).1
      have hk : j * k1 + k1 ≤ m * k1 := by
        have := Nat.mul_le_mul_right k1 hjm
        rw [Nat.succ_mul] at this
        exact this
      refine ⟨hw x, he x dx H2 _ (((g.trans g1).w hS).trans gw) (gw.da e1) e2 H2 (a + k + j * k1) _ GeP.refl hp2 (by omega) fun y dy H3 g3 hp3 hdy hgy => ?_⟩
      have nD : D ≠ p := fun z => by
        obtain ⟨ys, hy⟩ := hp1.pen.lst
        rw [← z, hD] at hy
        cases hy
      have nDc : D ≠ cc := (hp1.pen.fresh hD).2
      have w1' := g3.1 D _ nD w1 (fun ps z => by cases z)
      have g23 := g3.w (S := fun b => S b ∨ b = D) (Or.inl hS)
      refine ⟨ws, w1', by rw [w2]; exact Nat.lt_of_lt_of_le hjm (Nat.le_trans hm (by decide)), hjm, (g2.trans g3).upd (Nw.none hD), ⟨(hp3.pen.upd nD nDc).mono ?_, hp3.sp, fun b hb => ?_⟩, ?_, ws ++ [y], es ++ [dy], upd_same, by rw [List.length_append, w2]; rfl, ?_, ?_⟩
      · rw [Nat.succ_mul]
        omega
      · by_cases z : b = D
        · rw [z]; exact ⟨_, upd_same⟩
        · obtain ⟨ys, h⟩ := hp3.al b hb
          exact ⟨ys, by rw [upd_ne z]; exact h⟩
      · rw [wos_upd (S := fun b => S b ∨ b = D) (Or.inr rfl)]
        exact gw.trans g23
      · rw [wos_upd (S := fun b => S b ∨ b = D) (Or.inr rfl)]
        exact daAll_snoc (g23.daAll w3) hdy
      · intro e he
        rcases List.mem_append.mp he with he | he
        · exact w4 e he
        · rw [List.mem_singleton.mp he]; exact hgy
    · rintro H2 ⟨_, g2, hp2, _, ws, es, w1, w2, w3, w4⟩
      rw [u3] at hp2 w2
      have nS : ¬ S D := hp1.new hD
      exact q D H2 (g1.trans g2) (⟨hp2.pen.mono (by omega), hS, fun b hb => hp2.al b (Or.inl hb)⟩) ⟨ws, es, w1, nS, w2, (wos_less fun b hb => Or.inl hb).daAll w3, w4⟩
end
end Pr
set_option maxRecDepth 100000
set_option maxHeartbeats 2000000
/-! a word with a wrong sign -/
namespace Pr
open PySem PySem.Spec PyProof.Rows L2 GxR Gx Rp Dl Pd Tx
def WS1 : Str := " !#$&'()*+,-./0123456789:;<=>?@ABCDEFGHIJKLMNOPQRSTUVWXYZ[]^_{|}~"
theorem any_atS {xs : List Nat} {r : Int} (h0 : 0 ≤ r) (h1 : r < (xs.length : Int)) : ∃ c ∈ xs, atI xs r = some c := by
  obtain ⟨n, rfl⟩ : ∃ n : Nat, r = n := ⟨r.toNat, by omega⟩
  have hn : n < xs.length := by omega
  exact ⟨xs[n], List.getElem_mem hn, atI_nat (List.getElem?_eq_getElem hn)⟩
section
variable {P : Program} {w : World} {K : PySem.W.Frag} {mg : Str → Option Value} {base : Heap} {T : List Addr}
def spWrong : Sp := fun vs H Q _ => ∃ (p cc : Addr) (a : Nat) (x : Str), vs = [.ref p, .str x] ∧ PenAt H p cc a ∧ a ≤ 90000 ∧ 0 < x.length ∧ x.length ≤ 100 ∧ (∀ c ∈ x.cps.toList, c < 128) ∧ ∀ H' (y : Str), GeP p H H' → PenAt H' p cc (a + 2) → y.length ≤ 201 → (∀ c ∈ y.cps.toList, c < 128) → Q (.str y) H'
abbrev nWrong : List Str := ["_law_pen", "_law_word", "_law_signs", "_law_at"]
theorem cut_mem {x : Str} {lo hi : Option Int} {c : Nat} (h : c ∈ (cutS x lo hi).cps.toList) : c ∈ x.cps.toList := by
  unfold cutS at h
  exact List.mem_of_mem_drop (List.mem_of_mem_take (by simpa using h))
theorem cut_lenS {x : Str} {lo hi : Option Int} : (cutS x lo hi).length ≤ x.length := by
  unfold cutS
  show ((x.cps.toList.drop _).take _).toArray.size ≤ x.cps.size
  rw [List.size_toArray, List.length_take, List.length_drop, Array.length_toList]
  omega
end
end Pr
set_option maxRecDepth 100000
set_option maxHeartbeats 4000000
namespace Pr
open PySem PySem.Spec PyProof.Rows L2 GxR Gx Rp Dl Pd Tx
theorem okAll_app : ∀ xs ys : List PyData, okAll (xs ++ ys) = (okAll xs && okAll ys)
  | [], ys => by simp [okAll]
  | x :: r, ys => by simp [okAll, okAll_app r ys, Bool.and_assoc]
theorem wgtAll_app : ∀ xs ys : List PyData, wgtAll (xs ++ ys) = wgtAll xs + wgtAll ys
  | [], ys => by simp [wgtAll]
  | x :: r, ys => by simp [wgtAll, wgtAll_app r ys, Nat.add_assoc]
theorem depthAll_app : ∀ xs ys : List PyData, PyData.depthAll (xs ++ ys) = max (PyData.depthAll xs) (PyData.depthAll ys)
  | [], ys => by simp [PyData.depthAll]
  | x :: r, ys => by simp [PyData.depthAll, depthAll_app r ys, Nat.max_assoc]
theorem noLAll_app : ∀ xs ys : List PyData, noLAll (xs ++ ys) = (noLAll xs && noLAll ys)
  | [], ys => by simp [noLAll]
  | x :: r, ys => by simp [noLAll, noLAll_app r ys, Bool.and_assoc]
theorem hasDictAll_app : ∀ xs ys : List PyData, PyData.hasDictAll (xs ++ ys) = (PyData.hasDictAll xs || PyData.hasDictAll ys)
  | [], ys => by simp [PyData.hasDictAll]
  | x :: r, ys => by simp [PyData.hasDictAll, hasDictAll_app r ys, Bool.or_assoc]
theorem bools_all : ∀ bs : List Bool, okAll (bs.map .bool) = true ∧ wgtAll (bs.map .bool) = 7 * bs.length ∧ PyData.depthAll (bs.map .bool) = 0 ∧ noLAll (bs.map .bool) = true ∧ PyData.hasDictAll (bs.map .bool) = false ∧ (bs.map PyData.bool).all isBoolD = true
  | [] => ⟨rfl, rfl, rfl, rfl, rfl, rfl⟩
  | b :: r => by
    obtain ⟨h1, h2, h3, h4, h5, h6⟩ := bools_all r
    refine ⟨by simp [okAll, okD, h1], ?_, by simp [PyData.depthAll, PyData.depth, h3], by simp [noLAll, noL, h4], by simp [PyData.hasDictAll, PyData.hasDict, h5], ?_⟩
    · simp only [List.map_cons, wgtAll, wgt, h2, List.length_cons]
      omega
    · rw [List.map_cons, List.all_cons, h6]
      rfl
section
variable {K : PySem.W.Frag} {H : Hp} {n : Nat}
theorem td_bools {c : Addr} {cs : List Bool} (h : Rd H c (.tup (cs.map V.bl))) (hl : cs.length ≤ 50) : TD K n H (.ref c) (decide (cs.length = n)) := by
  obtain ⟨h1, h2, h3, h4, h5, h6⟩ := bools_all cs
  refine ⟨.tuple (cs.map .bool), .tup h (da_bools cs), ?_, ?_, ?_, fun _ => by simp only [noL, h4], ?_⟩
  · simp only [okD, h1, Bool.and_true, List.length_map]
    exact decide_eq_true (by omega)
  · simp only [wgt, h2]
    omega
  · simp only [PyData.depth, h3]
    omega
  · show (decide ((cs.map PyData.bool).length = n) && (cs.map PyData.bool).all isBoolD) = _
    rw [h6, List.length_map, Bool.and_true]
theorem td_list {c : Addr} {cs : List Bool} (h : Rd H c (.lst (cs.map V.bl))) (hl : cs.length ≤ 50) : TD K n H (.ref c) false := by
  obtain ⟨h1, h2, h3, h4, h5, h6⟩ := bools_all cs
  refine ⟨.list (cs.map .bool), .lst h (da_bools cs), ?_, ?_, ?_, fun z => ?_, rfl⟩
  · simp only [okD, h1, Bool.and_true, List.length_map]
    exact decide_eq_true (by omega)
  · simp only [wgt, h2]
    omega
  · simp only [PyData.depth, h3]
    omega
  · simp only [PyData.hasDict, h5] at z
    cases z
theorem td_wrap {c b : Addr} {cs : List Bool} (h : Rd H c (.tup (cs.map V.bl))) (hb : Rd H b (.tup [.ref c])) (hl : cs.length ≤ 50) : TD K n H (.ref b) false := by
  obtain ⟨h1, h2, h3, h4, h5, h6⟩ := bools_all cs
  refine ⟨.tuple [.tuple (cs.map .bool)], .tup hb (.cons (.tup h (da_bools cs)) .nil), ?_, ?_, ?_, fun _ => by simp only [noL, noLAll, h4, Bool.and_self], ?_⟩
  · simp only [okD, okAll, h1, Bool.and_true, List.length_map]
    rw [Bool.and_eq_true]
    exact ⟨decide_eq_true (by show 1 ≤ 100; omega), decide_eq_true (by omega)⟩
  · simp only [wgt, wgtAll, h2]
    omega
  · simp only [PyData.depth, PyData.depthAll, h3]
    omega
  · show (decide ([PyData.tuple (cs.map .bool)].length = n) && [PyData.tuple (cs.map .bool)].all isBoolD) = false
    rw [show [PyData.tuple (cs.map .bool)].all isBoolD = false from rfl, Bool.and_false]
theorem td_non : TD K n H .non false := ⟨.none, .non, rfl, by simp [wgt], by simp [PyData.depth], fun _ => rfl, rfl⟩
theorem td_bl {b : Bool} : TD K n H (.bl b) false := ⟨.bool b, .bl b, rfl, by simp [wgt], by simp [PyData.depth], fun _ => rfl, rfl⟩
theorem td_str0 {x : Str} (h : okD (.str x) = true) : TD K n H (.str x) false := ⟨.str x, .str x, h, by
  have h' : (decide (x.length ≤ 100) && x.cps.toList.all (fun c => decide (c < 128))) = true := h
  rw [Bool.and_eq_true] at h'
  have := of_decide_eq_true h'.1
  simp only [wgt]
  omega, by simp [PyData.depth], fun _ => rfl, rfl⟩
theorem td_int {i : Int} (h0 : 0 ≤ i) (h1 : i ≤ 1000) : TD K n H (.int i) false := ⟨.int i, .int i, by
  show (decide (0 ≤ i) && decide (i ≤ 1000)) = true
  rw [decide_eq_true h0, decide_eq_true h1]
  rfl, by simp [wgt], by simp [PyData.depth], fun _ => rfl, rfl⟩
theorem td_dict {d : Addr} (h : H d = some (.dK [])) : TD K n H (.ref d) false := ⟨.dict [], .dct (Or.inl h) List.nodup_nil .nil, rfl, by simp [wgt, wgtKv], by simp [PyData.depth, PyData.depthKv], fun _ => rfl, rfl⟩
/-- a piece that is no boolean -/
def Pc (K : PySem.W.Frag) (H : Hp) (x : V) : Prop := ∃ d, Da K H x d ∧ okD d = true ∧ wgt d ≤ 1000 ∧ d.depth ≤ 5 ∧ (d.hasDict = true → noL d = true) ∧ isBoolD d = false
theorem Pc.ge {H' : Hp} {x : V} (h : Pc K H x) (g : Ge H H') : Pc K H' x := let ⟨d, h1, h2⟩ := h; ⟨d, g.da h1, h2⟩
theorem daAll_app : ∀ {xs ys : List V} {ds es : List PyData}, DaAll K H xs ds → DaAll K H ys es → DaAll K H (xs ++ ys) (ds ++ es)
  | [], ys, _, es, h, h' => by cases h; exact h'
  | x :: r, ys, _, es, h, h' => by
    cases h with
    | cons h1 h2 => exact .cons h1 (daAll_app h2 h')
theorem td_piece {c : Addr} {x : V} {b1 b2 : List Bool} (hp : Pc K H x) (h : Rd H c (.tup ((b1.map V.bl ++ [x]) ++ b2.map V.bl))) (h1 : b1.length ≤ 20) (h2 : b2.length ≤ 20) : TD K n H (.ref c) false := by
  obtain ⟨d, hd, p1, p2, p3, p4, p5⟩ := hp
  obtain ⟨a1, a2, a3, a4, a5, a6⟩ := bools_all b1
  obtain ⟨c1, c2, c3, c4, c5, c6⟩ := bools_all b2
  refine ⟨.tuple ((b1.map .bool ++ [d]) ++ b2.map .bool), .tup h (daAll_app (daAll_app (da_bools b1) (.cons hd .nil)) (da_bools b2)), ?_, ?_, ?_, fun z => ?_, ?_⟩
  · simp only [okD, okAll_app, a1, c1, okAll, p1, Bool.and_self, Bool.and_true, List.length_append, List.length_map, List.length_singleton]
    exact decide_eq_true (by omega)
  · simp only [wgt, wgtAll_app, a2, c2, wgtAll]
    omega
  · simp only [PyData.depth, depthAll_app, a3, c3, PyData.depthAll]
    omega
  · simp only [PyData.hasDict, hasDictAll_app, a5, c5, PyData.hasDictAll, Bool.or_false, Bool.false_or] at z
    simp only [noL, noLAll_app, a4, c4, noLAll, p4 z, Bool.and_self]
  · show (decide (((b1.map PyData.bool ++ [d]) ++ b2.map PyData.bool).length = n) && ((b1.map PyData.bool ++ [d]) ++ b2.map PyData.bool).all isBoolD) = false
    rw [List.all_append, List.all_append, show [d].all isBoolD = (isBoolD d && true) from rfl, p5]
    simp
def isI01 (i : Int) : Prop := i = 0 ∨ i = 1
theorem ints_all : ∀ is : List Int, (∀ i ∈ is, isI01 i) → okAll (is.map .int) = true ∧ wgtAll (is.map .int) = 7 * is.length ∧ PyData.depthAll (is.map .int) = 0 ∧ noLAll (is.map .int) = true
  | [], _ => ⟨rfl, rfl, rfl, rfl⟩
  | b :: r, h => by
    obtain ⟨h1, h2, h3, h4⟩ := ints_all r fun i hi => h i (List.mem_cons_of_mem _ hi)
    have hb : okD (.int b) = true := by rcases h b List.mem_cons_self with rfl | rfl <;> rfl
    refine ⟨by simp only [List.map_cons, okAll, hb, h1, Bool.and_self], ?_, by simp [PyData.depthAll, PyData.depth, h3], by simp [noLAll, noL, h4]⟩
    simp only [List.map_cons, wgtAll, wgt, h2, List.length_cons]
    omega
theorem da_ints : ∀ is : List Int, DaAll K H (is.map V.int) (is.map PyData.int)
  | [] => .nil
  | i :: r => .cons (.int i) (da_ints r)
theorem td_ints {c : Addr} {is : List Int} (h : Rd H c (.tup (is.map V.int))) (h0 : 0 < is.length) (hl : is.length ≤ 50) (hi : ∀ i ∈ is, isI01 i) : TD K n H (.ref c) false := by
  obtain ⟨h1, h2, h3, h4⟩ := ints_all is hi
  refine ⟨.tuple (is.map .int), .tup h (da_ints is), ?_, ?_, ?_, fun _ => by simp only [noL, h4], ?_⟩
  · simp only [okD, h1, Bool.and_true, List.length_map]
    exact decide_eq_true (by omega)
  · simp only [wgt, h2]
    omega
  · simp only [PyData.depth, h3]
    omega
  · cases is with
    | nil => exact absurd h0 (by decide)
    | cons i r =>
      show (decide (((i :: r).map PyData.int).length = n) && ((i :: r).map PyData.int).all isBoolD) = false
      rw [List.map_cons, List.all_cons, show isBoolD (.int i) = false from rfl, Bool.false_and, Bool.and_false]
end
end Pr
set_option maxRecDepth 100000
set_option maxHeartbeats 2000000
/-! dict(zip(t, u)) of two tuples -/
namespace Zq
open PySem PySem.Spec PyProof.Rows L2 RZ
section
variable {prog : Program} {w : World} {A : Around} {E : Value → Shared → Prop} {s : Shared}
/-- the zip's next pair while the pair before is still held -/
theorem held_body {z TI TO T i1 i2 l1 l2 : Addr} {f : Bool} {oT : Obj} {k : Nat} {xs ys : Array Value} {x y : Value} {Q : Value → Shared → Prop} (D : ZipApart z TI TO i1 i2 l1 l2)
    (hz : IsZipHeld s.heap z TI TO T f) (hT : s.heap.get? T = some oT) (hTI : IsPair s.heap TI (.ref i1) (.ref i2)) (t1 : s.heap.IsTupleIter i1 l1 k) (t2 : s.heap.IsTupleIter i2 l2 k) (u1 : s.heap.IsTuple l1 xs) (u2 : s.heap.IsTuple l2 ys) (hx : xs[k]? = some x) (hy : ys[k]? = some y)
    (hQ : ∀ h', IsZipHeld h' z TI TO T true → h'.IsTupleIter i1 l1 (k + 1) → h'.IsTupleIter i2 l2 (k + 1) → IsPair h' s.heap.objs.size x y → (∀ c o, c ≠ z → c ≠ i1 → c ≠ i2 → s.heap.get? c = some o → h'.get? c = some o) → Q (.ref s.heap.objs.size) { s with heap := h' }) :
    wpAny (model prog w) A (Builtin.«zip.__next__» ⟨[.ref z], []⟩) (fun fin s' => ∃ v, fin = .done (.ret v) ∧ Q v s') E s := by
  refine (show wpAny _ _ (field (.ref z) 2 >>= _) _ _ _ from wpAny_bind (wpAny_field hz rfl (x := .bool false) rfl ?_))
  refine (show wpAny _ _ (field (.ref z) 3 >>= _) _ _ _ from wpAny_bind (wpAny_field hz rfl (x := .ref TI) rfl (wpAny_bind (wpAny_seqItems hTI rfl ?_))))
  refine (show wpAny _ _ (Builtin.SmallTypes.ownedTupleIsFree (.ref z) >>= _) _ _ _ from wpAny_bind (wpAny_tupleHeld_zip hz hT fun g1 z1 b1 => ?_))
  simp only [Bool.false_eq_true, if_false]
  refine wpAny_bind ?_
  rw [← Array.forIn_toList]; simp only [List.forIn_cons, List.forIn_nil]
  refine wpAny_bind (wpAny_bind (wpAny_holding (show wpAny _ _ (Builtin.SmallTypes.nextOf (.ref i1) >>= _) _ _ _ from wpAny_bind (nextOf_tuple_item (s := { s with heap := g1 }) (t1.extBut b1.extBut D.i1z) (u1.extBut b1.extBut D.l1z) hx fun g2 v1 b2 => wpAny_pure (wpAny_pure ?_)))))
  refine wpAny_bind (wpAny_bind (wpAny_holding (show wpAny _ _ (Builtin.SmallTypes.nextOf (.ref i2) >>= _) _ _ _ from wpAny_bind (nextOf_tuple_item (s := { s with heap := g2 }) ((t2.extBut b1.extBut D.i2z).extBut b2.extBut D.i12.symm) ((u2.extBut b1.extBut D.l2z).extBut b2.extBut D.l2i1) hy fun g3 v2 b3 => wpAny_pure (wpAny_pure (wpAny_pure ?_))))))
  refine (show wpAny _ _ (newTuple [x, y] >>= _) _ _ _ from wpAny_bind (wpAny_newTuple (wpAny_pure ⟨_, rfl, ?_⟩)))
  have sz : g3.objs.size = s.heap.objs.size := by rw [b3.1, b2.1, b1.1]
  have kp : ∀ c o, c ≠ z → c ≠ i1 → c ≠ i2 → s.heap.get? c = some o → g3.get? c = some o := fun c o n1 n2 n3 e => b3.extBut _ _ n3 (b2.extBut _ _ n2 (b1.extBut _ _ n1 e))
  have zz : IsZipHeld g3 z TI TO T true := b3.extBut _ _ D.i2z.symm (b2.extBut _ _ D.i1z.symm z1)
  have pr : IsPair (g3.push { cls := .type "tuple", data := .seq #[x, y] }) g3.objs.size x y := Heap.get?_push_size _ rfl
  have up : ∀ c o, g3.get? c = some o → (g3.push { cls := .type "tuple", data := .seq #[x, y] }).get? c = some o := fun c o e => Heap.get?_push_of_some _ e
  show Q (.ref g3.objs.size) _
  rw [sz] at pr ⊢
  exact hQ _ (up _ _ zz) ((v1.extBut b3.extBut D.i12).at fun o e => up _ o e) (v2.at fun o e => up _ o e) pr fun c o n1 n2 n3 e => up c o (kp c o n1 n2 n3 e)
theorem held_item {z TI TO T i1 i2 l1 l2 : Addr} {f : Bool} {oT : Obj} {k : Nat} {xs ys : Array Value} {x y : Value} {Q : Option Value → Shared → Prop} (D : ZipApart z TI TO i1 i2 l1 l2)
    (hz : IsZipHeld s.heap z TI TO T f) (hT : s.heap.get? T = some oT) (hTI : IsPair s.heap TI (.ref i1) (.ref i2)) (t1 : s.heap.IsTupleIter i1 l1 k) (t2 : s.heap.IsTupleIter i2 l2 k) (u1 : s.heap.IsTuple l1 xs) (u2 : s.heap.IsTuple l2 ys) (hx : xs[k]? = some x) (hy : ys[k]? = some y)
    (hQ : ∀ h', IsZipHeld h' z TI TO T true → h'.IsTupleIter i1 l1 (k + 1) → h'.IsTupleIter i2 l2 (k + 1) → IsPair h' s.heap.objs.size x y → (∀ c o, c ≠ z → c ≠ i1 → c ≠ i2 → s.heap.get? c = some o → h'.get? c = some o) → Q (some (.ref s.heap.objs.size)) { s with heap := h' }) :
    wpAny (model prog w) A (pyNext (.ref z)) Q E s := by
  have ty : s.TypeIs (.ref z) "zip" := ⟨_, hz, rfl⟩
  unfold pyNext
  exact wpAny_bind (wpAny_attempt (wpAny_callSpecial?_slot (name := Str.ofString "__next__") ty F.slot_zip_next (wpAny_call_entry F.slot_zip_next ty F.entry_zip_next (held_body D hz hT hTI t1 t2 u1 u2 hx hy fun h' a1 a2 a3 a4 a5 => wpAny_pure (hQ h' a1 a2 a3 a4 a5)) (F.args_zip_next_1 _))))
/-- the end, while the last pair is still held; both are of one length -/
theorem held_end_body {z TI TO T i1 i2 l1 l2 : Addr} {f : Bool} {oT : Obj} {k : Nat} {xs : Array Value} {Q : Fin → Shared → Prop} (hh : A.handled = none) (D : ZipApart z TI TO i1 i2 l1 l2)
    (hz : IsZipHeld s.heap z TI TO T f) (hT : s.heap.get? T = some oT) (hTI : IsPair s.heap TI (.ref i1) (.ref i2)) (t1 : s.heap.IsTupleIter i1 l1 k) (u1 : s.heap.IsTuple l1 xs) (hx : xs[k]? = none)
    (hE : ∀ h' e, (∀ c o, c ≠ z → c ≠ i1 → s.heap.get? c = some o → h'.get? c = some o) → (∃ o, h'.get? e = some o ∧ o.cls = .type "StopIteration") → E (.ref e) { s with heap := h' }) :
    wpAny (model prog w) A (Builtin.«zip.__next__» ⟨[.ref z], []⟩) Q E s := by
  refine (show wpAny _ _ (field (.ref z) 2 >>= _) _ _ _ from wpAny_bind (wpAny_field hz rfl (x := .bool false) rfl ?_))
  refine (show wpAny _ _ (field (.ref z) 3 >>= _) _ _ _ from wpAny_bind (wpAny_field hz rfl (x := .ref TI) rfl (wpAny_bind (wpAny_seqItems hTI rfl ?_))))
  refine (show wpAny _ _ (Builtin.SmallTypes.ownedTupleIsFree (.ref z) >>= _) _ _ _ from wpAny_bind (wpAny_tupleHeld_zip hz hT fun g1 z1 b1 => ?_))
  simp only [Bool.false_eq_true, if_false]
  refine wpAny_bind ?_
  rw [← Array.forIn_toList]; simp only [List.forIn_cons, List.forIn_nil]
  exact wpAny_bind (wpAny_bind (wpAny_holding (show wpAny _ _ (Builtin.SmallTypes.nextOf (.ref i1) >>= _) _ _ _ from wpAny_bind (nextOf_tuple_end (s := { s with heap := g1 }) hh (t1.extBut b1.extBut D.i1z) (u1.extBut b1.extBut D.l1z) hx fun g2 e b2 he => hE g2 e (fun c o n1 n2 x => b2 _ _ n2 (b1.extBut _ _ n1 x)) he))))
theorem held_end {z TI TO T i1 i2 l1 l2 : Addr} {f : Bool} {oT : Obj} {k : Nat} {xs : Array Value} {Q : Option Value → Shared → Prop} (hh : A.handled = none) (D : ZipApart z TI TO i1 i2 l1 l2)
    (hz : IsZipHeld s.heap z TI TO T f) (hT : s.heap.get? T = some oT) (hTI : IsPair s.heap TI (.ref i1) (.ref i2)) (t1 : s.heap.IsTupleIter i1 l1 k) (u1 : s.heap.IsTuple l1 xs) (hx : xs[k]? = none)
    (hQ : ∀ h', (∀ c o, c ≠ z → c ≠ i1 → s.heap.get? c = some o → h'.get? c = some o) → Q none { s with heap := h' }) : wpAny (model prog w) A (pyNext (.ref z)) Q E s := by
  have ty : s.TypeIs (.ref z) "zip" := ⟨_, hz, rfl⟩
  unfold pyNext
  refine wpAny_bind (wpAny_attempt (wpAny_callSpecial?_slot (name := Str.ofString "__next__") ty F.slot_zip_next (wpAny_call_entry F.slot_zip_next ty F.entry_zip_next (held_end_body hh D hz hT hTI t1 u1 hx fun h' e kp he => ?_) (F.args_zip_next_1 _))))
  obtain ⟨o, ho, hc⟩ := he
  exact wpAny_bind (wpAny_isInstance (T := "StopIteration") (b := true) ⟨o, ho, hc⟩ isSubtype_stop (wpAny_pure (hQ _ kp)))
end
section
variable {prog : Program} {w : World}
/-- what a zip of two tuples that has not begun is known by -/
def Ok0 (z TI TO i1 i2 l1 l2 : Addr) (xs ys : Array Value) (h : Heap) : Prop := IsZip h z TI TO .none ∧ IsPair h TI (.ref i1) (.ref i2) ∧ (∃ a b, IsPair h TO a b) ∧ h.IsTupleIter i1 l1 0 ∧ h.IsTupleIter i2 l2 0 ∧ h.IsTuple l1 xs ∧ h.IsTuple l2 ys
/-- under way, while at d a dict is filled -/
def Stz (z TI TO i1 i2 l1 l2 d : Addr) (xs ys : Array Value) (i : Nat) (h : Heap) : Prop := (IsPair h TI (.ref i1) (.ref i2) ∧ h.IsTupleIter i1 l1 i ∧ h.IsTupleIter i2 l2 i ∧ h.IsTuple l1 xs ∧ h.IsTuple l2 ys) ∧
  ((IsZip h z TI TO .none ∧ ∃ a b, IsPair h TO a b) ∨ ∃ T f oT, IsZipHeld h z TI TO T f ∧ h.get? T = some oT ∧ T ≠ z ∧ T ≠ i1 ∧ T ≠ i2 ∧ T ≠ d)
theorem src {A : Around} {z TI TO i1 i2 l1 l2 d : Addr} {xs ys : Array Value} (hA : A.handled = none) (D : ZipApart z TI TO i1 i2 l1 l2) (hn : xs.size = ys.size) (nd : d ∉ [z, TI, TO, i1, i2, l1, l2]) :
    PairSrc prog w A z d [z, TO, i1, i2] xs.size (fun i k v => xs[i]? = some k ∧ ys[i]? = some v) (Stz z TI TO i1 i2 l1 l2 d xs ys) := by
  simp only [List.mem_cons, List.not_mem_nil, or_false, not_or] at nd
  obtain ⟨n1, n2, n3, n4, n5, n6, n7⟩ := nd
  constructor
  · simp only [List.mem_cons, List.not_mem_nil, or_false, not_or]
    exact ⟨n1, n3, n4, n5⟩
  · rintro i h h' ⟨⟨a1, a2, a3, a4, a5⟩, q⟩ k
    refine ⟨⟨k _ _ (Ne.symm n2) a1, a2.at fun o e => k _ o (Ne.symm n4) e, a3.at fun o e => k _ o (Ne.symm n5) e, a4.at fun o e => k _ o (Ne.symm n6) e, a5.at fun o e => k _ o (Ne.symm n7) e⟩, ?_⟩
    rcases q with ⟨q, a, b, q2⟩ | ⟨T, f, oT, q, q2, r1, r2, r3, r4⟩
    · exact Or.inl ⟨k _ _ (Ne.symm n1) q, a, b, k _ _ (Ne.symm n3) q2⟩
    · exact Or.inr ⟨T, f, oT, k _ _ (Ne.symm n1) q, k _ _ r4 q2, r1, r2, r3, r4⟩
  · rintro i s Q E hi ⟨⟨a1, a2, a3, a4, a5⟩, q⟩ hds hQ
    have ex := Array.getElem?_eq_getElem hi
    have ey := Array.getElem?_eq_getElem (show i < ys.size by omega)
    have big : ∀ {c o}, s.heap.get? c = some o → s.heap.objs.size ≠ c := fun e => Nat.ne_of_gt (Heap.lt_size e)
    have m1 : s.heap.objs.size ≠ i1 := let ⟨_, e, _⟩ := a2; big e
    have m2 : s.heap.objs.size ≠ i2 := let ⟨_, e, _⟩ := a3; big e
    rcases q with ⟨q, a, b, q2⟩ | ⟨T, f, oT, q, q2, r1, r2, r3, r4⟩
    · refine pyNext_zipT_item D q a1 q2 a2 a3 a4 a5 ex ey fun h' b1 b2 b3 b4 b5 b6 k => ?_
      refine hQ s.heap.objs.size _ _ h' s.toks ⟨ex, ey⟩ (.inl ⟨_, b5, rfl, _, rfl⟩) ⟨⟨k _ _ D.TIz D.TITO D.TIi1 D.TIi2 a1, b3, b4, a4.at fun o e => k _ o D.l1z D.l1TO D.l1i1 D.l1i2 e, a5.at fun o e => k _ o D.l2z D.l2TO D.l2i1 D.l2i2 e⟩, ?_⟩ ?_
      · exact Or.inr ⟨s.heap.objs.size, false, _, b1, b5, big q, m1, m2, Nat.ne_of_gt hds⟩
      · intro c o hc e
        simp only [List.mem_cons, List.not_mem_nil, or_false, not_or] at hc
        exact k c o hc.1 hc.2.1 hc.2.2.1 hc.2.2.2 e
    · refine held_item D q q2 a1 a2 a3 a4 a5 ex ey fun h' b1 b3 b4 b5 k => ?_
      refine hQ s.heap.objs.size _ _ h' s.toks ⟨ex, ey⟩ (.inl ⟨_, b5, rfl, _, rfl⟩) ⟨⟨k _ _ D.TIz D.TIi1 D.TIi2 a1, b3, b4, a4.at fun o e => k _ o D.l1z D.l1i1 D.l1i2 e, a5.at fun o e => k _ o D.l2z D.l2i1 D.l2i2 e⟩, ?_⟩ ?_
      · exact Or.inr ⟨T, true, oT, b1, k _ _ r1 r2 r3 q2, r1, r2, r3, r4⟩
      · intro c o hc e
        simp only [List.mem_cons, List.not_mem_nil, or_false, not_or] at hc
        exact k c o hc.1 hc.2.2.1 hc.2.2.2 e
  · rintro s Q E ⟨⟨a1, a2, a3, a4, a5⟩, q⟩ hQ
    have ex : xs[xs.size]? = none := Array.getElem?_eq_none (Nat.le_refl _)
    rcases q with ⟨q, a, b, q2⟩ | ⟨T, f, oT, q, q2, r1, r2, r3, r4⟩
    · refine pyNext_zipT_end hA D q a1 q2 a2 a3 a4 a5 (Or.inl ex) fun h' k => hQ h' s.toks fun c o hc e => ?_
      simp only [List.mem_cons, List.not_mem_nil, or_false, not_or] at hc
      exact k c o hc.1 hc.2.1 hc.2.2.1 hc.2.2.2 e
    · refine held_end hA D q q2 a1 a2 a4 ex fun h' k => hQ h' s.toks fun c o hc e => ?_
      simp only [List.mem_cons, List.not_mem_nil, or_false, not_or] at hc
      exact k c o hc.1 hc.2.2.1 e
theorem arg {z TI TO i1 i2 l1 l2 : Addr} {xs ys : Array Value} (D : ZipApart z TI TO i1 i2 l1 l2) (hn : xs.size = ys.size) :
    PairArg prog w "zip" z [z, TI, TO, i1, i2, l1, l2] [z, TO, i1, i2] xs.size (fun i k v => xs[i]? = some k ∧ ys[i]? = some v) (Ok0 z TI TO i1 i2 l1 l2 xs ys) := by
  constructor
  · exact fun s ok => ⟨_, ok.1, rfl⟩
  · decide
  · rintro h h' ⟨a0, a1, ⟨a, b, a6⟩, a2, a3, a4, a5⟩ k
    exact ⟨k _ _ a0, k _ _ a1, ⟨a, b, k _ _ a6⟩, a2.at fun o e => k _ o e, a3.at fun o e => k _ o e, a4.at fun o e => k _ o e, a5.at fun o e => k _ o e⟩
  · rintro h ⟨a0, a1, ⟨a, c, a6⟩, ⟨o1, h1, _⟩, ⟨o2, h2, _⟩, ⟨o3, h3, _⟩, ⟨o4, h4, _⟩⟩ b hb
    simp only [List.mem_cons, List.not_mem_nil, or_false] at hb
    rcases hb with e | e | e | e | e | e | e <;> rw [e] <;> first | exact ⟨_, a0⟩ | exact ⟨_, a1⟩ | exact ⟨_, a6⟩ | exact ⟨_, h1⟩ | exact ⟨_, h2⟩ | exact ⟨_, h3⟩ | exact ⟨_, h4⟩
  · intro b hb
    simp only [List.mem_cons, List.not_mem_nil, or_false] at hb ⊢
    rcases hb with e | e | e | e <;> simp [e]
  · exact fun A s Q E hA ok h => getAttrOr_miss_zip ok.1 rfl rfl rfl zip_no_keys (by decide +kernel) hA h
  · intro A s d Q E hA ok hd nd h
    obtain ⟨a0, a1, a6, a2, a3, a4, a5⟩ := ok
    exact wpAny_pyIter_zip a0 (h z [z, TO, i1, i2] _ s.heap s.toks (src hA D hn nd) ⟨⟨a1, a2, a3, a4, a5⟩, Or.inl ⟨a0, a6⟩⟩ (fun _ _ e => e) fun b hb => Or.inl hb)
end
end Zq
set_option maxRecDepth 100000
set_option maxHeartbeats 2000000
namespace Zq
open PySem PySem.Spec PyProof.Rows L2 RZ
/-- dict(zip(t, u)): keys that are ints or texts -/
def tDz (K : PySem.W.Frag) (ta : TA) : TE := fun σ H Q => ta σ H fun vs H1 => ∃ (t u : Addr) (ks : List Key) (ws : List V), vs = [.ref t, .ref u] ∧ SqT K H1 t (ks.map kV) ∧ SqT K H1 u ws ∧ ks.length = ws.length ∧ ∀ p, H1 p = none → Q (.ref p) (upd H1 p (.dK (mergeK [] (ks.zip ws))))
theorem kv_zip : ∀ (ks : List Key) (ws : List V) (vs : List Value), Vals ws vs → KV (ks.zip ws) (ks.zip vs)
  | [], _, _, _ => (.nil : Paired _ [] [])
  | k :: ks, [], _, h => by cases h; exact (.nil : Paired _ [] [])
  | k :: ks, w :: ws, _, h => by
    cases h with
    | cons h1 h2 => exact .cons ⟨rfl, h1⟩ (kv_zip ks ws _ h2)
theorem pe_dzip {X : Cx} {a b : Expr} {ta : TA} {p p2 pos pos2 : Pos} (hc : X.calm = true) (hg : Gl X "dict") (hm : X.mg "dict" = none) (hg2 : Gl X "zip") (hm2 : X.mg "zip" = none) (ha : PA X [a, b] ta)
    (he : starEach [.Call (.Name "zip" p2) [a, b] [] pos2] X.env = (false, eval (.Call (.Name "zip" p2) [a, b] [] pos2) X.env) :: starEach [] X.env := by rfl) (hpl0 : (backTo pos (starEach [] X.env)).any (·.1) = false := by rfl)
    (hs : starEach [a, b] X.env = (false, eval a X.env) :: starEach [b] X.env := by rfl) (hpl : (backTo pos2 (starEach [b] X.env)).any (·.1) = false := by rfl) : PE X (.Call (.Name "dict" p) [.Call (.Name "zip" p2) [a, b] [] pos2] [] pos) (tDz X.K ta) := by
  refine ⟨fun pins s σ H Q I h => ?_⟩
  refine wpAny_Call_Name_kw (ld_blt I hg hm boot_dict ?_ (by decide) (by decide))
  refine callWith_type1 ?_ he hpl0
  rw [he]
  show wpAny _ _ (spliced ((false, eval (.Call (.Name "zip" p2) [a, b] [] pos2) X.env) :: backTo pos (starEach [] X.env))) _ _ s
  refine Calls.spliced_cons (Call_ (ld_blt I hg2 hm2 boot_zip (callWith_type1 (thn (ha.run pos2 pins s σ H _ I h) fun us s1 ⟨vs, H1, I1, r1, q1⟩ => ?_) hs hpl)))
  obtain ⟨t, u, ks, ws, ex, hqx, hqy, hlen, q⟩ := q1
  subst ex
  cases r1 with
  | cons r rr =>
    cases rr with
    | cons r' rr =>
      cases rr
      cases r
      cases r'
      obtain ⟨its, rv, p1, z1⟩ := I1.tuple hqx
      obtain ⟨its2, rv2, p2, z2⟩ := I1.tuple hqy
      obtain ⟨o1, ho1, _⟩ := id p1
      obtain ⟨o2, ho2, _⟩ := id p2
      have l1 := rv.length
      have l2 := rv2.length
      rw [List.length_map] at l1
      refine call_zipT (show s1.heap.IsTuple t its.toArray from p1) (show s1.heap.IsTuple u its2.toArray from p2) fun h' hz hTI hTO h1 h2 hsz hk => Calls.spliced_nil ?_
      have I2 : Inv X pins σ H1 { s1 with heap := h' } := I1.kept (t' := s1.toks) hk
      have D := PySem.W.ktu_apart s1.heap.objs.size t u (Heap.lt_size ho1) (Heap.lt_size ho2)
      have hn : its.toArray.size = its2.toArray.size := by rw [List.size_toArray, List.size_toArray]; omega
      have ok : Ok0 (s1.heap.objs.size + 4) (s1.heap.objs.size + 2) (s1.heap.objs.size + 3) s1.heap.objs.size (s1.heap.objs.size + 1) t u its.toArray its2.toArray h' := ⟨hz, hTI, ⟨_, _, hTO⟩, h1, h2, (show s1.heap.IsTuple t its.toArray from p1).at fun o e => hk _ o e, (show s1.heap.IsTuple u its2.toArray from p2).at fun o e => hk _ o e⟩
      refine call_dict_pairs (s := { s1 with heap := h' }) (knd := mixKind X.prog X.w) (kvs := ks.zip its2) (arg D hn) (I1.ok.hd hc) ok ⟨?_, fun i k v hkv => ?_⟩ ?_ fun h'' tk hd' hkeep => ?_
      · rw [List.length_zip, List.size_toArray]
        omega
      · obtain ⟨e1, e2⟩ := hkv
        have e1' : its[i]? = some k := by simpa using e1
        have e2' : its2[i]? = some v := by simpa using e2
        have hi : i < ks.length := by
          have := (List.getElem?_eq_some_iff.mp e1').1
          omega
        have ek : (ks.map kV)[i]? = some (kV ks[i]) := by rw [List.getElem?_map, List.getElem?_eq_getElem hi]; rfl
        obtain ⟨k', ek', rk⟩ := rv.get ek
        rw [e1'] at ek'
        cases ek'
        refine ⟨ks[i], ?_, kV_is (P := X.prog) (w := X.w) rk⟩
        rw [List.getElem?_zip_eq_some]
        exact ⟨List.getElem?_eq_getElem hi, e2'⟩
      · rw [List.size_toArray]
        omega
      · have hm : ((({ s1 with heap := h' } : Shared).heap.objs.size) == sysModules) = false := beq_eq_false_iff_ne.mpr (Nat.ne_of_gt I2.big)
        have rel := kv_zip ks ws its2 rv2
        have len : (mergeK [] (ks.zip ws)).length ≤ sizeLine := by
          refine Nat.le_trans (length_mergeK _ _) ?_
          rw [List.length_nil, Nat.zero_add, List.length_zip]
          omega
        have big : s1.heap.objs.size ≤ h'.objs.size := by rw [hsz]; omega
        refine ⟨.ref h'.objs.size, upd H1 h'.objs.size (.dK (mergeK [] (ks.zip ws))), I1.laid (t' := tk) (fun b o e => hkeep b o (fun z => ?_) (hk b o e)) big (show ObjOk X.prog X.w _ _ _ (.dK (mergeK [] (ks.zip ws))) from ⟨len, hm, merged [] (ks.zip its2), KV.merge rel .nil, hd'⟩), rfl, q _ (I1.hok.fresh big)⟩
        have lt := Heap.lt_size e
        simp only [List.mem_cons, List.not_mem_nil, or_false] at z
        rcases z with z | z | z | z <;> (rw [z] at lt; first | exact absurd lt (Nat.not_lt.mpr (Nat.le_add_right _ _)) | exact absurd lt (Nat.lt_irrefl _))
end Zq
set_option maxRecDepth 100000
set_option maxHeartbeats 2000000
/-! for i, x in enumerate(t), t a tuple -/
namespace Zq
open PySem PySem.Spec PyProof.Rows L2 RZ
abbrev tIt (t : Addr) : Obj := { cls := .type "tuple_iterator", data := .fields #[.ref t, .int 0 0] }
abbrev eOb (it : Addr) : Obj := { cls := .type "enumerate", data := .fields #[.none, .bool false, .ref it, rawInt 0, .none, .none] }
set_option maxHeartbeats 4000000 in
theorem meets_enumT (t : Addr) (items : Array Value) : Meets (Builtin.«enumerate.__new__» ⟨[.type "enumerate", .ref t], []⟩) (fun _ R s => s.heap.IsTuple t items ∧ R (.ok (.ret (.ref (s.heap.push (tIt t)).objs.size))) { s with heap := (s.heap.push (tIt t)).push (eOb s.heap.objs.size) }) := by
  refine .of_wp fun prog w A R s h => ?_
  obtain ⟨hp, g, d, tk, os⟩ := s
  obtain ⟨h1, h⟩ := h
  have hsub := sub_enumerate
  have go : ∀ {A' : Around} {E : Value → Shared → Prop} {Q : Value → Shared → Prop}, Q (.ref hp.objs.size) ⟨hp.push (tIt t), g, d, tk, os⟩ → wpAny (model prog w) A' (pyIter (.ref t)) Q E ⟨hp, g, d, tk, os⟩ := fun q => (begins_tuple t items).iter prog w _ _ ⟨hp, g, d, tk, os⟩ _ h1 q
  wp_walk using go
  refine wpAny_stack_any fun st => wpAny_pure ?_
  split
  next c _ _ _ _ _ => cases (c == Value.type "enumerate") <;> (wp_walk using go; exact ⟨_, rfl, h⟩)
  next => wp_walk using go; exact ⟨_, rfl, h⟩
section
variable {prog : Program} {w : World} {A : Around} {E : Value → Shared → Prop} {s : Shared}
theorem call_enumT {t : Addr} {items : Array Value} {Q : Value → Shared → Prop} (hL : s.heap.IsTuple t items)
    (h : ∀ h', IsEnum h' (s.heap.objs.size + 1) s.heap.objs.size 0 .none → h'.IsTupleIter s.heap.objs.size t 0 → (∀ b o, s.heap.get? b = some o → h'.get? b = some o) → Q (.ref (s.heap.objs.size + 1)) { s with heap := h' }) :
    wpAny (model prog w) A (call (.type "enumerate") [.ref t]) Q E s := by
  refine callType_new F.called_enumerate (by decide) (F.typeCall_enumerate_1 _) (F.newCall_enumerate_1 _) (fun obj => F.args_object_init_2 obj _) F.entry_enumerate_new (meets_enumT t items) ⟨hL, ?_⟩
  have z1 : (s.heap.push (tIt t)).objs.size = s.heap.objs.size + 1 := Heap.size_push ..
  have e1 : IsEnum ((s.heap.push (tIt t)).push (eOb s.heap.objs.size)) (s.heap.objs.size + 1) s.heap.objs.size 0 .none := by
    have q := Heap.get?_push_size (s.heap.push (tIt t)) (o := eOb s.heap.objs.size) rfl
    rw [z1] at q
    exact q
  refine (show _ ∧ _ from by rw [z1]; exact ⟨⟨_, e1, rfl⟩, h _ e1 ⟨_, Heap.get?_push_of_some _ (Heap.get?_push_size _ rfl), rfl, rfl⟩ fun b o x => Heap.get?_push_of_some _ (Heap.get?_push_of_some _ x)⟩)
end
section
variable {prog : Program} {w : World} {A : Around} {E : Value → Shared → Prop} {s : Shared}
theorem enumT_end {e it t : Addr} {i : Nat} {items : Array Value} {old : Value} {Q : Option Value → Shared → Prop} (hh : A.handled = none) (he : IsEnum s.heap e it ((i : Nat) : Int) old) (hit : s.heap.IsTupleIter it t i) (hl : s.heap.IsTuple t items) (hx : items[i]? = none)
    (hQ : ∀ h', Heap.ExtBut it s.heap h' → Q none { s with heap := h' }) : wpAny (model prog w) A (pyNext (.ref e)) Q E s := by
  have ty : s.TypeIs (.ref e) "enumerate" := ⟨_, he, rfl⟩
  unfold pyNext
  refine wpAny_bind (wpAny_attempt (wpAny_callSpecial?_slot (name := Str.ofString "__next__") ty F.slot_enumerate_next (wpAny_call_entry F.slot_enumerate_next ty F.entry_enumerate_next (show wpAny _ _ (field (.ref e) 2 >>= _) _ _ _ from wpAny_bind (wpAny_field he rfl (x := .ref it) rfl (wpAny_bind (nextOf_tuple_end hh hit hl hx fun h' x kp he' => ?_)))) (F.args_enumerate_next_1 _))))
  obtain ⟨o, ho, hc⟩ := he'
  exact wpAny_bind (wpAny_isInstance (T := "StopIteration") (b := true) ⟨o, ho, hc⟩ isSubtype_stop (wpAny_pure (hQ _ kp)))
end
/-- the tuple at a, each item in a new pair with its place -/
def IeT (K : PySem.W.Frag) (a : Addr) : It :=
  ⟨fun i H => ∃ (xs : List V) (x : V), SqT K H a xs ∧ xs[i]? = some x, fun i H v H' => ∃ T x, v = .ref T ∧ H T = none ∧ H' = upd H T (.tup [.int (i : Nat), x]) ∧ ∀ xs, SqT K H a xs → xs[i]? = some x, fun i H => ∃ xs : List V, SqT K H a xs ∧ xs.length ≤ i⟩
theorem turn_enumT {P : Program} {w : World} {K : PySem.W.Frag} {elts : List Expr} {kk : Nat} {tpos : Pos} (a e it : Addr) (hait : a ≠ it) (hae : a ≠ e) :
    Turn P w K (.Tuple elts kk tpos) (IeT K a) [e, it] e (fun i h => (∃ old, IsEnum h e it ((i : Nat) : Int) old) ∧ h.IsTupleIter it a i ∧ e ≠ it) := by
  constructor
  · simp
  · rintro i h ⟨⟨old, he⟩, ⟨o, ho, hc, hd⟩, _⟩ b hb
    simp only [List.mem_cons, List.not_mem_nil, or_false] at hb
    rcases hb with z | z <;> rw [z]
    · exact ⟨_, he, fun v q => by cases q⟩
    · exact ⟨o, ho, fun v q => by rw [hd] at q; cases q⟩
  · rintro i h h' ⟨⟨old, he⟩, hi, hne⟩ k
    exact ⟨⟨old, k e (by simp) _ he⟩, hi.at fun o q => k it (by simp) o q, hne⟩
  · intro X hP hw hK hc i pins s σ H E I hf st hg
    subst hP hw hK
    obtain ⟨⟨old, he⟩, hit, hne⟩ := st
    obtain ⟨xs, x, hq, hx⟩ := hg
    obtain ⟨its, rv, p, hz⟩ := I.tuple hq
    have pT : s.heap.IsTuple a its.toArray := p
    obtain ⟨u, hu, ru⟩ := rv.get hx
    have li : i < its.toArray.size := by
      have := (List.getElem?_eq_some_iff.mp hu).1
      simpa using this
    have el : e < s.heap.objs.size := Heap.lt_size he
    have il : it < s.heap.objs.size := let ⟨_, q, _⟩ := hit; Heap.lt_size q
    refine wpAny_pyNext_enum_itemC (Draws.tuple (show X.A.in1.handled = none from I.ok.hd hc) it a hait its.toArray) he ⟨hit, pT⟩ li hne (by simp [hne, Ne.symm hae]) fun y h' tk hy ho st' hT hsz hk => ?_
    have ey : y = u := by
      have : its[i]? = some y := by simpa using hy
      rw [hu] at this
      exact (Option.some.inj this).symm
    subst ey
    refine ⟨_, rfl, wpAny_letOwnedTupleGo_enum (s := { s with heap := h', toks := tk + 1 }) ho fun h'' he' sb => ?_⟩
    have hT2 : h''.get? s.heap.objs.size = some { cls := .type "tuple", data := .seq #[.int i tk, y] } := (sb.2 _ (Nat.ne_of_gt el)).trans hT
    have new : ObjOk X.prog X.w (upd H s.heap.objs.size (.tup [.int (i : Nat), x])) h'' s.heap.objs.size (.tup [.int (i : Nat), x]) := ⟨(by decide : 2 ≤ sizeLine), [.int i tk, y], .cons ⟨_, rfl⟩ (.cons ru .nil), ⟨_, hT2, rfl, _, rfl⟩⟩
    have out : ∀ b ob, b ∉ [e, it] → s.heap.get? b = some ob → h''.get? b = some ob := fun b ob hb q => by
      simp only [List.mem_cons, List.not_mem_nil, or_false, not_or] at hb
      exact (sb.2 b hb.1).trans (hk b ob hb.1 hb.2 q)
    have I1 : Inv X pins σ (upd H s.heap.objs.size (.tup [.int (i : Nat), x])) { s with heap := h'', toks := tk + 1 } := I.turnedNew (ch := [e, it]) out hf (Nat.le_refl _) new
    refine ⟨.ref s.heap.objs.size, _, I1, rfl, ⟨_, x, rfl, I.hok.fresh (Nat.le_refl _), rfl, fun ys hy => by rw [I.tuple_inj hy hq]; exact hx⟩, ⟨⟨y, ?_⟩, st'.1.at fun o q => (sb.2 it (Ne.symm hne)).trans q, hne⟩, fun b hb => ?_⟩
    · rw [show ((i + 1 : Nat) : Int) = (i : Int) + 1 by omega]
      exact he'
    · have lt : b < s.heap.objs.size := by
        simp only [List.mem_cons, List.not_mem_nil, or_false] at hb
        rcases hb with z | z <;> rw [z]
        · exact el
        · exact il
      rw [upd_ne (Nat.ne_of_lt lt)]
      exact (hf b hb).1
  · intro X hP hw hK hc i pins s σ H E I hf st hg
    subst hP hw hK
    obtain ⟨⟨old, he⟩, hit, hne⟩ := st
    obtain ⟨xs, hq, hx⟩ := hg
    obtain ⟨its, rv, p, hz⟩ := I.tuple hq
    obtain ⟨f0, f1, f2, f3, f4, f5⟩ := hf it (by simp)
    have hl := rv.length
    exact enumT_end (I.ok.hd hc) he hit (show s.heap.IsTuple a its.toArray from p) (by simp; omega) fun h' eb => ⟨rfl, I.turned (t' := s.toks) (fun b o hb q => eb b o hb q) f0 f1 f3 f4 f5⟩
  · rintro A i s Q E ⟨⟨_, he⟩, _⟩ h
    exact wpAny_pyIter_enum he h
def iEnT (K : PySem.W.Frag) (ta : TA) : TI := fun σ H R => ta σ H fun vs H1 => ∃ a xs, vs = [.ref a] ∧ SqT K H1 a xs ∧ R (IeT K a) H1
theorem pi_enumT {X : Cx} {e : Expr} {ta : TA} {p pos tpos : Pos} {elts : List Expr} {kk : Nat} (hg : Gl X "enumerate") (hm : X.mg "enumerate" = none) (ha : PA X [e] ta) (hs : starEach [e] X.env = [(false, eval e X.env)] := by rfl) : PI X (.Tuple elts kk tpos) (.Call (.Name "enumerate" p) [e] [] pos) (iEnT X.K ta) := by
  refine ⟨fun pins s σ H R I h => ?_⟩
  refine Call_ (ld_blt I hg hm boot_enumerate (callWith_type1 (thn (ha.run pos pins s σ H _ I h) fun us s1 ⟨vs, H1, I1, r1, q1⟩ => ?_) hs rfl))
  obtain ⟨a, xs, rfl, hq, q⟩ := q1
  cases r1 with
  | cons r rr =>
    cases rr
    cases r
    obtain ⟨its, rv, p', hz⟩ := I1.tuple hq
    have la : a < s1.heap.objs.size := let ⟨_, q, _⟩ := p'; Heap.lt_size q
    refine call_enumT (show s1.heap.IsTuple a its.toArray from p') fun h' he hit hk => wpAny_pyIter_enum he ?_
    have I2 : Inv X pins σ H1 { s1 with heap := h' } := I1.kept (t' := s1.toks) hk
    refine ⟨s1.heap.objs.size + 1, [s1.heap.objs.size + 1, s1.heap.objs.size], _, _, H1, rfl, I2, turn_enumT a (s1.heap.objs.size + 1) s1.heap.objs.size (Nat.ne_of_lt la) (Nat.ne_of_lt (Nat.lt_succ_of_lt la)), ⟨⟨.none, he⟩, hit, Nat.succ_ne_self _⟩, fun b hb => ?_, q⟩
    have le : s1.heap.objs.size ≤ b := by
      simp only [List.mem_cons, List.not_mem_nil, or_false] at hb
      rcases hb with z | z <;> rw [z]
      · exact Nat.le_add_right _ _
      · exact Nat.le_refl _
    exact I1.fpOk le (I1.hok.fresh le)
theorem walk_enumT {K : PySem.W.Frag} {a : Addr} {xs : List V} : Walk (IeT K a) xs.length (fun H => SqT K H a xs) (YPair (fun i => some (.int (i : Nat))) (fun i => xs[i]?)) := by
  refine ⟨fun i _ hi q => ⟨xs, xs[i], q, by simp [hi]⟩, fun _ q => ⟨xs, q, Nat.le_refl _⟩, fun i H v H' _ q y => ?_⟩
  obtain ⟨T, x, h1, h2, h3, h4⟩ := y
  exact ⟨T, .int (i : Nat), x, h1, h2, h3, rfl, h4 xs q⟩
end Zq
set_option maxRecDepth 100000
set_option maxHeartbeats 2000000
/-! The program's winners: facts, conditions -/
namespace Pr
open PySem PySem.Spec PyProof.Rows L2 GxR Gx Rp Dl Pd Tx Zq
/-- the facts: each flag with its value -/
def factsK (fl : List Str) (bs : List Bool) : List (Key × V) := (fl.map fun f => (Sum.inr f : Key)).zip (bs.map V.bl)
theorem facts_fst : ∀ {fl : List Str} {bs : List Bool}, fl.length = bs.length → (factsK fl bs).map (·.1) = fl.map fun f => (Sum.inr f : Key)
  | [], [], _ => rfl
  | f :: fl, b :: bs, h => by
    have ih := facts_fst (fl := fl) (bs := bs) (by simpa using h)
    unfold factsK at ih ⊢
    simp only [List.map_cons, List.zip_cons_cons]
    exact congrArg _ ih
  | [], _ :: _, h => by simp at h
  | _ :: _, [], h => by simp at h
theorem facts_at : ∀ {fl : List Str} {bs : List Bool} {f : Str}, fl.length = bs.length → f ∈ fl → ∃ b : Bool, valV (factsK fl bs) (Sum.inr f : Key) = some (.bl b)
  | [], _, _, _, h => by cases h
  | g :: fl, [], _, h, _ => by simp at h
  | g :: fl, b :: bs, f, h, hf => by
    by_cases e : g = f
    · exact ⟨b, by rw [← e]; exact valV_pos rfl⟩
    · have hf' : f ∈ fl := by
        rcases List.mem_cons.mp hf with z | z
        · exact absurd z.symm e
        · exact z
      obtain ⟨b', h'⟩ := facts_at (fl := fl) (bs := bs) (by simpa using h) hf'
      refine ⟨b', ?_⟩
      rw [← h']
      exact valV_neg fun z => e (Sum.inr.inj z)
/-- a condition holds -/
def holdsK (F ck : List (Key × V)) : Bool := ck.all fun q => decide (valV F q.1 = some q.2)
section
variable {P : Program} {w : World} {K : PySem.W.Frag} {mg : Str → Option Value} {base : Heap} {T : List Addr}
def spFacts : Sp := fun vs H Q _ => ∃ (m t s : Addr) (rest : List V) (fl : List Str) (bs : List Bool), vs = [.ref m, .ref s] ∧ Rd H m (.tup (.ref t :: rest)) ∧ Rd H t (.tup (fl.map V.str)) ∧ fl.Nodup ∧ Rd H s (.tup (bs.map V.bl)) ∧ bs.length = fl.length ∧ fl.length ≤ 3 ∧ ∀ H' a, Ge H H' → H a = none → H' a = some (.dK (factsK fl bs)) → Q (.ref a) H'
abbrev nFacts : List Str := ["keymap", "state"]
theorem scFacts : FnScope nFacts ["keymap", "state"] (defScope s_facts_of) := ⟨rfl, rfl, rfl, by decide +kernel, rfl, by decide +kernel, by decide +kernel⟩
theorem ok_facts_of {f c : Addr} {fd : FuncData} (F : FunC K "facts_of" s_facts_of f fd c) (B : Bn mg) : FnOk P w K mg base CX0 1 f fd ["keymap", "state"] spFacts := by
  refine F.ok scFacts (fun vs H Q E ⟨_, _, _, _, _, _, h, _⟩ => by rw [h]; rfl) (fun A outer s H vs Q E hr h => ?_)
  obtain ⟨m, t, s, rest, fl, bs, rfl, hm, ht, hn, hs, hl, h3, q⟩ := h
  refine ⟨_, pss_one (ps_ret (pe_dzip rfl rfl B.dict rfl B.zip (pa_cons (pe_ix ix_tup (pv 0) pe_int (fun _ _ => rfl)) (pa_cons (pv 1) pa_nil)))), ?_⟩
  refine ⟨_, rfl, m, _, _, _, rfl, rfl, Or.inl hm, atI_nat (j := 0) rfl, _, rfl, t, s, fl.map fun f => (Sum.inr f : Key), bs.map V.bl, rfl, ?_, Or.inl hs, by rw [List.length_map, List.length_map, hl], fun a ha => ?_⟩
  · rw [List.map_map]
    exact Or.inl ht
  · have nd : ((factsK fl bs).map (·.1)).Nodup := by
      rw [facts_fst hl.symm]
      exact List.pairwise_map.mpr (hn.imp fun h z => h (Sum.inr.inj z))
    have e : mergeK [] (factsK fl bs) = factsK fl bs := mergeK_app (acc := []) nd
    have e' : mergeK [] ((fl.map fun f => (Sum.inr f : Key)).zip (bs.map V.bl)) = factsK fl bs := e
    rw [e']
    exact q _ a (Ge.new ha) ha upd_same
def spHolds (T : List Addr) : Sp := fun vs H Q _ => ∃ (c a : Addr) (ck F : List (Key × V)), vs = [.ref c, .ref a] ∧ H c = some (.dK ck) ∧ (ck.map (·.1)).Nodup ∧ H a = some (.dK F) ∧ c ≠ a ∧ (∀ q ∈ ck, ∃ b b' : Bool, valV F q.1 = some (.bl b) ∧ q.2 = .bl b') ∧ Tb T H ∧ ∀ H', Ge H H' → Q (.bl (holdsK F ck)) H'
abbrev nHolds : List Str := ["condition", "facts", "flag"]
theorem scHolds : FnScope nHolds ["condition", "facts"] (defScope s_holds) := ⟨rfl, rfl, rfl, by decide +kernel, rfl, by decide +kernel, by decide +kernel⟩
theorem ok_holds {f c Pt : Addr} {fd : FuncData} (F : FunC K "holds" s_holds f fd c) (B : Bn mg) (TB : TabB base mg c Pt) (hPt : Pt ∈ T) : FnOk P w K mg base CX0 2 f fd ["condition", "facts"] (spHolds T) := by
  refine F.ok scHolds (fun vs H Q E ⟨_, _, _, _, h, _⟩ => by rw [h]; rfl) (fun A outer s H vs Q E hr h => ?_)
  obtain ⟨c, a, ck, F, rfl, hc, hn, ha, hca, hv, hT, q⟩ := h
  refine ⟨_, pss_one (ps_ret (pe_lock (pe_allX (k := 0) (own := [("flag", 2)]) hr rfl B.all TB rfl scHolds.nd (gxs (N := nHolds) (sc := defScope s_holds) (by decide +kernel) rfl (by decide +kernel) rfl) (pi_keys (pv 0))
        (fun _ _ _ _ _ _ _ _ _ => pg_name (i := 2) scHolds.nd rfl (Or.inl rfl)) (fun _ _ _ _ _ _ _ _ _ => pts_nil)
        (fun _ _ _ _ _ _ _ _ r => pe_cmpR op_eq (pe_dget (hu_of r) (pv 1) (pv 2) (fun _ _ => rfl)) (pe_dget (hu_of r) (pv 0) (pv 2) (fun _ _ => rfl)) (by rfl))))), ?_⟩
  refine rd_allD (fun k v => decide (valV F k = some v)) rfl hc (hT Pt hPt) (fun _ => rfl) (fun od k v H2 hm g2 R hR => ?_) fun H2 g2 => q H2 g2
  obtain ⟨b, b', e1, e2⟩ := hv (k, v) hm
  change valV F k = some (.bl b) at e1
  change v = .bl b' at e2
  have hl : H2 c = some (.frz od (.dK ck)) := g2.1 c _ upd_same fun ps z => by cases z
  have hf : H2 a = some (.dK F) := g2.1 a _ (by rw [upd_ne (Ne.symm hca)]; exact ha) fun ps z => by cases z
  have z := hR H2 (Ge.refl _)
  rw [e1, e2] at z
  have e3 : decide (some (V.bl b) = some (V.bl b')) = decide (V.bl b = V.bl b') := decide_eq_decide.mpr ⟨fun z => Option.some.inj z, fun z => by rw [z]⟩
  rw [e3] at z
  refine ⟨_, rfl, _, rfl, a, .bl b, rfl, Or.inl ⟨F, k, Or.inl hf, rfl, e1.symm⟩, _, rfl, _, rfl, c, v, rfl, Or.inl ⟨ck, k, Or.inr ⟨od, hl⟩, rfl, (valV_nodup hn hm).symm⟩, ?_⟩
  subst e2
  exact ⟨rfl, z⟩
end
end Pr
set_option maxRecDepth 100000
set_option maxHeartbeats 2000000
namespace Pr
open PySem PySem.Spec PyProof.Rows L2 GxR Gx Rp Dl Pd Tx RZ
section
variable {P : Program} {w : World} {K : PySem.W.Frag} {mg : Str → Option Value} {base : Heap} {T : List Addr}
def flagsOf : PyData → PyData
  | .tuple (f :: _) => f
  | _ => .none
/-- a keymap, a thing -/
def spSt (K : PySem.W.Frag) (T : List Addr) : Sp := fun vs H Q _ => ∃ u v m d, vs = [u, v] ∧ Da K H u m ∧ small m = true ∧ isMap m = true ∧ Da K H v d ∧ small d = true ∧ Tb T H ∧ ∀ H', Ge H H' → Q (.bl (fitsState (lenT (flagsOf m)) d)) H'
theorem spSt_len : ∀ vs H Q E, spSt K T vs H Q E → vs.length = 2 := fun vs H Q E ⟨_, _, _, _, h, _⟩ => by rw [h]; rfl
abbrev nFits : List Str := ["keymap", "thing", "value"]
theorem scFits : FnScope nFits ["keymap", "thing"] (defScope s_fits_state) := ⟨rfl, rfl, rfl, by decide +kernel, rfl, by decide +kernel, by decide +kernel⟩
theorem isMap_shape {m : PyData} (h : isMap m = true) : ∃ fs o cs l i, m = .tuple [.tuple fs, o, .dict cs, l, .int i] ∧ (∀ f ∈ fs, ∃ s, f = PyData.str s) ∧ fs.length ≤ 3 := by
  match m, h with
  | .tuple [f, o, c, l, wt], h =>
    have h' : (areFlags f && areOutside (itemsT f) o && areCommands (itemsT f) c && areLayers (itemsT f) (itemsD c) l && isWithin 1 1000 wt) = true := h
    simp only [Bool.and_eq_true] at h'
    obtain ⟨⟨⟨⟨h1, h2⟩, h3⟩, h4⟩, h5⟩ := h'
    obtain ⟨fs, rfl⟩ : ∃ fs, f = .tuple fs := by
      cases f <;> first | exact ⟨_, rfl⟩ | cases h1
    obtain ⟨cs, rfl⟩ : ∃ cs, c = .dict cs := by
      cases c <;> first | exact ⟨_, rfl⟩ | cases h3
    obtain ⟨i, rfl⟩ : ∃ i, wt = .int i := by
      cases wt <;> first | exact ⟨_, rfl⟩ | cases h5
    refine ⟨fs, o, cs, l, i, rfl, flags_strs h1, ?_⟩
    have z : (areNames (.tuple fs) && decide (fs.length ≤ 3)) = true := h1
    rw [Bool.and_eq_true] at z
    exact of_decide_eq_true z.2
theorem ok_fits_state {f c Pt : Addr} {fd : FuncData} (F : FunC K "fits_state" s_fits_state f fd c) (B : Bn mg) (TB : TabB base mg c Pt) (hPt : Pt ∈ T) (D : DfP P w K mg base 1 "is_boolean" ["thing"] (spD K T isBoolD)) : FnOk P w K mg base CX0 3 f fd ["keymap", "thing"] (spSt K T) := by
  refine F.ok scFits spSt_len (fun A outer s H vs Q E hr h => ?_)
  obtain ⟨u, v, m, d, rfl, hu, hsm, hm, hd, hs, hT, q⟩ := h
  refine ⟨_, pss_cons (ps_if (PW.pt (pw_or (pt_not (pt_val (pe_isi (pv 1) rfl B.isinstance rfl B.tuple bt_tuple))) (pw_or1 (pt_cmpR op_ne (pe_callB call_len_seq rfl B.len PySem.boot_len (pa_cons (pv 1) pa_nil)) (pe_callB call_len_seq rfl B.len PySem.boot_len (pa_cons (pe_ix ix_tup (pv 0) pe_int (fun _ _ => rfl)) pa_nil)) (nomark _))))) (pss_one (ps_ret pe_bl)) pss_nil)
    (pss_one (ps_ret (pe_allX (k := 1) (own := [("value", 2)]) hr rfl B.all TB rfl scFits.nd (gxs (N := nFits) (sc := defScope s_fits_state) (by decide +kernel) rfl (by decide +kernel) rfl) (pi_tup (pv 1))
        (fun _ _ _ _ _ _ _ _ _ => pg_name (i := 2) scFits.nd rfl (Or.inl rfl)) (fun _ _ _ _ _ _ _ _ _ => pts_nil) (fun _ _ _ _ _ _ _ _ r => pcall D r pass0 rfl (pa_cons (pv 2) pa_nil))))), ?_⟩
  obtain ⟨fs, o, cs, l, i, rfl, hfs, hf3⟩ := isMap_shape hm
  have q0 : ∀ H', Ge H H' → Q (.bl (fitsState fs.length d)) H' := q
  refine rd_tIsi rfl hd ⟨_, rfl, ?_⟩
  cases e : isTy "tuple" d with
  | false =>
    refine iteT (iteT ?_)
    have z := q0 H (Ge.refl H)
    have e1 : fitsState fs.length d = false := by
      cases d <;> first | rfl | simp [isTy, tyName] at e
    rw [e1] at z
    exact z
  | true =>
    refine iteF ?_
    obtain ⟨ds, rfl⟩ := isTy_tup e
    have q' : ∀ H', Ge H H' → Q (.bl (decide (ds.length = fs.length) && ds.all isBoolD)) H' := q0
    cases hd with
    | @tup a xs _ hx hda =>
      have hl := daAll_len hda
      cases hu with
      | @tup b ys _ hy hya =>
        cases hya with
        | cons k1 _ =>
          cases k1 with
          | @tup b2 zs _ hz hza =>
            have hl2 := daAll_len hza
            refine ⟨_, rfl, a, xs, rfl, Or.inr (Or.inl hx), _, rfl, b, _, _, _, rfl, rfl, Or.inl hy, atI_nat (j := 0) rfl, b2, zs, rfl, Or.inr (Or.inl hz), rfl, _, rfl, ?_⟩
            have ed : (!decide (V.int (xs.length : Int) = V.int (zs.length : Int))) = !decide (ds.length = fs.length) := by
              congr 1
              refine decide_eq_decide.mpr ⟨fun z => ?_, fun z => ?_⟩
              · have z' : (xs.length : Int) = zs.length := V.int.inj z
                omega
              · rw [show (xs.length : Int) = zs.length by omega]
            rw [ed]
            cases e1 : decide (ds.length = fs.length) with
            | false =>
              refine iteT ?_
              have z := q' H (Ge.refl H)
              rw [e1] at z
              exact z
            | true =>
              refine iteF ?_
              rw [e1] at q'
              exact rd_allT isBoolD rfl hx hda (hT Pt hPt) (fun _ => rfl) (fun x d' H' hm' g hd' R hR => ⟨_, rfl, x, d', rfl, hd', small_mem (small_tup hs).2 hm', g.tb hT, hR⟩) q'
end
end Pr
set_option maxRecDepth 100000
set_option maxHeartbeats 2000000
namespace Pr
open PySem PySem.Spec PyProof.Rows L2 GxR Gx Rp Dl Pd Tx Zq
/-- a binding: keys, condition, command -/
structure BI where
  x : Str
  ck : List (Key × V)
  cm : V
def BAt (H : Hp) (fl : List Str) (v : V) (bi : BI) : Prop := ∃ b c, v = .ref b ∧ H b = some (.tup [.str bi.x, .ref c, bi.cm]) ∧ H c = some (.dK bi.ck) ∧ (bi.ck.map (·.1)).Nodup ∧ ∀ q ∈ bi.ck, ∃ f b', q = (Sum.inr f, V.bl b') ∧ f ∈ fl
def LAt (H : Hp) (fl : List Str) (e : V) (bis : List BI) : Prop := ∃ a vs, e = .ref a ∧ H a = some (.tup vs) ∧ Paired (BAt H fl) vs bis
/-- the layers, at ly -/
def KAt (H : Hp) (fl : List Str) (ly : Addr) (bss : List (List BI)) : Prop := ∃ es, H ly = some (.tup es) ∧ Paired (LAt H fl) es bss
theorem Paired.imp {α β : Type} {F G : α → β → Prop} (h : ∀ a b, F a b → G a b) : ∀ {xs : List α} {ys : List β}, Paired F xs ys → Paired G xs ys
  | _, _, .nil => .nil
  | _, _, .cons a b => .cons (h _ _ a) (Paired.imp h b)
theorem paired_at {α β : Type} {F : α → β → Prop} {xs : List α} {ys : List β} (h : Paired F xs ys) : ∀ {i : Nat} {x : α}, xs[i]? = some x → ∃ y, ys[i]? = some y ∧ F x y := by
  induction h with
  | nil => intro i x e; simp at e
  | cons a _ ih =>
    intro i x e
    cases i with
    | zero => simp at e; subst e; exact ⟨_, rfl, a⟩
    | succ i =>
      obtain ⟨y, h1, h2⟩ := ih (i := i) (x := x) (by simpa using e)
      exact ⟨y, by simpa using h1, h2⟩
theorem BAt.ge {H H' : Hp} {fl : List Str} {v : V} {bi : BI} (h : BAt H fl v bi) (g : Ge H H') : BAt H' fl v bi := let ⟨b, c, h1, h2, h3, h4⟩ := h; ⟨b, c, h1, g.1 b _ h2 (fun ps z => by cases z), g.dk h3, h4⟩
theorem LAt.ge {H H' : Hp} {fl : List Str} {v : V} {bis : List BI} (h : LAt H fl v bis) (g : Ge H H') : LAt H' fl v bis := let ⟨b, vs, h1, h2, h3⟩ := h; ⟨b, vs, h1, g.1 b _ h2 (fun ps z => by cases z), Paired.imp (fun _ _ z => z.ge g) h3⟩
theorem KAt.ge {H H' : Hp} {fl : List Str} {ly : Addr} {bss : List (List BI)} (h : KAt H fl ly bss) (g : Ge H H') : KAt H' fl ly bss := let ⟨es, h1, h2⟩ := h; ⟨es, g.1 ly _ h1 (fun ps z => by cases z), Paired.imp (fun _ _ z => z.ge g) h2⟩
theorem BAt.gp {p : Addr} {xs : List V} {H H' : Hp} {fl : List Str} {v : V} {bi : BI} (h : BAt H fl v bi) (g : GeP p H H') (hp : H p = some (.lst xs)) : BAt H' fl v bi := let ⟨b, c, h1, h2, h3, h4⟩ := h; ⟨b, c, h1, g.1 b _ (fun z => by rw [z, hp] at h2; cases h2) h2 (fun ps z => by cases z), g.dk hp h3, h4⟩
theorem LAt.gp {p : Addr} {xs : List V} {H H' : Hp} {fl : List Str} {v : V} {bis : List BI} (h : LAt H fl v bis) (g : GeP p H H') (hp : H p = some (.lst xs)) : LAt H' fl v bis := let ⟨b, vs, h1, h2, h3⟩ := h; ⟨b, vs, h1, g.1 b _ (fun z => by rw [z, hp] at h2; cases h2) h2 (fun ps z => by cases z), Paired.imp (fun _ _ z => z.gp g hp) h3⟩
theorem KAt.gp {p : Addr} {xs : List V} {H H' : Hp} {fl : List Str} {ly : Addr} {bss : List (List BI)} (h : KAt H fl ly bss) (g : GeP p H H') (hp : H p = some (.lst xs)) : KAt H' fl ly bss := let ⟨es, h1, h2⟩ := h; ⟨es, g.1 ly _ (fun z => by rw [z, hp] at h1; cases h1) h1 (fun ps z => by cases z), Paired.imp (fun _ _ z => z.gp g hp) h2⟩
def hit (F : List (Key × V)) (keys : Str) (bi : BI) : Bool := decide (V.str bi.x = V.str keys) && holdsK F bi.ck
/-- the first binding of a layer that wins -/
def firstIn (F : List (Key × V)) (keys : Str) : List BI → Nat → Option Nat
  | [], _ => none
  | b :: r, j => if hit F keys b then some j else firstIn F keys r (j + 1)
def winnerB (F : List (Key × V)) (keys : Str) : List (List BI) → Nat → Option (Nat × Nat)
  | [], _ => none
  | l :: r, i => match firstIn F keys l 0 with | some j => some (i, j) | none => winnerB F keys r (i + 1)
def WinR (H : Hp) (r : V) : Option (Nat × Nat) → Prop
  | none => r = .non
  | some (i, j) => ∃ p, r = .ref p ∧ H p = some (.tup [.int (i : Nat), .int (j : Nat)])
section
variable {P : Program} {w : World} {K : PySem.W.Frag} {mg : Str → Option Value} {base : Heap} {T : List Addr}
/-- a keymap and a state of it that are right; its bindings apart -/
structure KS0 (K : PySem.W.Frag) (T : List Addr) (H : Hp) (u v : V) (m t o cd ly s : Addr) (fl : List Str) (bs : List Bool) (wt : Int) : Prop where
  eu : u = .ref m
  ev : v = .ref s
  hm : H m = some (.tup [.ref t, .ref o, .ref cd, .ref ly, .int wt])
  ht : Rd H t (.tup (fl.map V.str))
  hs : Rd H s (.tup (bs.map V.bl))
  nd : fl.Nodup
  l3 : fl.length ≤ 3
  lb : bs.length = fl.length
  da : ∃ d, Da K H u d ∧ small d = true ∧ isMap d = true ∧ lenT (flagsOf d) = fl.length
  tb : Tb T H
structure KS (K : PySem.W.Frag) (T : List Addr) (H : Hp) (u v : V) (m t o cd ly s : Addr) (fl : List Str) (bss : List (List BI)) (bs : List Bool) (wt : Int) : Prop extends KS0 K T H u v m t o cd ly s fl bs wt where
  hk : KAt H fl ly bss
theorem rdT' {H H' : Hp} {c : Addr} {xs : List V} (g : Ge H H') (h : Rd H c (.tup xs)) : Rd H' c (.tup xs) := g.rd (fun ps z => by cases z) h
theorem KS0.ge {H H' : Hp} {u v : V} {m t o cd ly s : Addr} {fl : List Str} {bs : List Bool} {wt : Int} (k : KS0 K T H u v m t o cd ly s fl bs wt) (g : Ge H H') : KS0 K T H' u v m t o cd ly s fl bs wt :=
  ⟨k.eu, k.ev, g.1 m _ k.hm (fun ps z => by cases z), rdT' g k.ht, rdT' g k.hs, k.nd, k.l3, k.lb, let ⟨d, h1, h2⟩ := k.da; ⟨d, g.da h1, h2⟩, g.tb k.tb⟩
theorem KS.ge {H H' : Hp} {u v : V} {m t o cd ly s : Addr} {fl : List Str} {bss : List (List BI)} {bs : List Bool} {wt : Int} (k : KS K T H u v m t o cd ly s fl bss bs wt) (g : Ge H H') : KS K T H' u v m t o cd ly s fl bss bs wt :=
  ⟨k.toKS0.ge g, k.hk.ge g⟩
theorem KS0.lock {H : Hp} {u v : V} {m t o cd ly s : Addr} {fl : List Str} {bs : List Bool} {wt : Int} {a : Addr} {od : Obj} {kvs : List (Key × V)} (k : KS0 K T H u v m t o cd ly s fl bs wt) (hH : H a = some (.dK kvs)) : KS0 K T (upd H a (.frz od (.dK kvs))) u v m t o cd ly s fl bs wt :=
  ⟨k.eu, k.ev, by rw [upd_ne (fun z => by have e := k.hm; rw [z, hH] at e; cases e)]; exact k.hm, rd_lock (Or.inl hH) (fun o w z => by cases z) k.ht, rd_lock (Or.inl hH) (fun o w z => by cases z) k.hs, k.nd, k.l3, k.lb, let ⟨d, h1, h2⟩ := k.da; ⟨d, da_lockA (Or.inl hH) h1, h2⟩, tb_lock (Or.inl hH) k.tb⟩
def spCheckS (K : PySem.W.Frag) (T : List Addr) : Sp := fun vs H Q _ => ∃ u v m t o cd ly s fl bs wt, vs = [u, v] ∧ KS0 K T H u v m t o cd ly s fl bs wt ∧ ∀ H', Ge H H' → Q .non H'
theorem scCheckS : FnScope ["keymap", "state"] ["keymap", "state"] (defScope s_check_state) := ⟨rfl, rfl, rfl, by decide +kernel, rfl, by decide +kernel, by decide +kernel⟩
theorem ok_check_state {f c : Addr} {fd : FuncData} (F : FunC K "check_state" s_check_state f fd c) (D1 : DfP P w K mg base 8 "check_map" ["keymap"] (spCheck K T)) (D2 : DfP P w K mg base 3 "fits_state" ["keymap", "thing"] (spSt K T)) : FnOk P w K mg base CX0 9 f fd ["keymap", "state"] (spCheckS K T) := by
  refine F.ok scCheckS (fun vs H Q E ⟨_, _, _, _, _, _, _, _, _, _, _, h, _⟩ => by rw [h]; rfl) (fun A outer s0 H vs Q E hr h => ?_)
  obtain ⟨u, v, m, t, o, cd, ly, s, fl, bs, wt, rfl, k, q⟩ := h
  obtain ⟨d, hd, h1, h2, h3⟩ := k.da
  refine ⟨_, pss_cons (ps_expr (pcall D1 hr pass0 rfl (pa_cons (pv 0) pa_nil))) (pss_one (ps_if (pt_not (pt_val (pcall D2 (hr.mono (by decide)) pass0 rfl (pa_cons (pv 0) (pa_cons (pv 1) pa_nil))))) (pss_one ps_never) pss_nil)), ?_⟩
  refine ⟨u, rfl, u, d, rfl, hd, h1, h2, k.tb, fun H1 g1 => ?_⟩
  have k1 := k.ge g1
  obtain ⟨b1, b2, b3, b4, b5, b6⟩ := bools_all bs
  have hv : Da K H1 v (.tuple (bs.map .bool)) := by rw [k1.ev]; exact .tup k1.hs (da_bools bs)
  have sm : small (.tuple (bs.map .bool)) = true := by
    have := (shown_le (.tuple (bs.map .bool)) (by simp only [okD, b1, Bool.and_true, List.length_map]; exact decide_eq_true (by have := k.lb; have := k.l3; omega))).2.2
    exact this
  refine ⟨_, rfl, _, rfl, u, v, d, .tuple (bs.map .bool), rfl, g1.da hd, h1, h2, hv, sm, k1.tb, fun H2 g2 => ⟨_, rfl, ?_⟩⟩
  have e : fitsState (lenT (flagsOf d)) (.tuple (bs.map .bool)) = true := by
    show (decide ((bs.map PyData.bool).length = lenT (flagsOf d)) && (bs.map PyData.bool).all isBoolD) = true
    rw [b6, h3, List.length_map, k.lb]
    simp
  rw [e]
  exact iteF (q H2 (g1.trans g2))
end
end Pr
set_option maxRecDepth 100000
set_option maxHeartbeats 2000000
namespace Pr
open PySem PySem.Spec PyProof.Rows L2 GxR Gx Rp Dl Pd Tx Zq
theorem first_drop (F : List (Key × V)) (keys : Str) {bis : List BI} {j : Nat} {b : BI} (h : bis[j]? = some b) (k : Nat) : firstIn F keys (bis.drop j) k = if hit F keys b then some k else firstIn F keys (bis.drop (j + 1)) (k + 1) := by
  obtain ⟨hj, e⟩ := List.getElem?_eq_some_iff.mp h
  rw [List.drop_eq_getElem_cons hj, e]
  rfl
theorem winner_drop (F : List (Key × V)) (keys : Str) {bss : List (List BI)} {j : Nat} {l : List BI} (h : bss[j]? = some l) (k : Nat) : winnerB F keys (bss.drop j) k = match firstIn F keys l 0 with | some i => some (k, i) | none => winnerB F keys (bss.drop (j + 1)) (k + 1) := by
  obtain ⟨hj, e⟩ := List.getElem?_eq_some_iff.mp h
  rw [List.drop_eq_getElem_cons hj, e]
  rfl
end Pr
set_option maxRecDepth 100000
set_option maxHeartbeats 2000000
namespace Pr
open PySem PySem.Spec PyProof.Rows L2 GxR Gx Rp Dl Pd Tx Zq
/-- a dict comprehension over any walk -/
theorem dc_it {J : It} {n : Nat} {G : Hp → Prop} {Y : Nat → Hp → V → Hp → Prop} (w : Walk J n G Y) {g : TG} {tt : TT} {tk tv : TE} {vs : List Nat} {σ : L2.St} {H1 : Hp} {D : Addr} {Qd : Hp → Prop} (Pv : Nat → Hp → Prop) (h0 : Pv 0 (upd H1 D (.dK []))) (hG : ∀ i H, i ≤ n → Pv i H → G H)
    (hs : ∀ i x H H', i < n → Pv i H → Y i H x H' → g x (wipe σ vs) H' fun σ2 H2 => wipe σ2 vs = wipe σ vs ∧ tt σ2 H2 fun b H3 =>
      if b = true then tk σ2 H3 fun y H4 => tv σ2 H4 fun z H5 => ∃ kvs k, y = kV k ∧ H5 D = some (.dK kvs) ∧ kvs.length < sizeLine ∧ Pv (i + 1) (upd H5 D (.dK (putK kvs k z))) else Pv (i + 1) H3) (hd : ∀ H, Pv n H → Qd H) :
    ∃ W : Nat → Nat → Hp → Prop, (∃ m, W 0 m (upd H1 D (.dK []))) ∧ ∀ i m H, W i m H →
      (J.stop i H ∧ Qd H) ∨ (J.go i H ∧ ∃ Nx : Hp → Prop, (∀ H', Nx H' → ∃ m', m' < m ∧ W (i + 1) m' H') ∧ ∀ x H', J.yld i H x H' → g x (wipe σ vs) H' fun σ2 H2 => wipe σ2 vs = wipe σ vs ∧ tt σ2 H2 fun b H3 =>
        if b = true then tk σ2 H3 fun y H4 => tv σ2 H4 fun z H5 => ∃ kvs k, y = kV k ∧ H5 D = some (.dK kvs) ∧ kvs.length < sizeLine ∧ Nx (upd H5 D (.dK (putK kvs k z))) else Nx H3) := by
  refine ⟨fun i m H => m = n - i ∧ i ≤ n ∧ Pv i H, ⟨n, by simp, Nat.zero_le _, h0⟩, ?_⟩
  rintro i m H ⟨rfl, hi, p⟩
  have q := hG i H hi p
  by_cases lt : i < n
  · exact Or.inr ⟨w.goes i H lt q, Pv (i + 1), fun H' p' => ⟨n - (i + 1), by omega, rfl, lt, p'⟩, fun x H' y => hs i x H H' lt p (w.yields i H x H' lt q y)⟩
  · obtain rfl : i = n := by omega
    exact Or.inl ⟨w.stops H q, hd H p⟩
def stepW (F acc : List (Key × V)) (bi : BI) : List (Key × V) := if (valV acc (Sum.inr bi.x : Key)).isNone && holdsK F bi.ck then acc ++ [(Sum.inr bi.x, bi.cm)] else acc
def winAll (F : List (Key × V)) (bs : List BI) : List (Key × V) := bs.foldl (stepW F) []
def boundK (F : List (Key × V)) (bss : List (List BI)) : List (Key × V) := (winAll F bss.flatten).filter fun q => !decide (q.2 = V.non)
theorem valV_isNone {kvs : List (Key × V)} {k : Key} (h : valV kvs k = none) : k ∉ kvs.map (·.1) := fun z => by
  induction kvs with
  | nil => cases z
  | cons p r ih =>
    by_cases e : p.1 = k
    · rw [valV_pos e] at h
      cases h
    · rw [valV_neg e] at h
      rcases List.mem_cons.mp z with z | z
      · exact e z.symm
      · exact ih h z
theorem stepW_nd {F acc : List (Key × V)} {bi : BI} (h : (acc.map (·.1)).Nodup) : ((stepW F acc bi).map (·.1)).Nodup := by
  unfold stepW
  split
  · rename_i hc
    rw [Bool.and_eq_true, Option.isNone_iff_eq_none] at hc
    have f := valV_isNone hc.1
    rw [List.map_append, List.nodup_append]
    refine ⟨h, by simp, fun x hx y hy e => ?_⟩
    simp at hy
    subst hy
    subst e
    exact f hx
  · exact h
theorem stepW_len {F acc : List (Key × V)} {bi : BI} : (stepW F acc bi).length ≤ acc.length + 1 := by
  unfold stepW
  split
  · simp
  · omega
theorem fold_nd {F : List (Key × V)} : ∀ (bs : List BI) (acc : List (Key × V)), (acc.map (·.1)).Nodup → ((bs.foldl (stepW F) acc).map (·.1)).Nodup
  | [], _, h => h
  | b :: r, acc, h => fold_nd r _ (stepW_nd h)
theorem fold_len {F : List (Key × V)} : ∀ (bs : List BI) (acc : List (Key × V)), (bs.foldl (stepW F) acc).length ≤ acc.length + bs.length
  | [], _ => Nat.le_refl _
  | b :: r, acc => by
    have h1 := fold_len (F := F) r (stepW F acc b)
    have h2 := stepW_len (F := F) (acc := acc) (bi := b)
    show (r.foldl (stepW F) (stepW F acc b)).length ≤ acc.length + (r.length + 1)
    omega
theorem Ge.nw {H H' : Hp} {d : Addr} (g : Ge H H') (h : H' d = none) : Nw H d := by
  refine ⟨fun o e => ?_, fun t => ?_⟩
  · cases o with
    | tbl ps => exact ⟨ps, rfl⟩
    | _ =>
      have z := g.1 d _ e (fun ps z => by cases z)
      rw [h] at z
      cases z
  · obtain ⟨ps, e, _⟩ := g.2 d t
    rw [h] at e
    cases e
theorem winAll_snoc (F : List (Key × V)) (xs : List BI) (b : BI) : winAll F (xs ++ [b]) = stepW F (winAll F xs) b := by
  unfold winAll
  rw [List.foldl_append]
  rfl
theorem flat_take {bss : List (List BI)} {i : Nat} {bis : List BI} (h : bss[i]? = some bis) : (bss.take (i + 1)).flatten = (bss.take i).flatten ++ bis := by
  rw [List.take_succ, h, List.flatten_append]
  simp
section
variable {P : Program} {w : World} {K : PySem.W.Frag} {mg : Str → Option Value} {base : Heap} {T : List Addr}
def spBoundIn (K : PySem.W.Frag) (T : List Addr) : Sp := fun vs H Q _ => ∃ u v m t o cd ly s fl bss bs wt, vs = [u, v] ∧ KS K T H u v m t o cd ly s fl bss bs wt ∧ bss.flatten.length ≤ 100 ∧ ∀ H' a, Ge H H' → Nw H a → H' a = some (.dK (boundK (factsK fl bs) bss)) → Q (.ref a) H'
abbrev nBoundIn : List Str := ["keymap", "state", "facts", "winning", "bindings", "keys", "condition", "command"]
theorem scBoundIn : FnScope nBoundIn ["keymap", "state"] (defScope s_bound_in) := ⟨rfl, rfl, rfl, by decide +kernel, rfl, by decide +kernel, by decide +kernel⟩
theorem ok_bound_in {f c : Addr} {fd : FuncData} (F : FunC K "bound_in" s_bound_in f fd c) (Df : DfP P w K mg base 1 "facts_of" ["keymap", "state"] spFacts) (Dh : DfP P w K mg base 2 "holds" ["condition", "facts"] (spHolds T)) : FnOk P w K mg base CX0 3 f fd ["keymap", "state"] (spBoundIn K T) := by
  refine F.ok scBoundIn (fun vs H Q E ⟨_, _, _, _, _, _, _, _, _, _, _, _, h, _⟩ => by rw [h]; rfl) (fun A outer s0 H vs Q E hr h => ?_)
  obtain ⟨u, v, m, t, o, cd, ly, s, fl, bss, bs, wt, rfl, k, h100, q⟩ := h
  have hu := hu_of hr
  refine ⟨_, pss_cons (ps_asg (pcall Df (hr.mono (by decide)) pass0 rfl (pa_cons (pv 0) (pa_cons (pv 1) pa_nil))) (pg_name (i := 2) scBoundIn.nd rfl (Or.inl rfl)))
    (pss_cons (ps_asg pe_dnewK (pg_name (i := 3) scBoundIn.nd rfl (Or.inr rfl)))
    (pss_cons (ps_for PassesOwn.never rfl (pi_tup (pe_ix ix_tup (pv 0) pe_int (fun _ _ => rfl))) (pg_name (i := 4) scBoundIn.nd rfl (Or.inl rfl))
      (pss_one (ps_for PassesOwn.never rfl (pi_tup (pv 4)) (pg_tup rfl (pgs_cons (pg_name (i := 5) scBoundIn.nd rfl (Or.inl rfl)) (pgs_cons (pg_name (i := 6) scBoundIn.nd rfl (Or.inl rfl)) (pgs_cons (pg_name (i := 7) scBoundIn.nd rfl (Or.inl rfl)) pgs_nil))))
        (pss_one (ps_if (PW.pt (pw_and (pt_cmp (pc_dnotin hu (pv 5) (pv 3))) (pw_and1 (pt_val (pcall Dh hr pass0 rfl (pa_cons (pv 6) (pa_cons (pv 2) pa_nil))))))) (pss_one (ps_dput hu (pv 3) (pv 5) (pv 7) rfl)) pss_nil)))))
    (pss_one (ps_ret (pe_lock (pe_dc (own := [("keys", 5)]) (g := gName 5) rfl scBoundIn.nd (pi_keys (pv 3)) (blkOk_by (N := nBoundIn) (sc := defScope s_bound_in) (by decide +kernel)) (fun _ _ _ _ _ => pg_name (i := 5) scBoundIn.nd rfl (Or.inl rfl))
        (fun _ _ _ _ _ => pts_one (pt_cmpR op_notN (pe_dget hu (pv 3) (pv 5) (fun _ _ => rfl)) pe_non (nomark _))) (fun _ _ _ _ _ => pv 5) (fun _ _ _ _ _ => pe_dget hu (pv 3) (pv 5) (fun _ _ => rfl)))))))), ?_⟩
  refine ⟨u, rfl, v, rfl, m, t, s, _, fl, bs, by rw [k.eu, k.ev], Or.inl k.hm, k.ht, k.nd, k.hs, k.lb, k.l3, fun H3 a g3 ha0 ha => fun wd hwd => ?_⟩
  have k3 := k.ge g3
  obtain ⟨es, e1', e2⟩ := k.hk
  have e1 := g3.1 ly _ e1' (fun ps z => by cases z)
  have pl := Paired.length e2
  have hu' : u = .ref m := k3.eu
  subst hu'
  have gw := Ge.new (o := .dK []) hwd
  refine ⟨_, rfl, m, _, _, _, rfl, rfl, Or.inl (Or.inl (gw.1 m _ k3.hm (fun ps z => by cases z))), atI_nat (j := 3) rfl, ly, rfl, ⟨es, Or.inl (Or.inl (gw.1 ly _ e1 (fun ps z => by cases z)))⟩, ?_⟩
  refine for_tup (K := K) (a := ly) (xs := es) (fun i σ H' => i ≤ es.length ∧ Ge H3 H' ∧ H' wd = some (.dK (winAll (factsK fl bs) (bss.take i).flatten)) ∧ ∃ x4 x5 x6 x7, σ = [some (.ref m), some v, some (.ref a), some (.ref wd), x4, x5, x6, x7])
    ⟨Nat.zero_le _, gw, upd_same, _, _, _, _, rfl⟩ (fun i σ H' _ z => Or.inl (Or.inl (z.2.1.1 ly _ e1 (fun ps z => by cases z)))) ?_ ?_
  · rintro i x σ H4 hx ⟨_, g4, hw4, x4, x5, x6, x7, rfl⟩
    obtain ⟨bis, hb1, hb2⟩ := paired_at e2 hx
    have hi : i < es.length := (List.getElem?_eq_some_iff.mp hx).1
    obtain ⟨la, vs, rfl, l1', l2⟩ := hb2
    have pl2 := Paired.length l2
    have l1 := g3.1 la _ l1' (fun ps z => by cases z)
    refine ⟨_, rfl, la, rfl, ⟨vs, Or.inl (Or.inl (g4.1 la _ l1 (fun ps z => by cases z)))⟩, ?_⟩
    refine for_tup (K := K) (a := la) (xs := vs) (fun j σ H' => j ≤ vs.length ∧ Ge H3 H' ∧ H' wd = some (.dK (winAll (factsK fl bs) ((bss.take i).flatten ++ bis.take j))) ∧ ∃ x5 x6 x7, σ = [some (.ref m), some v, some (.ref a), some (.ref wd), some (.ref la), x5, x6, x7])
      ⟨Nat.zero_le _, g4, by rw [List.take_zero, List.append_nil]; exact hw4, _, _, _, rfl⟩ (fun j σ H' _ z => Or.inl (Or.inl (z.2.1.1 la _ l1 (fun ps z => by cases z)))) ?_ ?_
    · rintro j x σ H5 hx5 ⟨_, g5, hw5, y5, y6, y7, rfl⟩
      obtain ⟨bi, hc1, hc2⟩ := paired_at l2 hx5
      have hj : j < vs.length := (List.getElem?_eq_some_iff.mp hx5).1
      obtain ⟨b, cc, rfl, b1', b2', b3, b4⟩ := hc2
      have b1 := (g3.trans g5).1 b _ b1' (fun ps z => by cases z)
      have b2 := (g3.trans g5).dk b2'
      have et : bis.take (j + 1) = bis.take j ++ [bi] := by rw [List.take_succ, hc1]; rfl
      have es' : winAll (factsK fl bs) ((bss.take i).flatten ++ bis.take (j + 1)) = stepW (factsK fl bs) (winAll (factsK fl bs) ((bss.take i).flatten ++ bis.take j)) bi := by
        rw [et, ← List.append_assoc, winAll_snoc]
      have alen : (winAll (factsK fl bs) ((bss.take i).flatten ++ bis.take j)).length ≤ 100 := by
        have h1 := fold_len (F := factsK fl bs) ((bss.take i).flatten ++ bis.take j) []
        have h2 : ((bss.take i).flatten ++ bis.take j).length ≤ bss.flatten.length := by
          have e4 := flat_take hb1
          have s1 : ((bss.take i).flatten ++ bis.take j).Sublist (bss.take (i + 1)).flatten := by
            rw [e4]
            exact (List.Sublist.refl _).append (List.take_sublist _ _)
          have s2 : ((bss.take (i + 1)).flatten).Sublist bss.flatten := by
            have z : bss.flatten = (bss.take (i + 1)).flatten ++ (bss.drop (i + 1)).flatten := by rw [← List.flatten_append, List.take_append_drop]
            rw [z]
            exact List.sublist_append_left _ _
          exact (s1.trans s2).length_le
        show ((((bss.take i).flatten ++ bis.take j).foldl (stepW (factsK fl bs)) [])).length ≤ 100
        have h3 : ([] : List (Key × V)).length = 0 := rfl
        omega
      generalize hacc : winAll (factsK fl bs) ((bss.take i).flatten ++ bis.take j) = acc at *
      refine ⟨b, _, rfl, SqT.of b1, rfl, _, _, rfl, _, _, rfl, _, _, rfl, rfl, ?_⟩
      refine ⟨_, rfl, _, rfl, wd, _, rfl, DGet.k (k := Sum.inr bi.x) hw5, _, rfl, ?_⟩
      cases e5 : valV acc (Sum.inr bi.x : Key) with
      | some z =>
        refine iteF (iteF ⟨hj, g5, ?_, _, _, _, rfl⟩)
        rw [es', hw5]
        unfold stepW
        rw [e5]
        rfl
      | none =>
        refine iteT ⟨_, rfl, _, rfl, cc, a, bi.ck, factsK fl bs, rfl, b2, b3, g5.dk ha, ne_of_none b2' ha0, fun q' hq' => ?_, g5.tb k3.tb, fun H8 g8 => ⟨_, rfl, ?_⟩⟩
        · obtain ⟨fx, b', rfl, hfx⟩ := b4 q' hq'
          obtain ⟨b0, hb0⟩ := facts_at (bs := bs) k3.lb.symm hfx
          exact ⟨b0, b', hb0, rfl⟩
        · have hw8 := g8.dk hw5
          cases e6 : holdsK (factsK fl bs) bi.ck with
          | false =>
            refine iteF ⟨hj, g5.trans g8, ?_, _, _, _, rfl⟩
            rw [es', hw8]
            unfold stepW
            rw [e5, e6]
            rfl
          | true =>
            refine iteT ⟨_, rfl, _, rfl, _, rfl, wd, _, rfl, DPut.k (k := Sum.inr bi.x) hw8 (Nat.lt_of_le_of_lt alen (by decide)), hj, Ge.upd (g5.trans g8) hwd, ?_, _, _, _, rfl⟩
            rw [es', upd_same, putK_app (valV_isNone e5)]
            unfold stepW
            rw [e5, e6]
            rfl
    · rintro σ H5 ⟨_, g5, hw5, y5, y6, y7, rfl⟩
      rw [pl2, List.take_length, ← flat_take hb1] at hw5
      exact ⟨hi, g5, hw5, _, _, _, _, rfl⟩
  · rintro σ H4 ⟨_, g4, hw4, x4, x5, x6, x7, rfl⟩
    rw [pl, List.take_length] at hw4
    have nd : ((winAll (factsK fl bs) bss.flatten).map (·.1)).Nodup := fold_nd _ _ List.nodup_nil
    have alen : (winAll (factsK fl bs) bss.flatten).length ≤ 100 := by
      have h1 := fold_len (F := factsK fl bs) bss.flatten []
      have h3 : ([] : List (Key × V)).length = 0 := rfl
      show ((bss.flatten.foldl (stepW (factsK fl bs)) [])).length ≤ 100
      omega
    have qq : ∀ H' a, Ge H H' → Nw H a → H' a = some (.dK ((winAll (factsK fl bs) bss.flatten).filter fun q => !decide (q.2 = V.non))) → Q (.ref a) H' := q
    generalize winAll (factsK fl bs) bss.flatten = acc at *
    refine ⟨wd, .dK acc, hw4, True.intro, fun od => ⟨.ref wd, rfl, wd, od, rfl, Or.inl ⟨acc, upd_same, fun D hD => ?_⟩⟩⟩
    have dw : D ≠ wd := fun z => by rw [z, upd_same] at hD; cases hD
    have hD4 : H4 D = none := by rw [upd_ne dw] at hD; exact hD
    refine dc_it (n := acc.length) (walk_keys (d := wd) (o := od) (kvs := acc)) (fun k H' => k ≤ acc.length ∧ Ge (upd H4 wd (.frz od (.dK acc))) H' ∧ H' D = some (.dK ((acc.take k).filter fun q => !decide (q.2 = V.non))))
      ⟨Nat.zero_le _, Ge.new hD, upd_same⟩ (fun k H' _ z => z.2.1.1 wd _ upd_same (fun ps z => by cases z)) ?_ ?_
    · rintro k x H5 H6 hk ⟨_, g5, hd5⟩ ⟨rfl, key, val, ek, rfl⟩
      have hl : H6 wd = some (.frz od (.dK acc)) := g5.1 wd _ upd_same (fun ps z => by cases z)
      have hm := List.mem_of_getElem? ek
      have et : acc.take (k + 1) = acc.take k ++ [(key, val)] := by rw [List.take_succ, ek]; rfl
      have hget : DGet H6 wd (kV key) (some val) := Or.inl ⟨acc, key, Or.inr ⟨od, hl⟩, rfl, (valV_nodup nd hm).symm⟩
      refine ⟨rfl, _, rfl, _, rfl, wd, val, rfl, hget, rfl, _, rfl, ?_⟩
      have ef : (acc.take (k + 1)).filter (fun q => !decide (q.2 = V.non)) = (acc.take k).filter (fun q => !decide (q.2 = V.non)) ++ (if (!decide (val = V.non)) = true then [(key, val)] else []) := by
        rw [et, List.filter_append]
        cases e : (!decide (val = V.non)) <;> simp [e]
      cases e : (!decide (val = V.non)) with
      | false =>
        refine iteF ⟨hk, g5, ?_⟩
        rw [ef, e, if_neg Bool.false_ne_true, List.append_nil]
        exact hd5
      | true =>
        refine iteT ⟨_, rfl, _, rfl, _, rfl, wd, val, rfl, hget, _, key, rfl, hd5, ?_, hk, Ge.upd g5 hD, ?_⟩
        · have h1 : ((acc.take k).filter fun q => !decide (q.2 = V.non)).length ≤ 100 := by
            refine Nat.le_trans (List.length_filter_le _ _) ?_
            rw [List.length_take]
            omega
          exact Nat.lt_of_le_of_lt h1 (by decide)
        · rw [upd_same, ef, e, if_pos rfl, putK_app]
          intro z
          obtain ⟨q', hq', e'⟩ := List.mem_map.mp z
          have hq2 := (List.mem_filter.mp hq').1
          have fr := take_fresh (fl := acc.map (·.1)) (i := k) (x := key) nd (by rw [List.getElem?_map, ek]; rfl)
          rw [← List.map_take] at fr
          exact fr (List.mem_map.mpr ⟨q', hq2, e'⟩)
    · rintro H5 ⟨_, g5, hd5⟩
      rw [List.take_length] at hd5
      obtain ⟨q1, q2⟩ := ge_unlock hw4 g5
      refine ⟨q1, qq _ D ((g3.trans g4).trans q2) (Ge.nw (g3.trans g4) hD4) ?_⟩
      rw [upd_ne dw]
      exact hd5
end
end Pr
set_option maxRecDepth 100000
set_option maxHeartbeats 2000000
namespace Pr
open PySem PySem.Spec PyProof.Rows L2 GxR Gx Rp Dl Pd Tx Zq
/-- an effect at c: some flags with booleans -/
def EAt (H : Hp) (fl : List Str) (c : Addr) (ek : List (Key × V)) : Prop := H c = some (.dK ek) ∧ (ek.map (·.1)).Nodup ∧ ∀ q ∈ ek, ∃ f b, q = (Sum.inr f, V.bl b) ∧ f ∈ fl
theorem EAt.ge {H H' : Hp} {fl : List Str} {c : Addr} {ek : List (Key × V)} (h : EAt H fl c ek) (g : Ge H H') : EAt H' fl c ek := ⟨g.dk h.1, h.2⟩
theorem EAt.gp {p : Addr} {xs : List V} {H H' : Hp} {fl : List Str} {c : Addr} {ek : List (Key × V)} (h : EAt H fl c ek) (g : GeP p H H') (hp : H p = some (.lst xs)) : EAt H' fl c ek := ⟨g.dk hp h.1, h.2⟩
/-- the commands at cd -/
def CAt (H : Hp) (fl : List Str) (cd : Addr) (cks : List (Key × V)) (eks : Str → List (Key × V)) : Prop := Rd H cd (.dK cks) ∧ (cks.map (·.1)).Nodup ∧ ∀ q ∈ cks, ∃ n c, q = (Sum.inr n, V.ref c) ∧ EAt H fl c (eks n) ∧ isName (.str n) = true ∧ small (.str n) = true
theorem CAt.ge {H H' : Hp} {fl : List Str} {cd : Addr} {cks : List (Key × V)} {eks : Str → List (Key × V)} (h : CAt H fl cd cks eks) (g : Ge H H') : CAt H' fl cd cks eks := ⟨g.rd (fun ps z => by cases z) h.1, h.2.1, fun q hq => let ⟨n, c, h1, h2, h3⟩ := h.2.2 q hq; ⟨n, c, h1, h2.ge g, h3⟩⟩
theorem CAt.gp {p : Addr} {xs : List V} {H H' : Hp} {fl : List Str} {cd : Addr} {cks : List (Key × V)} {eks : Str → List (Key × V)} (h : CAt H fl cd cks eks) (g : GeP p H H') (hp : H p = some (.lst xs)) : CAt H' fl cd cks eks := ⟨g.rd hp (fun ps z => by cases z) (fun ys z => by cases z) h.1, h.2.1, fun q hq => let ⟨n, c, h1, h2, h3⟩ := h.2.2 q hq; ⟨n, c, h1, h2.gp g hp, h3⟩⟩
theorem CAt.lock {H : Hp} {fl : List Str} {cd : Addr} {cks : List (Key × V)} {eks : Str → List (Key × V)} {od : Obj} (h : CAt H fl cd cks eks) (hH : H cd = some (.dK cks)) : CAt (upd H cd (.frz od (.dK cks))) fl cd cks eks :=
  ⟨Or.inr ⟨od, upd_same⟩, h.2.1, fun q hq => by
    obtain ⟨n, c, h1, h2, h3⟩ := h.2.2 q hq
    have ne : c ≠ cd := fun z => by
      have e := h2.1
      rw [z, hH] at e
      cases e
      obtain ⟨f, b, e2, _⟩ := h2.2.2 q hq
      rw [h1] at e2
      cases e2
    exact ⟨n, c, h1, ⟨by rw [upd_ne ne]; exact h2.1, h2.2⟩, h3⟩⟩
def vB : V → Bool
  | .bl b => b
  | _ => false
def resV (F ek : List (Key × V)) (f : Str) : V := (valV ek (Sum.inr f : Key)).getD ((valV F (Sum.inr f : Key)).getD .non)
/-- the state behind an effect -/
def bsAfter (fl : List Str) (bs : List Bool) (ek : List (Key × V)) : List Bool := fl.map fun f => vB (resV (factsK fl bs) ek f)
theorem eff_val {ek : List (Key × V)} {fl : List Str} (h : ∀ q ∈ ek, ∃ f b, q = (Sum.inr f, V.bl b) ∧ f ∈ fl) (k : Key) : valV ek k = none ∨ ∃ b, valV ek k = some (.bl b) := by
  cases e : valV ek k with
  | none => exact Or.inl rfl
  | some v =>
    right
    induction ek with
    | nil => cases e
    | cons p r ih =>
      by_cases z : p.1 = k
      · rw [valV_pos z] at e
        obtain ⟨f, b, hp, _⟩ := h p List.mem_cons_self
        rw [hp] at e
        exact ⟨b, e.symm⟩
      · rw [valV_neg z] at e
        exact ih (fun q hq => h q (List.mem_cons_of_mem _ hq)) e
theorem resV_bl {fl : List Str} {bs : List Bool} {ek : List (Key × V)} {f : Str} (h : ∀ q ∈ ek, ∃ f b, q = (Sum.inr f, V.bl b) ∧ f ∈ fl) (hl : fl.length = bs.length) (hf : f ∈ fl) : resV (factsK fl bs) ek f = .bl (vB (resV (factsK fl bs) ek f)) := by
  obtain ⟨b0, h0⟩ := facts_at (bs := bs) hl hf
  unfold resV
  rw [h0]
  rcases eff_val h (Sum.inr f) with e | ⟨b, e⟩ <;> rw [e] <;> rfl
section
variable {P : Program} {w : World} {K : PySem.W.Frag} {mg : Str → Option Value} {base : Heap} {T : List Addr}
def spWith (K : PySem.W.Frag) (T : List Addr) : Sp := fun vs H Q _ => ∃ u v m t o cd ly s fl bs wt c ek, vs = [u, v, .ref c] ∧ KS0 K T H u v m t o cd ly s fl bs wt ∧ EAt H fl c ek ∧ ∀ (H' : Hp) (p : Addr), Ge H H' → H' p = some (.tup ((bsAfter fl bs ek).map V.bl)) → Q (.ref p) H'
abbrev nWith : List Str := ["keymap", "state", "settings", "facts", "flag"]
def spAfter (K : PySem.W.Frag) (T : List Addr) : Sp := fun vs H Q _ => ∃ u v m t o cd ly s fl bs wt cks eks n, vs = [u, v, .str n] ∧ KS0 K T H u v m t o cd ly s fl bs wt ∧ CAt H fl cd cks eks ∧ (∃ x, (Sum.inr n, x) ∈ cks) ∧ ∀ (H' : Hp) (p : Addr), Ge H H' → H' p = some (.tup ((bsAfter fl bs (eks n)).map V.bl)) → Q (.ref p) H'
theorem spAfter_len : ∀ vs H Q E, spAfter K T vs H Q E → vs.length = 3 := fun vs H Q E ⟨_, _, _, _, _, _, _, _, _, _, _, _, _, _, h, _⟩ => by rw [h]; rfl
end
end Pr
set_option maxRecDepth 100000
set_option maxHeartbeats 2000000
/-! law k02: its own conditions and winners -/
namespace Pr
open PySem PySem.Spec PyProof.Rows L2 GxR Gx Rp Dl Pd Tx Zq
theorem notIn_bools : ∀ bs : List Bool, (!inV (.bl false) (bs.map V.bl)) = bs.all id ∧ (bs.map V.bl).all flatV = true
  | [] => ⟨rfl, rfl⟩
  | b :: r => by
    obtain ⟨h1, h2⟩ := notIn_bools r
    refine ⟨?_, by rw [List.map_cons, List.all_cons, h2]; rfl⟩
    unfold inV at h1 ⊢
    rw [List.map_cons, List.any_cons, List.all_cons, Bool.not_or, h1]
    cases b <;> rfl
end Pr
set_option maxRecDepth 100000
set_option maxHeartbeats 2000000
namespace Pr
open PySem PySem.Spec PyProof.Rows L2 GxR Gx Rp Dl Pd Tx Zq
def firstC (F : List (Key × V)) (x : Str) : List BI → Nat → Option (Nat × V)
  | [], _ => none
  | b :: r, j => if hit F x b then some (j, b.cm) else firstC F x r (j + 1)
def winC (F : List (Key × V)) (x : Str) : List (List BI) → Nat → Option (Nat × Nat × V)
  | [], _ => none
  | l :: r, i => match firstC F x l 0 with | some (j, c) => some (i, j, c) | none => winC F x r (i + 1)
theorem firstC_fst (F : List (Key × V)) (x : Str) : ∀ (bs : List BI) (j : Nat), firstIn F x bs j = (firstC F x bs j).map (·.1)
  | [], _ => rfl
  | b :: r, j => by
    show (if hit F x b then some j else firstIn F x r (j + 1)) = (if hit F x b then some (j, b.cm) else firstC F x r (j + 1)).map (·.1)
    cases hit F x b with
    | true => rfl
    | false => exact firstC_fst F x r (j + 1)
theorem winC_fst (F : List (Key × V)) (x : Str) : ∀ (bs : List (List BI)) (i : Nat), winnerB F x bs i = (winC F x bs i).map fun q : Nat × Nat × V => (q.1, q.2.1)
  | [], _ => rfl
  | l :: r, i => by
    show (match firstIn F x l 0 with | some j => some (i, j) | none => winnerB F x r (i + 1)) = (match firstC F x l 0 with | some (j, c) => some (i, j, c) | none => winC F x r (i + 1)).map fun q : Nat × Nat × V => (q.1, q.2.1)
    rw [firstC_fst]
    cases firstC F x l 0 with
    | some q => rfl
    | none => exact winC_fst F x r (i + 1)
theorem firstC_drop (F : List (Key × V)) (x : Str) {bis : List BI} {j : Nat} {b : BI} (h : bis[j]? = some b) (k : Nat) : firstC F x (bis.drop j) k = if hit F x b then some (k, b.cm) else firstC F x (bis.drop (j + 1)) (k + 1) := by
  obtain ⟨hj, e⟩ := List.getElem?_eq_some_iff.mp h
  rw [List.drop_eq_getElem_cons hj, e]
  rfl
theorem winC_drop (F : List (Key × V)) (x : Str) {bss : List (List BI)} {j : Nat} {l : List BI} (h : bss[j]? = some l) (k : Nat) : winC F x (bss.drop j) k = match firstC F x l 0 with | some (i, c) => some (k, i, c) | none => winC F x (bss.drop (j + 1)) (k + 1) := by
  obtain ⟨hj, e⟩ := List.getElem?_eq_some_iff.mp h
  rw [List.drop_eq_getElem_cons hj, e]
  rfl
/-- the table of winners -/
def WT (H : Hp) (found : List (Key × V)) (W : Str → Option (Nat × Nat × V)) : Prop := (found.map (·.1)).Nodup ∧ (∀ q ∈ found, ∃ x, q.1 = Sum.inr x) ∧
  ∀ x, (W x = none ∧ valV found (Sum.inr x : Key) = none) ∨ ∃ i j c p, W x = some (i, j, c) ∧ valV found (Sum.inr x : Key) = some (.ref p) ∧ H p = some (.tup [.int (i : Nat), .int (j : Nat), c])
theorem WT.ge {H H' : Hp} {found : List (Key × V)} {W : Str → Option (Nat × Nat × V)} (h : WT H found W) (g : Ge H H') : WT H' found W := ⟨h.1, h.2.1, fun x => (h.2.2 x).imp id fun ⟨i, j, c, p, h1, h2, h3⟩ => ⟨i, j, c, p, h1, h2, g.1 p _ h3 (fun ps z => by cases z)⟩⟩
theorem WT.eq {H : Hp} {found : List (Key × V)} {W W' : Str → Option (Nat × Nat × V)} (h : WT H found W) (e : ∀ x, W' x = W x) : WT H found W' := by
  have : W' = W := funext e
  rw [this]
  exact h
theorem putK_keys {kvs : List (Key × V)} {k : Key} {v : V} : (putK kvs k v).map (·.1) = kvs.map (·.1) ∨ (k ∉ kvs.map (·.1) ∧ (putK kvs k v).map (·.1) = kvs.map (·.1) ++ [k]) := by
  unfold putK
  split
  · left
    rw [List.map_map]
    refine List.map_congr_left fun q _ => ?_
    show (if q.1 = k then (q.1, v) else q).1 = q.1
    split <;> rfl
  · rename_i h
    right
    refine ⟨fun z => h ?_, by rw [List.map_append]; rfl⟩
    obtain ⟨q, hq, e⟩ := List.mem_map.mp z
    exact List.any_eq_true.mpr ⟨q, hq, decide_eq_true e⟩
theorem WT.put {H : Hp} {found : List (Key × V)} {W : Str → Option (Nat × Nat × V)} {x : Str} {i j : Nat} {c : V} {p : Addr} (h : WT H found W) (hp : H p = some (.tup [.int (i : Nat), .int (j : Nat), c])) : WT H (putK found (Sum.inr x) (.ref p)) (fun y => if y = x then some (i, j, c) else W y) := by
  refine ⟨?_, fun q hq => ?_, fun y => ?_⟩
  · rcases putK_keys (kvs := found) (k := Sum.inr x) (v := .ref p) with e | ⟨n, e⟩ <;> rw [e]
    · exact h.1
    · rw [List.nodup_append]
      refine ⟨h.1, by simp, fun a ha b hb z => ?_⟩
      simp at hb
      subst hb
      subst z
      exact n ha
  · have hm : q.1 ∈ (putK found (Sum.inr x) (.ref p)).map (·.1) := List.mem_map.mpr ⟨q, hq, rfl⟩
    rcases putK_keys (kvs := found) (k := Sum.inr x) (v := .ref p) with e | ⟨n, e⟩ <;> rw [e] at hm
    · obtain ⟨q', h1, h2⟩ := List.mem_map.mp hm
      obtain ⟨z, hz⟩ := h.2.1 q' h1
      exact ⟨z, by rw [← h2, hz]⟩
    · rcases List.mem_append.mp hm with hm | hm
      · obtain ⟨q', h1, h2⟩ := List.mem_map.mp hm
        obtain ⟨z, hz⟩ := h.2.1 q' h1
        exact ⟨z, by rw [← h2, hz]⟩
      · exact ⟨x, List.mem_singleton.mp hm⟩
  · rw [valV_put]
    by_cases e : y = x
    · subst e
      exact Or.inr ⟨i, j, c, p, if_pos rfl, if_pos rfl, hp⟩
    · rw [if_neg (fun z => e (Sum.inr.inj z))]
      have z : (fun y => if y = x then some (i, j, c) else W y) y = W y := if_neg e
      rw [z]
      exact h.2.2 y
theorem WT.updD {H : Hp} {found old new : List (Key × V)} {W : Str → Option (Nat × Nat × V)} {d : Addr} (h : WT H found W) (hd : H d = some (.dK old)) : WT (upd H d (.dK new)) found W := ⟨h.1, h.2.1, fun x => (h.2.2 x).imp id fun ⟨i, j, c, p, h1, h2, h3⟩ => ⟨i, j, c, p, h1, h2, by rw [upd_ne (fun z => by rw [z, hd] at h3; cases h3)]; exact h3⟩⟩
theorem hit_dec {F : List (Key × V)} {x : Str} {bi : BI} (h : holdsK F bi.ck = true) : hit F x bi = decide (x = bi.x) := by
  unfold hit
  rw [h, Bool.and_true]
  exact decide_eq_decide.mpr ⟨fun z => (V.str.inj z).symm, fun z => by rw [z]⟩
theorem putK_le {kvs : List (Key × V)} {k : Key} {v : V} : (putK kvs k v).length ≤ kvs.length + 1 := by
  unfold putK
  split
  · rw [List.length_map]
    omega
  · rw [List.length_append]
    exact Nat.le_refl _
end Pr
set_option maxRecDepth 100000
set_option maxHeartbeats 2000000
namespace Pr
open PySem PySem.Spec PyProof.Rows L2 GxR Gx Rp Dl Pd Tx Zq
/-- d.update(e), two dicts -/
def rUpd : V → List V → Hp → VK → Prop := fun x vs H Q => ∃ d e kvs more, x = .ref d ∧ vs = [.ref e] ∧ H d = some (.dK kvs) ∧ H e = some (.dK more) ∧ d ≠ e ∧ kvs.length + more.length ≤ sizeLine ∧ Q .non (upd H d (.dK (mergeK kvs more)))
theorem mt_update {X : Cx} : MtM X "dict.update" rUpd := by
  intro pins s σ H x xs v us Q I rx rv h
  obtain ⟨d, e, kvs, more, rfl, rfl, hd, he, hne, hz, q⟩ := h
  cases rx
  obtain ⟨u, rfl, ru⟩ := rv.one
  cases ru
  obtain ⟨z1, lo1, vs1, rel1, dd1⟩ := dk_of I.hok hd
  obtain ⟨z2, lo2, vs2, rel2, dd2⟩ := dk_of I.hok he
  have len : (mergeK kvs more).length ≤ sizeLine := Nat.le_trans (length_mergeK more kvs) hz
  refine call_meetsIn PySem.F.slot_dict_update dd1.typeIs PySem.F.entry_dict_update (PySem.F.args_dict_update_2 _ _) (meets_dict_update (mixKind X.prog X.w) d e hne lo2) ⟨vs1, vs2, dd1, dd2, (by rw [← rel1.length, ← rel2.length]; exact hz), fun h' hmm _ hs => ?_⟩
  have hex : ∃ q, h'.get? d = some q := let ⟨q, _, _, hq, _⟩ := hmm; ⟨q, hq⟩
  exact ⟨.non, _, d_write I (by rw [hd]; exact True.intro) hs hex (dk_new len lo1 (KV.merge rel2 rel1) hmm), rfl, q⟩
theorem valV_merge : ∀ {more F : List (Key × V)} (k : Key), (more.map (·.1)).Nodup → valV (mergeK F more) k = match valV more k with | some v => some v | none => valV F k
  | [], F, k, _ => rfl
  | (k0, v0) :: r, F, k, h => by
    obtain ⟨h1, h2⟩ : k0 ∉ r.map (·.1) ∧ (r.map (·.1)).Nodup := List.nodup_cons.mp h
    have ih := valV_merge (F := putK F k0 v0) k h2
    show valV (mergeK (putK F k0 v0) r) k = _
    rw [ih]
    by_cases e : k0 = k
    · subst e
      have e1 : valV r k0 = none := by
        cases z : valV r k0 with
        | none => rfl
        | some v => exact absurd (valV_in z) h1
      rw [e1, valV_pos (p := (k0, v0)) rfl]
      show valV (putK F k0 v0) k0 = some v0
      rw [valV_put, if_pos rfl]
    · rw [valV_neg (p := (k0, v0)) e, valV_put, if_neg (Ne.symm e)]
end Pr
set_option maxRecDepth 100000
set_option maxHeartbeats 2000000
/-! bound against the law's own: the same commands at the same keys -/
namespace Pr
open PySem PySem.Spec PyProof.Rows L2 GxR Gx Rp Dl Pd Tx Zq
theorem valV_app (acc : List (Key × V)) (k : Key) (v : V) (j : Key) : valV (acc ++ [(k, v)]) j = match valV acc j with | some u => some u | none => if k = j then some v else none := by
  induction acc with
  | nil =>
    show valV [(k, v)] j = if k = j then some v else none
    by_cases e : k = j
    · rw [valV_pos (p := (k, v)) e, if_pos e]
    · rw [valV_neg (p := (k, v)) e, if_neg e]; rfl
  | cons p r ih =>
    by_cases e : p.1 = j
    · rw [List.cons_append, valV_pos e, valV_pos e]
    · rw [List.cons_append, valV_neg e, valV_neg e, ih]
theorem firstC_snd (F : List (Key × V)) (x : Str) : ∀ (bs : List BI) (j k : Nat), (firstC F x bs j).map (·.2) = (firstC F x bs k).map (·.2)
  | [], _, _ => rfl
  | b :: r, j, k => by
    show (if hit F x b then some (j, b.cm) else firstC F x r (j + 1)).map (·.2) = (if hit F x b then some (k, b.cm) else firstC F x r (k + 1)).map (·.2)
    cases hit F x b with
    | true => rfl
    | false => exact firstC_snd F x r _ _
theorem firstC_app (F : List (Key × V)) (x : Str) (cs : List BI) : ∀ (bs : List BI) (j k : Nat), (firstC F x (bs ++ cs) j).map (·.2) = match firstC F x bs k with | some q => some q.2 | none => (firstC F x cs 0).map (·.2)
  | [], j, k => firstC_snd F x cs _ _
  | b :: r, j, k => by
    show (if hit F x b then some (j, b.cm) else firstC F x (r ++ cs) (j + 1)).map (·.2) = match (if hit F x b then some (k, b.cm) else firstC F x r (k + 1)) with | some q => some q.2 | none => (firstC F x cs 0).map (·.2)
    cases hit F x b with
    | true => rfl
    | false => exact firstC_app F x cs r _ _
theorem winC_flat (F : List (Key × V)) (x : Str) : ∀ (bss : List (List BI)) (i j : Nat), (firstC F x bss.flatten j).map (·.2) = (winC F x bss i).map fun q : Nat × Nat × V => q.2.2
  | [], _, _ => rfl
  | l :: r, i, j => by
    rw [List.flatten_cons, firstC_app F x r.flatten l j 0]
    show _ = (match firstC F x l 0 with | some (j, c) => some (i, j, c) | none => winC F x r (i + 1)).map fun q : Nat × Nat × V => q.2.2
    cases firstC F x l 0 with
    | some q => rfl
    | none => exact winC_flat F x r (i + 1) 0
theorem fold_val (F : List (Key × V)) (x : Str) : ∀ (bs : List BI) (acc : List (Key × V)), valV (bs.foldl (stepW F) acc) (Sum.inr x : Key) = match valV acc (Sum.inr x : Key) with | some v => some v | none => (firstC F x bs 0).map (·.2)
  | [], acc => by
    show valV acc _ = match valV acc (Sum.inr x : Key) with | some v => some v | none => none
    cases valV acc (Sum.inr x : Key) <;> rfl
  | b :: r, acc => by
    show valV (r.foldl (stepW F) (stepW F acc b)) (Sum.inr x : Key) = match valV acc (Sum.inr x : Key) with | some v => some v | none => (if hit F x b then some (0, b.cm) else firstC F x r 1).map (·.2)
    rw [fold_val F x r (stepW F acc b)]
    have hs : (firstC F x r 1).map (·.2) = (firstC F x r 0).map (·.2) := firstC_snd F x r 1 0
    unfold stepW hit
    by_cases e : b.x = x
    · subst e
      rw [show decide (V.str b.x = V.str b.x) = true from decide_eq_true rfl, Bool.true_and]
      cases e1 : valV acc (Sum.inr b.x : Key) with
      | some v =>
        rw [if_neg (by simp), e1]
      | none =>
        cases e2 : holdsK F b.ck with
        | true =>
          rw [if_pos (by simp), valV_app, e1, if_pos rfl]
          rfl
        | false =>
          rw [if_neg (by simp), e1]
          exact hs.symm
    · have e3 : decide (V.str b.x = V.str x) = false := decide_eq_false fun z => e (V.str.inj z)
      rw [e3, Bool.false_and]
      have e4 : valV (if (valV acc (Sum.inr b.x : Key)).isNone && holdsK F b.ck then acc ++ [((Sum.inr b.x : Key), b.cm)] else acc) (Sum.inr x : Key) = valV acc (Sum.inr x : Key) := by
        split
        · rw [valV_app, if_neg (fun z => e (Sum.inr.inj z))]
          cases valV acc (Sum.inr x : Key) <;> rfl
        · rfl
      rw [e4]
      cases valV acc (Sum.inr x : Key) with
      | some v => rfl
      | none => exact hs.symm
theorem winAll_val (F : List (Key × V)) (x : Str) (bss : List (List BI)) : valV (winAll F bss.flatten) (Sum.inr x : Key) = (winC F x bss 0).map fun q : Nat × Nat × V => q.2.2 := by
  unfold winAll
  rw [fold_val]
  exact winC_flat F x bss 0 0
theorem valV_mem {kvs : List (Key × V)} {k : Key} {v : V} (h : valV kvs k = some v) : (k, v) ∈ kvs := by
  induction kvs with
  | nil => cases h
  | cons p r ih =>
    by_cases e : p.1 = k
    · rw [valV_pos e] at h
      obtain ⟨a, b⟩ := p
      cases h
      cases e
      exact List.mem_cons_self
    · rw [valV_neg e] at h
      exact List.mem_cons_of_mem _ (ih h)
/-- the command of a key's winner -/
def cmK (F : List (Key × V)) (bss : List (List BI)) : Key → V
  | .inr x => (Option.map (fun q : Nat × Nat × V => q.2.2) (winC F x bss 0)).getD .non
  | .inl _ => .non
def dueK (F : List (Key × V)) (bss : List (List BI)) (found : List (Key × V)) : List (Key × V) := (found.map fun q => (q.1, cmK F bss q.1)).filter fun q => !decide (q.2 = V.non)
theorem nd_sub {α : Type} [DecidableEq α] : ∀ {xs ys : List α}, xs.Nodup → (∀ x ∈ xs, x ∈ ys) → xs.length ≤ ys.length
  | [], _, _, _ => Nat.zero_le _
  | x :: r, ys, h, s => by
    obtain ⟨h1, h2⟩ := List.nodup_cons.mp h
    have hm := s x List.mem_cons_self
    have ih := nd_sub (ys := ys.erase x) h2 fun y hy => (List.mem_erase_of_ne (fun z => h1 (by rw [← z]; exact hy))).mpr (s y (List.mem_cons_of_mem _ hy))
    rw [List.length_erase_of_mem hm] at ih
    have : 0 < ys.length := List.length_pos_of_mem hm
    show r.length + 1 ≤ ys.length
    omega
theorem filter_nd {kvs : List (Key × V)} {p : Key × V → Bool} (h : (kvs.map (·.1)).Nodup) : ((kvs.filter p).map (·.1)).Nodup := h.sublist (List.filter_sublist.map _)
theorem winAll_inr (F : List (Key × V)) : ∀ (bs : List BI) (acc : List (Key × V)), (∀ q ∈ acc, ∃ x, q.1 = Sum.inr x) → ∀ q ∈ bs.foldl (stepW F) acc, ∃ x, q.1 = Sum.inr x
  | [], acc, h => h
  | b :: r, acc, h => winAll_inr F r _ fun q hq => by
    unfold stepW at hq
    split at hq
    · rcases List.mem_append.mp hq with z | z
      · exact h q z
      · exact ⟨b.x, by rw [List.mem_singleton.mp z]⟩
    · exact h q hq
theorem due_nd {H : Hp} {F found : List (Key × V)} {bss : List (List BI)} (w : WT H found (fun x => winC F x bss 0)) : ((dueK F bss found).map (·.1)).Nodup := by
  refine filter_nd ?_
  rw [List.map_map]
  exact w.1
/-- what bound gives is what the winners say -/
theorem bound_due {H : Hp} {F found : List (Key × V)} {bss : List (List BI)} (w : WT H found (fun x => winC F x bss 0)) : (boundK F bss).length = (dueK F bss found).length ∧ ∀ p ∈ boundK F bss, valV (dueK F bss found) p.1 = some p.2 := by
  have nd1 : ((winAll F bss.flatten).map (·.1)).Nodup := fold_nd _ _ List.nodup_nil
  have nb : ((boundK F bss).map (·.1)).Nodup := filter_nd nd1
  have nu := due_nd w
  have A : ∀ p ∈ boundK F bss, p ∈ dueK F bss found := fun p hp => by
    obtain ⟨h1, h2⟩ := List.mem_filter.mp hp
    obtain ⟨x, hx⟩ := winAll_inr F bss.flatten [] (fun q hq => by cases hq) p h1
    obtain ⟨k, v⟩ := p
    cases hx
    have z := winAll_val F x bss
    rw [valV_nodup nd1 h1] at z
    refine List.mem_filter.mpr ⟨?_, h2⟩
    rcases w.2.2 x with ⟨n1, _⟩ | ⟨i, j, c, pp, w1, w2, _⟩
    · have n1 : winC F x bss 0 = none := n1
      rw [n1] at z
      cases z
    · have w1 : winC F x bss 0 = some (i, j, c) := w1
      rw [w1] at z
      have z : some v = some c := z
      refine List.mem_map.mpr ⟨_, valV_mem w2, ?_⟩
      show ((Sum.inr x : Key), (Option.map (fun q : Nat × Nat × V => q.2.2) (winC F x bss 0)).getD .non) = (Sum.inr x, v)
      rw [w1, Option.some.inj z]
      rfl
  have B : ∀ p ∈ dueK F bss found, p ∈ boundK F bss := fun p hp => by
    obtain ⟨h1, h2⟩ := List.mem_filter.mp hp
    obtain ⟨q, hq, e⟩ := List.mem_map.mp h1
    obtain ⟨x, hx⟩ := w.2.1 q hq
    obtain ⟨k, v⟩ := q
    cases hx
    cases e
    refine List.mem_filter.mpr ⟨?_, h2⟩
    rcases w.2.2 x with ⟨_, n2⟩ | ⟨i, j, c, pp, w1, w2, _⟩
    · rw [valV_nodup w.1 hq] at n2
      cases n2
    · have w1 : winC F x bss 0 = some (i, j, c) := w1
      refine valV_mem ?_
      rw [winAll_val]
      show Option.map _ _ = some ((Option.map (fun q : Nat × Nat × V => q.2.2) (winC F x bss 0)).getD .non)
      rw [w1]
      rfl
  refine ⟨Nat.le_antisymm ?_ ?_, fun p hp => valV_nodup nu (A p hp)⟩
  · have z := nd_sub nb (ys := (dueK F bss found).map (·.1)) fun x hx => by
      obtain ⟨q, h1, h2⟩ := List.mem_map.mp hx
      exact List.mem_map.mpr ⟨q, A q h1, h2⟩
    simpa using z
  · have z := nd_sub nu (ys := (boundK F bss).map (·.1)) fun x hx => by
      obtain ⟨q, h1, h2⟩ := List.mem_map.mp hx
      exact List.mem_map.mpr ⟨q, B q h1, h2⟩
    simpa using z
end Pr
set_option maxRecDepth 100000
set_option maxHeartbeats 2000000
namespace Pr
open PySem PySem.Spec PyProof.Rows L2 GxR Gx Rp Dl Pd Tx Zq
theorem bools_shown {cs : List Bool} (hl : cs.length ≤ 50) : (PyData.tuple (cs.map .bool)).showable = true ∧ noL (.tuple (cs.map .bool)) = true ∧ (PyData.tuple (cs.map .bool)).depth ≤ 60 ∧ (PyData.tuple (cs.map .bool)).shown.length ≤ sizeLine := by
  obtain ⟨h1, h2, h3, h4, h5, h6⟩ := bools_all cs
  have ok : okD (.tuple (cs.map .bool)) = true := by
    simp only [okD, h1, Bool.and_true, List.length_map]
    exact decide_eq_true (by omega)
  have wg : wgt (.tuple (cs.map .bool)) ≤ 100000 := by
    simp only [wgt, h2]
    omega
  obtain ⟨f1, f2, f3⟩ := shown_le _ ok
  refine ⟨f2, by simp only [noL, h4], ?_, Nat.le_trans f1 (Nat.le_trans wg (by decide))⟩
  simp only [PyData.depth, h3]
  omega
theorem ix_tupK {X : Cx} {K : PySem.W.Frag} (h : X.K = K) : IxR X (rIxT K) := h ▸ ix_tup
end Pr
set_option maxRecDepth 100000
set_option maxHeartbeats 2000000
/-! a drawn keymap as bindings and commands in the heap -/
namespace Pr
open PySem PySem.Spec PyProof.Rows L2 GxR Gx Rp Dl Pd Tx Zq
def BIok (fl ns : List Str) (bi : BI) : Prop := bi.ck.length ≤ fl.length ∧ (bi.cm = .non ∨ ∃ n ∈ ns, bi.cm = .str n) ∧ 1 ≤ bi.x.length ∧ bi.x.length ≤ 4 ∧ letters bi.x = true
theorem bnd_at {H : Hp} {v : V} {fl ns : List Str} (h : Bnd H v fl ns) : ∃ bi : BI, BAt H fl v bi ∧ BIok fl ns bi := by
  obtain ⟨b, x, c, m, rfl, h1, x1, x4, xl, ⟨d, kvs, rfl, e1, e2, e3, e4⟩, hm⟩ := h
  refine ⟨⟨x, kvs, m⟩, ⟨b, d, rfl, h1, e1, e2, e3⟩, e4, ?_, x1, x4, xl⟩
  rcases hm with rfl | ⟨n, hn, rfl⟩
  · exact Or.inl rfl
  · exact Or.inr ⟨n, hn, rfl⟩
theorem lay_at {H : Hp} {fl ns : List Str} : ∀ vs : List V, (∀ b ∈ vs, Bnd H b fl ns) → ∃ bis, Paired (BAt H fl) vs bis ∧ ∀ bi ∈ bis, BIok fl ns bi
  | [], _ => ⟨[], .nil, fun _ z => by cases z⟩
  | v :: r, h => by
    obtain ⟨bi, h1, h2⟩ := bnd_at (h v List.mem_cons_self)
    obtain ⟨bis, h3, h4⟩ := lay_at r fun b hb => h b (List.mem_cons_of_mem _ hb)
    refine ⟨bi :: bis, .cons h1 h3, fun b hb => ?_⟩
    rcases List.mem_cons.mp hb with rfl | hb
    · exact h2
    · exact h4 b hb
theorem lays_at {H : Hp} {fl ns : List Str} : ∀ ks : List (Addr × List V), (∀ e ∈ ks, H e.1 = some (.tup e.2) ∧ ∀ b ∈ e.2, Bnd H b fl ns) → ∃ bss, Paired (LAt H fl) (ks.map fun e => V.ref e.1) bss ∧ (∀ l ∈ bss, ∀ bi ∈ l, BIok fl ns bi) ∧ bss.map (·.length) = ks.map (·.2.length)
  | [], _ => ⟨[], .nil, (fun _ z => by cases z), rfl⟩
  | e :: r, h => by
    obtain ⟨q1, q2⟩ := h e List.mem_cons_self
    obtain ⟨bis, h1, h2⟩ := lay_at e.2 q2
    obtain ⟨bss, h3, h4, h5⟩ := lays_at r fun b hb => h b (List.mem_cons_of_mem _ hb)
    refine ⟨bis :: bss, .cons ⟨e.1, e.2, rfl, q1, h1⟩ h3, fun b hb => ?_, ?_⟩
    · rcases List.mem_cons.mp hb with rfl | hb
      · exact h2
      · exact h4 b hb
    · rw [List.map_cons, List.map_cons, h5, Paired.length h1]
/-- the effect of the command n -/
def eksOf (H : Hp) (kvs : List (Key × V)) (n : Str) : List (Key × V) := match valV kvs (Sum.inr n : Key) with
  | some (.ref c) => match H c with
    | some (.dK ek) => ek
    | _ => []
  | _ => []
theorem cmd_at {H : Hp} {cd : Addr} {kvs : List (Key × V)} {ns fl : List Str} (h1 : H cd = some (.dK kvs)) (h2 : (kvs.map (·.1)).Nodup) (h3 : ∀ kv ∈ kvs, ∃ n v, kv = (Sum.inr n, v) ∧ n ∈ ns ∧ Eff H v fl) (s : ns.Sublist NAMES) :
    CAt H fl cd kvs (eksOf H kvs) ∧ ∀ n c, (Sum.inr n, V.ref c) ∈ kvs → (eksOf H kvs n).length ≤ fl.length := by
  have A : ∀ q ∈ kvs, ∃ n c, q = (Sum.inr n, V.ref c) ∧ n ∈ ns ∧ EAt H fl c (eksOf H kvs n) ∧ (eksOf H kvs n).length ≤ fl.length := fun q hq => by
    obtain ⟨n, v, rfl, hn, d, ek, rfl, e1, e2, e3, e4⟩ := h3 q hq
    have e : eksOf H kvs n = ek := by
      unfold eksOf
      rw [valV_nodup h2 hq]
      show (match H d with | some (.dK ek) => ek | _ => []) = ek
      rw [e1]
    exact ⟨n, d, rfl, hn, by rw [e]; exact ⟨e1, e2, e3⟩, by rw [e]; exact e4⟩
  refine ⟨⟨Or.inl h1, h2, fun q hq => ?_⟩, fun n c hm => ?_⟩
  · obtain ⟨n, c, e, hn, ea, _⟩ := A q hq
    obtain ⟨o1, o2, _⟩ := ok_names n (s.subset hn)
    exact ⟨n, c, e, ea, o1, (shown_le _ o2).2.2⟩
  · obtain ⟨n', c', e, _, _, l⟩ := A _ hm
    cases e
    exact l
end Pr
set_option maxRecDepth 100000
set_option maxHeartbeats 2000000
/-! a drawn keymap: all that k02 asks of it -/
namespace Pr
open PySem PySem.Spec PyProof.Rows L2 GxR Gx Rp Dl Pd Tx Zq
structure MapK (K : PySem.W.Frag) (H : Hp) (m t o cd ly : Addr) (fl ns : List Str) (bss : List (List BI)) (wt : Int) (cks : List (Key × V)) (eks : Str → List (Key × V)) (d : PyData) : Prop where
  hm : H m = some (.tup [.ref t, .ref o, .ref cd, .ref ly, .int wt])
  ht : Rd H t (.tup (fl.map V.str))
  nd : fl.Nodup
  l3 : fl.length ≤ 3
  hk : KAt H fl ly bss
  da : Da K H (.ref m) d
  dm : MapD d
  dl : lenT (flagsOf d) = fl.length
  hcd : H cd = some (.dK cks)
  ca : CAt H fl cd cks eks
  e3 : ∀ n c, (Sum.inr n, V.ref c) ∈ cks → (eks n).length ≤ 3
  bo : ∀ l ∈ bss, ∀ bi ∈ l, BIok fl ns bi
  n4 : bss.length ≤ 4
  n16 : bss.flatten.length ≤ 16
  sn : ns.Sublist NAMES
theorem flag_len {K : PySem.W.Frag} {H : Hp} {m t : Addr} {rest : List V} {fl : List Str} {d : PyData} (hd : Da K H (.ref m) d) (hm : H m = some (.tup (.ref t :: rest))) (ht : Rd H t (.tup (fl.map V.str))) : lenT (flagsOf d) = fl.length := by
  cases hd with
  | lst h1 _ => have e := rd_one (fun o w z => by cases z) (fun o w z => by cases z) h1 (Or.inl hm); cases e
  | dct h1 _ _ => have e := rd_one (fun o w z => by cases z) (fun o w z => by cases z) h1 (Or.inl hm); cases e
  | tup h1 h2 =>
    have e := rd_one (fun o w z => by cases z) (fun o w z => by cases z) h1 (Or.inl hm)
    cases e
    cases h2 with
    | cons k1 _ =>
      cases k1 with
      | lst q1 _ => have e := rd_one (fun o w z => by cases z) (fun o w z => by cases z) q1 ht; cases e
      | dct q1 _ _ => have e := rd_one (fun o w z => by cases z) (fun o w z => by cases z) q1 ht; cases e
      | tup q1 q2 =>
        have e := rd_one (fun o w z => by cases z) (fun o w z => by cases z) q1 ht
        cases e
        have z := daAll_len q2
        rw [List.length_map] at z
        exact z
theorem map_k {K : PySem.W.Frag} {H : Hp} {v : V} (mh : MapH H v) : ∃ m t o cd ly fl ns bss wt cks eks d, v = .ref m ∧ MapK K H m t o cd ly fl ns bss wt cks eks d := by
  obtain ⟨d, hd, hm⟩ := map_da (K := K) mh
  obtain ⟨m, t, o, cd, ly, fl, ol, ns, ks, i, rfl, em, et, _, s1, _, s3, ⟨cks, c1, c2, c3, _, _⟩, _, _, hly, _, k4, kc, hk⟩ := mh
  obtain ⟨bss, h1, h2, h3⟩ := lays_at ks hk
  obtain ⟨a1, a2⟩ := cmd_at c1 c2 c3 s3
  have l3 : fl.length ≤ 3 := s1.length_le
  refine ⟨m, t, o, cd, ly, fl, ns, bss, i, cks, eksOf H cks, d, rfl, em, et, (by decide : FLAGS.Nodup).sublist s1, l3, ⟨_, hly, h1⟩, hd, hm, flag_len hd em et, c1, a1, fun n c z => Nat.le_trans (a2 n c z) l3, h2, ?_, ?_, s3⟩
  · have z := Paired.length h1
    rw [List.length_map] at z
    omega
  · rw [List.length_flatten, h3]
    exact kc
theorem MapK.ge {K : PySem.W.Frag} {H H' : Hp} {m t o cd ly : Addr} {fl ns : List Str} {bss : List (List BI)} {wt : Int} {cks : List (Key × V)} {eks : Str → List (Key × V)} {d : PyData} (k : MapK K H m t o cd ly fl ns bss wt cks eks d) (g : Ge H H') : MapK K H' m t o cd ly fl ns bss wt cks eks d :=
  ⟨g.1 m _ k.hm (fun ps z => by cases z), rdT' g k.ht, k.nd, k.l3, k.hk.ge g, g.da k.da, k.dm, k.dl, g.dk k.hcd, k.ca.ge g, k.e3, k.bo, k.n4, k.n16, k.sn⟩
theorem MapK.gp {K : PySem.W.Frag} {H H' : Hp} {m t o cd ly p : Addr} {xs : List V} {fl ns : List Str} {bss : List (List BI)} {wt : Int} {cks : List (Key × V)} {eks : Str → List (Key × V)} {d : PyData} (k : MapK K H m t o cd ly fl ns bss wt cks eks d) (g : GeP p H H') (hp : H p = some (.lst xs)) : MapK K H' m t o cd ly fl ns bss wt cks eks d :=
  ⟨g.1 m _ (fun z => by have e := k.hm; rw [z, hp] at e; cases e) k.hm (fun ps z => by cases z), g.rd hp (fun ps z => by cases z) (fun ys z => by cases z) k.ht, k.nd, k.l3, k.hk.gp g hp, g.da hp k.dm.2.2.1 k.da, k.dm, k.dl, g.dk hp k.hcd, k.ca.gp g hp, k.e3, k.bo, k.n4, k.n16, k.sn⟩
theorem MapK.ks {K : PySem.W.Frag} {T : List Addr} {H : Hp} {m t o cd ly s : Addr} {fl ns : List Str} {bss : List (List BI)} {wt : Int} {cks : List (Key × V)} {eks : Str → List (Key × V)} {d : PyData} {bs : List Bool} (k : MapK K H m t o cd ly fl ns bss wt cks eks d) (hs : H s = some (.tup (bs.map V.bl))) (lb : bs.length = fl.length) (tb : Tb T H) : KS K T H (.ref m) (.ref s) m t o cd ly s fl bss bs wt :=
  ⟨⟨rfl, rfl, k.hm, k.ht, Or.inl hs, k.nd, k.l3, lb, ⟨d, k.da, (shown_le d k.dm.2.1).2.2, k.dm.1, k.dl⟩, tb⟩, k.hk⟩
end Pr
set_option maxRecDepth 100000
set_option maxHeartbeats 2000000
/-! rows that are right: is_letter, is_time, is_entry, fits_row -/
namespace Pr
open PySem PySem.Spec PyProof.Rows L2 GxR Gx Rp Dl Pd Tx Zq
inductive RE where
  | key (c : Nat) (t : Int)
  | set (f : Str) (b : Bool) (t : Int)
def RE.t : RE → Int
  | .key _ t => t
  | .set _ _ t => t
def RE.vs : RE → List V
  | .key c t => [.str "key", .str ⟨#[c]⟩, .int t]
  | .set f b t => [.str "set", .str f, .bl b, .int t]
def EntAt (H : Hp) (v : V) (e : RE) : Prop := ∃ a, v = .ref a ∧ H a = some (.tup e.vs)
theorem EntAt.ge {H H' : Hp} {v : V} {e : RE} (h : EntAt H v e) (g : Ge H H') : EntAt H' v e := let ⟨a, h1, h2⟩ := h; ⟨a, h1, g.1 a _ h2 (fun ps z => by cases z)⟩
theorem EntAt.gp {p : Addr} {xs : List V} {H H' : Hp} {v : V} {e : RE} (h : EntAt H v e) (g : GeP p H H') (hp : H p = some (.lst xs)) : EntAt H' v e := let ⟨a, h1, h2⟩ := h; ⟨a, h1, g.1 a _ (fun z => by rw [z, hp] at h2; cases h2) h2 (fun ps z => by cases z)⟩
def okE (ol : List Str) : RE → Prop
  | .key c t => 97 ≤ c ∧ c ≤ 122 ∧ 0 ≤ t ∧ t ≤ 1000000000
  | .set f _ t => f ∈ ol ∧ 0 ≤ t ∧ t ≤ 1000000000
theorem okE.time {ol : List Str} {e : RE} (h : okE ol e) : 0 ≤ e.t ∧ e.t ≤ 1000000000 := by
  cases e with
  | key c t => exact ⟨h.2.2.1, h.2.2.2⟩
  | set f b t => exact ⟨h.2.1, h.2.2⟩
def RowOk (ol : List Str) (es : List RE) : Prop := (∀ e ∈ es, okE ol e) ∧ es.Pairwise (fun a b => a.t ≤ b.t) ∧ es.length ≤ 300
def RE.d : RE → PyData
  | .key c t => .tuple [.str "key", .str ⟨#[c]⟩, .int t]
  | .set f b t => .tuple [.str "set", .str f, .bool b, .int t]
theorem ent_da {K : PySem.W.Frag} {H : Hp} {v : V} {e : RE} (h : EntAt H v e) : Da K H v e.d := by
  obtain ⟨a, rfl, h⟩ := h
  cases e with
  | key c t => exact .tup (Or.inl h) (.cons (.str _) (.cons (.str _) (.cons (.int _) .nil)))
  | set f b t => exact .tup (Or.inl h) (.cons (.str _) (.cons (.str _) (.cons (.bl _) (.cons (.int _) .nil))))
theorem in_flags {ol : List Str} {f : Str} (h : f ∈ ol) : inV (.str f) (ol.map V.str) = true ∧ (ol.map V.str).all flatV = true := by
  refine ⟨?_, ?_⟩
  · unfold inV
    refine List.any_eq_true.mpr ⟨.str f, List.mem_map.mpr ⟨f, h, rfl⟩, ?_⟩
    show (f == f) = true
    exact beq_self_eq_true f
  · refine List.all_eq_true.mpr fun x hx => ?_
    obtain ⟨y, _, rfl⟩ := List.mem_map.mp hx
    rfl
def isLetter : PyData → Bool := isWord 1
theorem letter_ok {c : Nat} (h1 : 97 ≤ c) (h2 : c ≤ 122) : isLetter (.str ⟨#[c]⟩) = true ∧ small (.str ⟨#[c]⟩) = true := by
  refine ⟨?_, decide_eq_true (show Str.length ⟨#[c]⟩ ≤ sizeLine from (by decide : 1 ≤ sizeLine))⟩
  show (decide (1 ≤ (((1 : Nat) : Int))) && decide ((((1 : Nat) : Int)) ≤ 1) && (decide (97 ≤ c) && decide (c ≤ 122) && true)) = true
  rw [decide_eq_true h1, decide_eq_true h2]
  rfl
def isTime : PyData → Bool := isWithin 0 1000000000
theorem time_ok {t : Int} (h1 : 0 ≤ t) (h2 : t ≤ 1000000000) : isTime (.int t) = true ∧ small (.int t) = true := by
  refine ⟨?_, rfl⟩
  show (decide (0 ≤ t) && decide (t ≤ 1000000000)) = true
  rw [decide_eq_true h1, decide_eq_true h2]
  rfl
section
variable {P : Program} {w : World} {K : PySem.W.Frag} {mg : Str → Option Value} {base : Heap} {T : List Addr}
def spEnt (K : PySem.W.Frag) (T : List Addr) : Sp := fun vs H Q _ => ∃ (o : Addr) (v : V) (ol : List Str) (e : RE), vs = [.ref o, v] ∧ Rd H o (.tup (ol.map V.str)) ∧ EntAt H v e ∧ okE ol e ∧ Tb T H ∧ ∀ H', Ge H H' → Q (.bl true) H'
abbrev nEntry : List Str := ["outside", "thing", "word", "letter", "time", "flag", "value"]
end
end Pr
set_option maxRecDepth 100000
set_option maxHeartbeats 2000000
/-! fits_row, bursts -/
namespace Pr
open PySem PySem.Spec PyProof.Rows L2 GxR Gx Rp Dl Pd Tx Zq
theorem row_da {K : PySem.W.Frag} {H : Hp} : ∀ {vs : List V} {es : List RE}, Paired (EntAt H) vs es → DaAll K H vs (es.map RE.d)
  | _, _, .nil => .nil
  | _, _, .cons a b => .cons (ent_da a) (row_da b)
def RowAt (H : Hp) (L : Addr) (es : List RE) : Prop := ∃ vs, H L = some (.lst vs) ∧ Paired (EntAt H) vs es
theorem RowAt.ge {H H' : Hp} {L : Addr} {es : List RE} (h : RowAt H L es) (g : Ge H H') : RowAt H' L es := let ⟨vs, h1, h2⟩ := h; ⟨vs, g.1 L _ h1 (fun ps z => by cases z), Paired.imp (fun _ _ z => z.ge g) h2⟩
theorem RowAt.gp {p : Addr} {xs : List V} {H H' : Hp} {L : Addr} {es : List RE} (h : RowAt H L es) (g : GeP p H H') (hp : H p = some (.lst xs)) (n : L ≠ p) : RowAt H' L es := let ⟨vs, h1, h2⟩ := h; ⟨vs, g.1 L _ n h1 (fun ps z => by cases z), Paired.imp (fun _ _ z => z.gp g hp) h2⟩
theorem last_ent (e : RE) : atI e.vs (-1) = some (.int e.t) := by cases e <;> rfl
section
variable {P : Program} {w : World} {K : PySem.W.Frag} {mg : Str → Option Value} {base : Heap} {T : List Addr}
def spFitsR (K : PySem.W.Frag) (T : List Addr) : Sp := fun vs H Q _ => ∃ (m t o L : Addr) (rest : List V) (ol : List Str) (es : List RE), vs = [.ref m, .ref L] ∧ H m = some (.tup (.ref t :: .ref o :: rest)) ∧ Rd H o (.tup (ol.map V.str)) ∧ RowAt H L es ∧ RowOk ol es ∧ Tb T H ∧ ∀ H', Ge H H' → Q (.bl true) H'
abbrev nFitsR : List Str := ["keymap", "thing", "earliest", "entry"]
end
end Pr
set_option maxRecDepth 100000
set_option maxHeartbeats 2000000
/-! bursts -/
namespace Pr
open PySem PySem.Spec PyProof.Rows L2 GxR Gx Rp Dl Pd Tx Zq
def mkS (ks : List Nat) : Str := ⟨ks.toArray⟩
theorem mkS_len (ks : List Nat) : (mkS ks).length = ks.length := List.size_toArray
theorem mkS_add (ks : List Nat) (c : Nat) : mkS ks ++ (⟨#[c]⟩ : Str) = mkS (ks ++ [c]) := by
  show (⟨ks.toArray ++ #[c]⟩ : Str) = ⟨(ks ++ [c]).toArray⟩
  simp
abbrev BU := List Nat × Option (Str × Bool)
def setK : Option (Str × Bool) → List (Key × V)
  | none => []
  | some (f, b) => [(Sum.inr f, .bl b)]
def burstsM (w : Int) : List RE → List Nat → Int → List BU
  | [], ks, _ => [(ks, none)]
  | .set f b _ :: r, ks, last => (ks, some (f, b)) :: burstsM w r [] last
  | .key c t :: r, ks, last => if ks ≠ [] ∧ w < t - last then (ks, none) :: burstsM w r [c] t else burstsM w r (ks ++ [c]) t
def BurAt (H : Hp) (v : V) (u : BU) : Prop := ∃ a d, v = .ref a ∧ H a = some (.tup [.str (mkS u.1), .ref d]) ∧ H d = some (.dK (setK u.2))
theorem BurAt.ge {H H' : Hp} {v : V} {u : BU} (h : BurAt H v u) (g : Ge H H') : BurAt H' v u := let ⟨a, d, h1, h2, h3⟩ := h; ⟨a, d, h1, g.1 a _ h2 (fun ps z => by cases z), g.dk h3⟩
theorem BurAt.gp {p : Addr} {xs : List V} {H H' : Hp} {v : V} {u : BU} (h : BurAt H v u) (g : GeP p H H') (hp : H p = some (.lst xs)) : BurAt H' v u := let ⟨a, d, h1, h2, h3⟩ := h; ⟨a, d, h1, g.1 a _ (fun z => by rw [z, hp] at h2; cases h2) h2 (fun ps z => by cases z), g.dk hp h3⟩
theorem paired_snoc {α β : Type} {F : α → β → Prop} {a : α} {b : β} (h : F a b) : ∀ {xs : List α} {ys : List β}, Paired F xs ys → Paired F (xs ++ [a]) (ys ++ [b])
  | _, _, .nil => .cons h .nil
  | _, _, .cons x r => .cons x (paired_snoc h r)
section
variable {P : Program} {w : World} {K : PySem.W.Frag} {mg : Str → Option Value} {base : Heap} {T : List Addr}
def spBursts : Sp := fun vs H Q _ => ∃ (L : Addr) (es : List RE) (wt : Int), vs = [.ref L, .int wt] ∧ RowAt H L es ∧ es.length ≤ 300 ∧ ∀ (H' : Hp) (l : Addr) (us : List V), Ge H H' → H' l = some (.lst us) → Paired (BurAt H') us (burstsM wt es [] 0) → Q (.ref l) H'
abbrev nBursts : List Str := ["row", "wait", "found", "keys", "last", "entry"]
end
end Pr
set_option maxRecDepth 100000
set_option maxHeartbeats 2000000
/-! events; the first event of a burst -/
namespace Pr
open PySem PySem.Spec PyProof.Rows L2 GxR Gx Rp Dl Pd Tx Zq
inductive Ev where
  | text (c : Nat)
  | act (n : Str) (ks : List Nat)
def Ev.vs : Ev → List V
  | .text c => [.str "text", .str ⟨#[c]⟩]
  | .act n ks => [.str "do", .str n, .str (mkS ks)]
def Ev.len : Ev → Nat
  | .text _ => 1
  | .act _ ks => ks.length
def EvAt (H : Hp) (v : V) (e : Ev) : Prop := ∃ a, v = .ref a ∧ H a = some (.tup e.vs)
theorem EvAt.ge {H H' : Hp} {v : V} {e : Ev} (h : EvAt H v e) (g : Ge H H') : EvAt H' v e := let ⟨a, h1, h2⟩ := h; ⟨a, h1, g.1 a _ h2 (fun ps z => by cases z)⟩
theorem EvAt.gp {p : Addr} {xs : List V} {H H' : Hp} {v : V} {e : Ev} (h : EvAt H v e) (g : GeP p H H') (hp : H p = some (.lst xs)) : EvAt H' v e := let ⟨a, h1, h2⟩ := h; ⟨a, h1, g.1 a _ (fun z => by rw [z, hp] at h2; cases h2) h2 (fun ps z => by cases z)⟩
/-- the command that is bound to the keys -/
def cmdOf (F : List (Key × V)) (bss : List (List BI)) (x : Str) : Option Str := match winC F x bss 0 with
  | some (_, _, .str n) => some n
  | _ => none
def tryAt (C : Str → Option Str) (ks : List Nat) (m : Nat) (k : Ev) : Ev := match C (mkS (ks.take m)) with
  | some n => .act n (ks.take m)
  | none => k
def firstEv (C : Str → Option Str) (ks : List Nat) : Ev := tryAt C ks 4 (tryAt C ks 3 (tryAt C ks 2 (tryAt C ks 1 (.text (ks.headD 0)))))
theorem try_none {C : Str → Option Str} {ks : List Nat} {m : Nat} {k : Ev} (h : C (mkS (ks.take m)) = none) : tryAt C ks m k = k := by
  unfold tryAt
  rw [h]
theorem try_some {C : Str → Option Str} {ks : List Nat} {m : Nat} {k : Ev} {n : Str} (h : C (mkS (ks.take m)) = some n) : tryAt C ks m k = .act n (ks.take m) := by
  unfold tryAt
  rw [h]
theorem first_at {C : Str → Option Str} {ks : List Nat} {i : Nat} {n : Str} (hi : i < 4) (h : ∀ j, 4 - i < j → j ≤ 4 → C (mkS (ks.take j)) = none) (e : C (mkS (ks.take (4 - i))) = some n) : firstEv C ks = .act n (ks.take (4 - i)) := by
  unfold firstEv
  match i, hi with
  | 0, _ => exact try_some e
  | 1, _ => rw [try_none (h 4 (by omega) (by omega))]; exact try_some e
  | 2, _ => rw [try_none (h 4 (by omega) (by omega)), try_none (h 3 (by omega) (by omega))]; exact try_some e
  | 3, _ => rw [try_none (h 4 (by omega) (by omega)), try_none (h 3 (by omega) (by omega)), try_none (h 2 (by omega) (by omega))]; exact try_some e
theorem first_none {C : Str → Option Str} {ks : List Nat} (h : ∀ j, 0 < j → j ≤ 4 → C (mkS (ks.take j)) = none) : firstEv C ks = .text (ks.headD 0) := by
  unfold firstEv
  rw [try_none (h 4 (by omega) (by omega)), try_none (h 3 (by omega) (by omega)), try_none (h 2 (by omega) (by omega)), try_none (h 1 (by omega) (by omega))]
/-- either kind -/
theorem first_kind (C : Str → Option Str) (ks : List Nat) : (∃ c, firstEv C ks = .text c ∧ c = ks.headD 0) ∨ ∃ n m, firstEv C ks = .act n (ks.take m) ∧ 1 ≤ m ∧ m ≤ 4 ∧ C (mkS (ks.take m)) = some n := by
  unfold firstEv
  cases e4 : C (mkS (ks.take 4)) with
  | some n => exact Or.inr ⟨n, 4, try_some e4, by omega, by omega, e4⟩
  | none =>
    rw [try_none e4]
    cases e3 : C (mkS (ks.take 3)) with
    | some n => exact Or.inr ⟨n, 3, try_some e3, by omega, by omega, e3⟩
    | none =>
      rw [try_none e3]
      cases e2 : C (mkS (ks.take 2)) with
      | some n => exact Or.inr ⟨n, 2, try_some e2, by omega, by omega, e2⟩
      | none =>
        rw [try_none e2]
        cases e1 : C (mkS (ks.take 1)) with
        | some n => exact Or.inr ⟨n, 1, try_some e1, by omega, by omega, e1⟩
        | none =>
          rw [try_none e1]
          exact Or.inl ⟨_, rfl, rfl⟩
theorem first_len {C : Str → Option Str} {ks : List Nat} (h : ks ≠ []) : 1 ≤ (firstEv C ks).len ∧ (firstEv C ks).len ≤ 4 := by
  have h0 : 0 < ks.length := List.length_pos_iff.mpr h
  rcases first_kind C ks with ⟨c, e, _⟩ | ⟨n, m, e, h1, h2, _⟩ <;> rw [e]
  · exact ⟨Nat.le_refl _, show 1 ≤ 4 by decide⟩
  · show 1 ≤ (ks.take m).length ∧ (ks.take m).length ≤ 4
    rw [List.length_take]
    omega
theorem cut_take (ks : List Nat) (m : Nat) : cutS (mkS ks) none (some ((m : Nat) : Int)) = mkS (ks.take m) := by
  unfold cutS
  rw [HT.sIx_none, HT.sIx_nat, mkS_len]
  show (⟨((ks.toArray.toList.drop 0).take (min m ks.length - 0)).toArray⟩ : Str) = ⟨(ks.take m).toArray⟩
  congr 2
  rw [List.drop_zero, Nat.sub_zero]
  by_cases h : m ≤ ks.length
  · rw [Nat.min_eq_left h]
  · rw [Nat.min_eq_right (by omega), List.take_of_length_le (Nat.le_refl _), List.take_of_length_le (by omega)]
theorem cut_drop (ks : List Nat) (m : Nat) : cutS (mkS ks) (some ((m : Nat) : Int)) none = mkS (ks.drop m) := by
  unfold cutS
  rw [HT.sIx_none, HT.sIx_nat, mkS_len]
  show (⟨((ks.toArray.toList.drop (min m ks.length)).take (ks.length - min m ks.length)).toArray⟩ : Str) = ⟨(ks.drop m).toArray⟩
  congr 1
  by_cases h : m ≤ ks.length
  · rw [Nat.min_eq_left h, List.take_of_length_le (by rw [List.length_drop]; exact Nat.le_refl _)]
  · rw [Nat.min_eq_right (by omega), List.drop_of_length_le (Nat.le_refl _), List.drop_of_length_le (show ks.length ≤ m by omega), List.take_nil]
theorem pt_no {X : Cx} {e : Expr} : PT X e (fun _ _ _ => False) := ⟨fun _ _ _ _ _ _ h => h.elim⟩
section
variable {P : Program} {w : World} {K : PySem.W.Frag} {mg : Str → Option Value} {base : Heap} {T : List Addr}
def spFirst : Sp := fun vs H Q _ => ∃ (d : Addr) (tbl : List (Key × V)) (C : Str → Option Str) (ks : List Nat), vs = [.ref d, .str (mkS ks)] ∧ H d = some (.dK tbl) ∧ (∀ x, valV tbl (Sum.inr x : Key) = (C x).map V.str) ∧ ks ≠ [] ∧ ks.length ≤ 400 ∧ ∀ H' p, Ge H H' → H' p = some (.tup (firstEv C ks).vs) → Q (.ref p) H'
abbrev nFirst : List Str := ["table", "rest", "many", "keys"]
end
end Pr
set_option maxRecDepth 100000
set_option maxHeartbeats 2000000
/-! settle -/
namespace Pr
open PySem PySem.Spec PyProof.Rows L2 GxR Gx Rp Dl Pd Tx Zq
def nextB (fl : List Str) (eks : Str → List (Key × V)) : Ev → List Bool → List Bool
  | .text _, bs => bs
  | .act n _, bs => bsAfter fl bs (eks n)
def burstR (fl : List Str) (bss : List (List BI)) (eks : Str → List (Key × V)) : Nat → List Nat → List Bool → List Ev × List Bool
  | 0, _, bs => ([], bs)
  | n + 1, ks, bs => if ks = [] then ([], bs) else
      ((firstEv (cmdOf (factsK fl bs) bss) ks) :: (burstR fl bss eks n (ks.drop (firstEv (cmdOf (factsK fl bs) bss) ks).len) (nextB fl eks (firstEv (cmdOf (factsK fl bs) bss) ks) bs)).1,
        (burstR fl bss eks n (ks.drop (firstEv (cmdOf (factsK fl bs) bss) ks).len) (nextB fl eks (firstEv (cmdOf (factsK fl bs) bss) ks) bs)).2)
theorem burst_nil {fl : List Str} {bss : List (List BI)} {eks : Str → List (Key × V)} {n : Nat} {bs : List Bool} : burstR fl bss eks n [] bs = ([], bs) := by
  cases n <;> rfl
theorem burst_step {fl : List Str} {bss : List (List BI)} {eks : Str → List (Key × V)} {n : Nat} {ks : List Nat} {bs : List Bool} (h : ks ≠ []) : burstR fl bss eks (n + 1) ks bs =
    ((firstEv (cmdOf (factsK fl bs) bss) ks) :: (burstR fl bss eks n (ks.drop (firstEv (cmdOf (factsK fl bs) bss) ks).len) (nextB fl eks (firstEv (cmdOf (factsK fl bs) bss) ks) bs)).1,
        (burstR fl bss eks n (ks.drop (firstEv (cmdOf (factsK fl bs) bss) ks).len) (nextB fl eks (firstEv (cmdOf (factsK fl bs) bss) ks) bs)).2) := if_neg h
theorem nextB_len {fl : List Str} {eks : Str → List (Key × V)} {e : Ev} {bs : List Bool} (h : bs.length = fl.length) : (nextB fl eks e bs).length = fl.length := by
  cases e with
  | text c => exact h
  | act n ks =>
    show (bsAfter fl bs (eks n)).length = fl.length
    unfold bsAfter
    rw [List.length_map]
theorem burstR_len {fl : List Str} {bss : List (List BI)} {eks : Str → List (Key × V)} : ∀ {n : Nat} {ks : List Nat} {bs : List Bool}, bs.length = fl.length → (burstR fl bss eks n ks bs).2.length = fl.length ∧ (burstR fl bss eks n ks bs).1.length ≤ ks.length
  | 0, ks, bs, h => ⟨h, Nat.zero_le _⟩
  | n + 1, ks, bs, h => by
    by_cases hk : ks = []
    · subst hk
      rw [burst_nil]
      exact ⟨h, Nat.le_refl _⟩
    · rw [burst_step hk]
      obtain ⟨l1, l2⟩ := first_len (C := cmdOf (factsK fl bs) bss) hk
      have h0 : 0 < ks.length := List.length_pos_iff.mpr hk
      obtain ⟨q1, q2⟩ := burstR_len (bss := bss) (eks := eks) (n := n) (ks := ks.drop (firstEv (cmdOf (factsK fl bs) bss) ks).len) (bs := nextB fl eks (firstEv (cmdOf (factsK fl bs) bss) ks) bs) (nextB_len h)
      refine ⟨q1, ?_⟩
      rw [List.length_drop] at q2
      show _ + 1 ≤ ks.length
      omega
/-- what the commands of bindings are -/
def CmOk (bss : List (List BI)) (cks : List (Key × V)) : Prop := ∀ l ∈ bss, ∀ bi ∈ l, bi.cm = .non ∨ ∃ n v, bi.cm = .str n ∧ (Sum.inr n, v) ∈ cks
theorem firstC_mem {F : List (Key × V)} {x : Str} : ∀ {bs : List BI} {k j : Nat} {c : V}, firstC F x bs k = some (j, c) → ∃ bi ∈ bs, c = bi.cm
  | [], _, _, _, h => by cases h
  | b :: r, k, j, c, h => by
    have h : (if hit F x b then some (k, b.cm) else firstC F x r (k + 1)) = some (j, c) := h
    cases e : hit F x b with
    | true =>
      rw [e, if_pos rfl] at h
      cases h
      exact ⟨b, List.mem_cons_self, rfl⟩
    | false =>
      rw [e, if_neg Bool.false_ne_true] at h
      obtain ⟨bi, h1, h2⟩ := firstC_mem h
      exact ⟨bi, List.mem_cons_of_mem _ h1, h2⟩
theorem winC_mem {F : List (Key × V)} {x : Str} : ∀ {bss : List (List BI)} {k i j : Nat} {c : V}, winC F x bss k = some (i, j, c) → ∃ l ∈ bss, ∃ bi ∈ l, c = bi.cm
  | [], _, _, _, _, h => by cases h
  | l :: r, k, i, j, c, h => by
    have h : (match firstC F x l 0 with | some (j, c) => some (k, j, c) | none => winC F x r (k + 1)) = some (i, j, c) := h
    cases e : firstC F x l 0 with
    | some q =>
      rw [e] at h
      obtain ⟨j', c'⟩ := q
      cases h
      obtain ⟨bi, h1, h2⟩ := firstC_mem e
      exact ⟨l, List.mem_cons_self, bi, h1, h2⟩
    | none =>
      rw [e] at h
      obtain ⟨l', h1, h2⟩ := winC_mem h
      exact ⟨l', List.mem_cons_of_mem _ h1, h2⟩
theorem cmd_in {F : List (Key × V)} {bss : List (List BI)} {cks : List (Key × V)} (ok : CmOk bss cks) {x n : Str} (h : cmdOf F bss x = some n) : ∃ v, (Sum.inr n, v) ∈ cks := by
  unfold cmdOf at h
  cases e : winC F x bss 0 with
  | none => rw [e] at h; cases h
  | some q =>
    obtain ⟨i, j, c⟩ := q
    rw [e] at h
    obtain ⟨l, hl, bi, hb, rfl⟩ := winC_mem e
    rcases ok l hl bi hb with z | ⟨n', v, z, hv⟩
    · rw [z] at h; cases h
    · rw [z] at h
      cases h
      exact ⟨v, hv⟩
theorem valV_filter {kvs : List (Key × V)} {p : Key × V → Bool} {k : Key} (nd : (kvs.map (·.1)).Nodup) : valV (kvs.filter p) k = match valV kvs k with | some v => if p (k, v) = true then some v else none | none => none := by
  induction kvs with
  | nil => rfl
  | cons q r ih =>
    obtain ⟨h1, h2⟩ : q.1 ∉ r.map (·.1) ∧ (r.map (·.1)).Nodup := List.nodup_cons.mp nd
    have ih := ih h2
    rw [List.filter_cons]
    by_cases e : q.1 = k
    · have hv : valV r k = none := by
        cases z : valV r k with
        | none => rfl
        | some v => exact absurd (valV_in z) (by rw [← e]; exact h1)
      obtain ⟨a, b⟩ := q
      cases e
      rw [valV_pos (p := (a, b)) rfl]
      cases z : p (a, b) with
      | true =>
        rw [if_pos rfl, valV_pos (p := (a, b)) rfl]
        show some b = if p (a, b) = true then some b else none
        rw [z, if_pos rfl]
      | false =>
        rw [if_neg Bool.false_ne_true, ih, hv]
        show none = if p (a, b) = true then some b else none
        rw [z, if_neg Bool.false_ne_true]
    · rw [valV_neg e]
      cases z : p q with
      | true => rw [if_pos rfl, valV_neg e, ih]
      | false => rw [if_neg Bool.false_ne_true, ih]
theorem bound_cmd {F : List (Key × V)} {bss : List (List BI)} {cks : List (Key × V)} (ok : CmOk bss cks) (x : Str) : valV (boundK F bss) (Sum.inr x : Key) = (cmdOf F bss x).map V.str := by
  have nd : ((winAll F bss.flatten).map (·.1)).Nodup := fold_nd _ _ List.nodup_nil
  unfold boundK cmdOf
  rw [valV_filter nd, winAll_val]
  cases e : winC F x bss 0 with
  | none => rfl
  | some q =>
    obtain ⟨i, j, c⟩ := q
    obtain ⟨l, hl, bi, hb, rfl⟩ := winC_mem e
    rcases ok l hl bi hb with z | ⟨n', v, z, hv⟩
    · show (if (!decide (bi.cm = V.non)) = true then some bi.cm else none) = _
      rw [z]
      rfl
    · show (if (!decide (bi.cm = V.non)) = true then some bi.cm else none) = _
      rw [z]
      rfl
section
variable {P : Program} {w : World} {K : PySem.W.Frag} {mg : Str → Option Value} {base : Heap} {T : List Addr}
theorem KS.st {H H' : Hp} {m t o cd ly s s' : Addr} {fl : List Str} {bss : List (List BI)} {bs bs' : List Bool} {wt : Int} (k : KS K T H (.ref m) (.ref s) m t o cd ly s fl bss bs wt) (g : Ge H H') (hs : Rd H' s' (.tup (bs'.map V.bl))) (hl : bs'.length = fl.length) : KS K T H' (.ref m) (.ref s') m t o cd ly s' fl bss bs' wt :=
  let k' := k.ge g
  ⟨⟨rfl, rfl, k'.hm, k'.ht, hs, k'.nd, k'.l3, hl, k'.da, k'.tb⟩, k'.hk⟩
def spSettle (K : PySem.W.Frag) (T : List Addr) : Sp := fun vs H Q _ => ∃ m t o cd ly s fl bss bs wt cks eks ks, vs = [.ref m, .ref s, .str (mkS ks), .bl true] ∧ KS K T H (.ref m) (.ref s) m t o cd ly s fl bss bs wt ∧ bss.flatten.length ≤ 100 ∧ CAt H fl cd cks eks ∧ CmOk bss cks ∧ ks.length ≤ 400 ∧
  ∀ (H' : Hp) (p l s' : Addr) (us : List V), Ge H H' → Nw H l → H' p = some (.tup [.ref l, .ref s', .str (mkS [])]) → H' l = some (.lst us) → Paired (EvAt H') us (burstR fl bss eks ks.length ks bs).1 → Rd H' s' (.tup ((burstR fl bss eks ks.length ks bs).2.map V.bl)) → Q (.ref p) H'
abbrev nSettle : List Str := ["keymap", "state", "keys", "silence", "events", "table", "event"]
end
end Pr
set_option maxRecDepth 100000
set_option maxHeartbeats 2000000
/-! winners as data; keys that may be asked for -/
namespace Pr
open PySem PySem.Spec PyProof.Rows L2 GxR Gx Rp Dl Pd Tx Zq
def KeyOk (x : Str) : Prop := isKeys (.str x) = true ∧ small (.str x) = true
theorem key_ok {x : Str} (h1 : 1 ≤ x.length) (h4 : x.length ≤ 4) (hl : letters x = true) : KeyOk x := by
  refine ⟨?_, decide_eq_true (by omega)⟩
  show (decide (1 ≤ (x.length : Int)) && decide ((x.length : Int) ≤ 4) && letters x) = true
  rw [hl, decide_eq_true (by omega), decide_eq_true (by omega)]
  rfl
theorem key_four : ∀ x ∈ (["a", "zz", "ab", "qqqq"] : List Str), KeyOk x := fun x h => by
  have z : ∀ x ∈ (["a", "zz", "ab", "qqqq"] : List Str), 1 ≤ x.length ∧ x.length ≤ 4 ∧ letters x = true := by decide +kernel
  obtain ⟨a, b, c⟩ := z x h
  exact key_ok a b c
theorem firstIn_lt {F : List (Key × V)} {x : Str} : ∀ {bs : List BI} {k j : Nat}, firstIn F x bs k = some j → j < k + bs.length
  | [], _, _, h => by cases h
  | b :: r, k, j, h => by
    have h : (if hit F x b then some k else firstIn F x r (k + 1)) = some j := h
    cases e : hit F x b with
    | true =>
      rw [e, if_pos rfl] at h
      cases h
      show k < k + (r.length + 1)
      omega
    | false =>
      rw [e, if_neg Bool.false_ne_true] at h
      have := firstIn_lt h
      show j < k + (r.length + 1)
      omega
theorem winnerB_lt {F : List (Key × V)} {x : Str} {n : Nat} : ∀ {bss : List (List BI)} {k i j : Nat}, (∀ l ∈ bss, l.length ≤ n) → winnerB F x bss k = some (i, j) → i < k + bss.length ∧ j < n
  | [], _, _, _, _, h => by cases h
  | l :: r, k, i, j, hn, h => by
    have h : (match firstIn F x l 0 with | some j => some (k, j) | none => winnerB F x r (k + 1)) = some (i, j) := h
    cases e : firstIn F x l 0 with
    | some j' =>
      rw [e] at h
      cases h
      have z := firstIn_lt e
      have := hn l List.mem_cons_self
      exact ⟨by show k < k + (r.length + 1); omega, by omega⟩
    | none =>
      rw [e] at h
      obtain ⟨a, b⟩ := winnerB_lt (fun l hl => hn l (List.mem_cons_of_mem _ hl)) h
      exact ⟨by show i < k + (r.length + 1); omega, b⟩
theorem flat_le {bss : List (List BI)} {n : Nat} (h : bss.flatten.length ≤ n) : ∀ l ∈ bss, l.length ≤ n := fun l hl => by
  induction bss with
  | nil => cases hl
  | cons a r ih =>
    rw [List.flatten_cons, List.length_append] at h
    rcases List.mem_cons.mp hl with rfl | hl
    · omega
    · exact ih (by omega) hl
def winD : Option (Nat × Nat) → PyData
  | none => .none
  | some (i, j) => .tuple [.int (i : Nat), .int (j : Nat)]
theorem winD_da {K : PySem.W.Frag} {H : Hp} {r : V} {w : Option (Nat × Nat)} (h : WinR H r w) : Da K H r (winD w) := by
  cases w with
  | none =>
    have h : r = .non := h
    rw [h]
    exact .non
  | some q =>
    obtain ⟨p, rfl, hp⟩ := h
    exact .tup (Or.inl hp) (.cons (.int _) (.cons (.int _) .nil))
theorem winD_ok {w : Option (Nat × Nat)} (h : ∀ i j, w = some (i, j) → i ≤ 1000 ∧ j ≤ 1000) : (winD w).showable = true ∧ noL (winD w) = true ∧ (winD w).depth ≤ 60 ∧ (winD w).shown.length ≤ sizeLine := by
  cases w with
  | none => exact ⟨rfl, rfl, by decide, by decide⟩
  | some q =>
    obtain ⟨i, j⟩ := q
    obtain ⟨a, b⟩ := h i j rfl
    have ok : okD (winD (some (i, j))) = true := by
      show (decide (2 ≤ 100) && (okD (.int (i : Nat)) && (okD (.int (j : Nat)) && true))) = true
      have z : ∀ n : Nat, n ≤ 1000 → okD (.int (n : Nat)) = true := fun n hn => by
        show (decide (0 ≤ (n : Int)) && decide ((n : Int) ≤ 1000)) = true
        rw [decide_eq_true (by omega), decide_eq_true (by omega)]
        rfl
      rw [z i a, z j b]
      rfl
    obtain ⟨f1, f2, _⟩ := shown_le _ ok
    refine ⟨f2, rfl, by simp [winD, PyData.depth, PyData.depthAll], Nat.le_trans f1 ?_⟩
    simp only [winD, wgt, wgtAll]
    decide
end Pr
set_option maxRecDepth 100000
set_option maxHeartbeats 2000000
/-! small facts for law k02 -/
namespace Pr
open PySem PySem.Spec PyProof.Rows L2 GxR Gx Rp Dl Pd Tx Zq
theorem Nw.back {H H1 : Hp} {a : Addr} (g : Ge H H1) (n : Nw H1 a) : Nw H a := by
  refine ⟨fun ob e => ?_, fun tb => n.2 (g.2 a tb)⟩
  cases ob with
  | tbl ps => exact ⟨ps, rfl⟩
  | _ =>
    obtain ⟨ps, z⟩ := n.1 _ (g.1 a _ e (fun ps z => by cases z))
    cases z
theorem ge_updN {d : Addr} {H H' : Hp} {o : HO} (g : Ge H H') (hd : Nw H d) : Ge H (upd H' d o) :=
  ⟨fun b u hb n => by
      have : b ≠ d := fun z => by
        subst z
        obtain ⟨ps, q⟩ := hd.1 u hb
        exact n ps q
      rw [upd_ne this]; exact g.1 b u hb n, fun b tb => by
    obtain ⟨ps, e, w⟩ := g.2 b tb
    have : b ≠ d := fun z => by
      subst z
      exact hd.2 tb
    exact ⟨ps, by rw [upd_ne this]; exact e, w⟩⟩
theorem winAll_mem (F : List (Key × V)) : ∀ (bs : List BI) (acc : List (Key × V)) (q : Key × V), q ∈ bs.foldl (stepW F) acc → q ∈ acc ∨ ∃ b ∈ bs, q.2 = b.cm
  | [], acc, q, h => Or.inl h
  | b :: r, acc, q, h => by
    rcases winAll_mem F r _ q h with h | ⟨b', hb, e⟩
    · unfold stepW at h
      split at h
      · rcases List.mem_append.mp h with z | z
        · exact Or.inl z
        · exact Or.inr ⟨b, List.mem_cons_self, by rw [List.mem_singleton.mp z]⟩
      · exact Or.inl h
    · exact Or.inr ⟨b', List.mem_cons_of_mem _ hb, e⟩
theorem bound_str {F : List (Key × V)} {bss : List (List BI)} {fl ns : List Str} (ok : ∀ l ∈ bss, ∀ bi ∈ l, BIok fl ns bi) : ∀ q ∈ boundK F bss, ∃ n ∈ ns, q.2 = .str n := fun q hq => by
  obtain ⟨h1, h2⟩ := List.mem_filter.mp hq
  rcases winAll_mem F _ _ q h1 with z | ⟨b, hb, e⟩
  · cases z
  · obtain ⟨l, hl, hb⟩ := List.mem_flatten.mp hb
    rcases (ok l hl b hb).2.1 with z | ⟨n, hn, z⟩
    · rw [e, z] at h2
      cases h2
    · exact ⟨n, hn, by rw [e, z]⟩
theorem daKv_strs {K : PySem.W.Frag} {H : Hp} : ∀ {kvs : List (Key × V)}, (∀ q ∈ kvs, ∃ n, q.2 = V.str n) → ∃ ds, DaKv K H kvs ds
  | [], _ => ⟨[], .nil⟩
  | (k, v) :: r, h => by
    obtain ⟨n, e⟩ := h _ List.mem_cons_self
    obtain ⟨ds, h2⟩ := daKv_strs (kvs := r) fun q hq => h q (List.mem_cons_of_mem _ hq)
    cases e
    exact ⟨_, .cons (.str n) h2⟩
theorem bound_len {F : List (Key × V)} {bss : List (List BI)} : (boundK F bss).length ≤ bss.flatten.length := by
  refine Nat.le_trans (List.length_filter_le _ _) ?_
  have := fold_len (F := F) bss.flatten []
  have h3 : ([] : List (Key × V)).length = 0 := rfl
  show ((bss.flatten.foldl (stepW F) [])).length ≤ _
  omega
theorem bound_nd {F : List (Key × V)} {bss : List (List BI)} : ((boundK F bss).map (·.1)).Nodup := filter_nd (fold_nd _ _ List.nodup_nil)
/-- a key's entry in the table of winners -/
theorem WT.at {H : Hp} {F found : List (Key × V)} {bss : List (List BI)} (w : WT H found (fun x => winC F x bss 0)) {key : Key} {val : V} (hm : (key, val) ∈ found) : ∃ x i j c p, key = Sum.inr x ∧ val = .ref p ∧ winC F x bss 0 = some (i, j, c) ∧ H p = some (.tup [.int (i : Nat), .int (j : Nat), c]) ∧ cmK F bss key = c := by
  obtain ⟨x, hx⟩ := w.2.1 _ hm
  cases hx
  have hv := valV_nodup w.1 hm
  rcases w.2.2 x with ⟨_, n⟩ | ⟨i, j, c, p, h1, h2, h3⟩
  · rw [n] at hv
    cases hv
  · have h1 : winC F x bss 0 = some (i, j, c) := h1
    rw [h2] at hv
    refine ⟨x, i, j, c, p, rfl, (Option.some.inj hv).symm, h1, h3, ?_⟩
    show (Option.map (fun q : Nat × Nat × V => q.2.2) (winC F x bss 0)).getD .non = c
    rw [h1]
    rfl
theorem due_snoc {F found : List (Key × V)} {bss : List (List BI)} {q : Key × V} : dueK F bss (found ++ [q]) = dueK F bss found ++ (if (!decide (cmK F bss q.1 = V.non)) = true then [(q.1, cmK F bss q.1)] else []) := by
  unfold dueK
  rw [List.map_append, List.filter_append]
  congr 1
  show List.filter _ [(q.1, cmK F bss q.1)] = _
  rw [List.filter_cons]
  cases e : (!decide (cmK F bss q.1 = V.non)) <;> rfl
theorem due_len {F found : List (Key × V)} {bss : List (List BI)} : (dueK F bss found).length ≤ found.length := by
  refine Nat.le_trans (List.length_filter_le _ _) ?_
  rw [List.length_map]
  exact Nat.le_refl _
theorem cut2 {a b c : V} : cutV [a, b, c] none (some 2) = [a, b] := rfl
end Pr
set_option maxRecDepth 100000
set_option maxHeartbeats 2000000
/-! read -/
namespace Pr
open PySem PySem.Spec PyProof.Rows L2 GxR Gx Rp Dl Pd Tx Zq
def readR (fl : List Str) (bss : List (List BI)) (eks : Str → List (Key × V)) : List BU → List Bool → List Ev × List Bool
  | [], bs => ([], bs)
  | u :: r, bs => ((burstR fl bss eks u.1.length u.1 bs).1 ++ (readR fl bss eks r (bsAfter fl (burstR fl bss eks u.1.length u.1 bs).2 (setK u.2))).1, (readR fl bss eks r (bsAfter fl (burstR fl bss eks u.1.length u.1 bs).2 (setK u.2))).2)
theorem bursts_mem {w : Int} {ol : List Str} : ∀ {es : List RE} {ks : List Nat} {last : Int}, (∀ e ∈ es, okE ol e) → ∀ u ∈ burstsM w es ks last, u.1.length ≤ ks.length + es.length ∧ ∀ f b, u.2 = some (f, b) → f ∈ ol
  | [], ks, last, _, u, hu => by
    rw [List.mem_singleton.mp hu]
    exact ⟨Nat.le_refl _, fun f b z => by cases z⟩
  | .set f b t :: r, ks, last, ok, u, hu => by
    rcases List.mem_cons.mp hu with rfl | hu
    · refine ⟨Nat.le_add_right _ _, fun f' b' z => ?_⟩
      cases z
      exact (ok _ List.mem_cons_self).1
    · obtain ⟨h1, h2⟩ := bursts_mem (fun e he => ok e (List.mem_cons_of_mem _ he)) u hu
      refine ⟨?_, h2⟩
      simp only [List.length_nil, List.length_cons] at h1 ⊢
      omega
  | .key c t :: r, ks, last, ok, u, hu => by
    have hu : u ∈ (if ks ≠ [] ∧ w < t - last then (ks, none) :: burstsM w r [c] t else burstsM w r (ks ++ [c]) t) := hu
    have ok' : ∀ e ∈ r, okE ol e := fun e he => ok e (List.mem_cons_of_mem _ he)
    by_cases hc : ks ≠ [] ∧ w < t - last
    · rw [if_pos hc] at hu
      rcases List.mem_cons.mp hu with rfl | hu
      · exact ⟨Nat.le_add_right _ _, fun f' b' z => by cases z⟩
      · obtain ⟨h1, h2⟩ := bursts_mem ok' u hu
        refine ⟨?_, h2⟩
        have := List.length_pos_iff.mpr hc.1
        simp only [List.length_cons, List.length_nil] at h1 ⊢
        omega
    · rw [if_neg hc] at hu
      obtain ⟨h1, h2⟩ := bursts_mem ok' u hu
      refine ⟨?_, h2⟩
      simp only [List.length_append, List.length_cons, List.length_nil] at h1 ⊢
      omega
theorem bursts_ne {w : Int} : ∀ {es : List RE} {ks : List Nat} {last : Int}, burstsM w es ks last ≠ []
  | [], _, _ => fun z => by cases z
  | .set f b t :: r, ks, last => fun z => by cases z
  | .key c t :: r, ks, last => by
    show (if ks ≠ [] ∧ w < t - last then (ks, none) :: burstsM w r [c] t else burstsM w r (ks ++ [c]) t) ≠ []
    split
    · intro z
      cases z
    · exact bursts_ne
theorem paired_app {α β : Type} {F : α → β → Prop} {xs' : List α} {ys' : List β} (h : Paired F xs' ys') : ∀ {xs : List α} {ys : List β}, Paired F xs ys → Paired F (xs ++ xs') (ys ++ ys')
  | _, _, .nil => h
  | _, _, .cons x r => .cons x (paired_app h r)
theorem bursts_len {w : Int} : ∀ {es : List RE} {ks : List Nat} {last : Int}, (burstsM w es ks last).length ≤ es.length + 1
  | [], _, _ => Nat.le_refl _
  | .set f b t :: r, ks, last => by
    have := bursts_len (w := w) (es := r) (ks := []) (last := last)
    show (burstsM w r [] last).length + 1 ≤ (r.length + 1) + 1
    omega
  | .key c t :: r, ks, last => by
    show (if ks ≠ [] ∧ w < t - last then (ks, none) :: burstsM w r [c] t else burstsM w r (ks ++ [c]) t).length ≤ (r.length + 1) + 1
    have h1 := bursts_len (w := w) (es := r) (ks := [c]) (last := t)
    have h2 := bursts_len (w := w) (es := r) (ks := ks ++ [c]) (last := t)
    split
    · rw [List.length_cons]; omega
    · omega
theorem bsAfter_len {fl : List Str} {bs : List Bool} {ek : List (Key × V)} : (bsAfter fl bs ek).length = fl.length := by unfold bsAfter; rw [List.length_map]
theorem set_at {H : Hp} {fl : List Str} {d : Addr} {st : Option (Str × Bool)} (h : H d = some (.dK (setK st))) (hf : ∀ f b, st = some (f, b) → f ∈ fl) : EAt H fl d (setK st) := by
  cases st with
  | none => exact ⟨h, List.nodup_nil, fun q hq => by cases hq⟩
  | some x =>
    obtain ⟨f, b⟩ := x
    refine ⟨h, by simp [setK], fun q hq => ?_⟩
    rw [List.mem_singleton.mp hq]
    exact ⟨f, b, rfl, hf f b rfl⟩
section
variable {P : Program} {w : World} {K : PySem.W.Frag} {mg : Str → Option Value} {base : Heap} {T : List Addr}
def spRead (K : PySem.W.Frag) (T : List Addr) : Sp := fun vs H Q _ => ∃ m t o cd ly s fl bss bs wt cks eks L ol es, vs = [.ref m, .ref s, .ref L] ∧ KS K T H (.ref m) (.ref s) m t o cd ly s fl bss bs wt ∧ bss.flatten.length ≤ 100 ∧ CAt H fl cd cks eks ∧ CmOk bss cks ∧ Rd H o (.tup (ol.map V.str)) ∧ (∀ f ∈ ol, f ∈ fl) ∧ RowAt H L es ∧ RowOk ol es ∧
  ∀ (H' : Hp) (p l s' : Addr) (us : List V), Ge H H' → Nw H l → H' p = some (.tup [.ref l, .ref s']) → H' l = some (.lst us) → Paired (EvAt H') us (readR fl bss eks (burstsM wt es [] 0) bs).1 → Rd H' s' (.tup ((readR fl bss eks (burstsM wt es [] 0) bs).2.map V.bl)) → Q (.ref p) H'
abbrev nRead : List Str := ["keymap", "state", "row", "events", "keys", "settings", "told", "_"]
end
end Pr
set_option maxRecDepth 100000
set_option maxHeartbeats 2000000
/-! repr of data with lists and dicts together -/
namespace Rp
open PySem PySem.Spec PyProof.Rows L2
section
variable {X : Cx} {pins : List (Addr × Obj)} {σ : L2.St} {H : Hp} {s : Shared}
abbrev ShK (X : Cx) (s : Shared) (n : Nat) (u : Value) (t : Str) : Prop := ∃ bs, ReadAtMost s.heap n bs ∧ ReprK X.prog X.w bs s.heap n u t
abbrev ShA (X : Cx) (s : Shared) (n : Nat) (us : List Value) (ts : List Str) : Prop := ∃ bs, ReadAtMost s.heap n bs ∧ ReprAllK X.prog X.w bs s.heap n us ts
theorem none_at {h : Heap} {n : Nat} : ReadAtMost h n [] := fun _ z => nomatch z
theorem shA_nil {n : Nat} : ShA X s n [] [] := ⟨[], none_at, .nil⟩
theorem shA_cons {n m : Nat} {u : Value} {us : List Value} {t : Str} {ts : List Str} (a : ShK X s n u t) (b : ShA X s m us ts) : ShA X s (max n m) (u :: us) (t :: ts) := by
  obtain ⟨bs, b1, b2⟩ := a
  obtain ⟨cs, c1, c2⟩ := b
  refine ⟨bs ++ cs, (b1.mono (Nat.le_max_left n m)).append (c1.mono (Nat.le_max_right n m)), .cons ?_ ?_⟩
  · exact (b2.more fun x hx => List.mem_append_left cs hx).level_le (Nat.le_max_left n m)
  · exact c2.more_le (fun x hx => List.mem_append_right bs hx) (Nat.le_max_right n m)
theorem keys_sh : ∀ {vs : List Value} {ds : List PyData}, ReadsAll s.heap vs ds [] → PyData.showableAll ds = true → (∀ t ∈ PyData.shownAll ds, t.length ≤ sizeLine) → ShA X s (PyData.depthAll ds) vs (PyData.shownAll ds) := fun r h1 h2 =>
  ReprAllK.of_readsAll r h1 (fun _ z => nomatch z) h2
mutual
theorem Da.shows (I : Inv X pins σ H s) : ∀ (d : PyData) (v : V) (u : Value), Da X.K H v d → RelV v u → d.showable = true → d.shown.length ≤ sizeLine → ShK X s d.depth u d.shown
  | .none, _, _, h, r, _, _ => by
    cases h
    cases r
    simp only [PyData.shown]
    exact ⟨[], none_at, .of_is ReprIs.none _ _ _⟩
  | .bool b, _, _, h, r, _, _ => by
    cases h
    cases r
    simp only [PyData.shown]
    exact ⟨[], none_at, .of_is (ReprIs.bool b) _ _ _⟩
  | .int i, _, _, h, r, hs, _ => by
    cases h
    obtain ⟨t, rfl⟩ := r
    simp only [PyData.shown]
    exact ⟨[], none_at, .of_is (ReprIs.int t (by simpa only [PyData.showable, decide_eq_true_eq] using hs)) _ _ _⟩
  | .str x, _, _, h, r, _, hz => by
    cases h
    obtain ⟨t, rfl⟩ := r
    simp only [PyData.shown] at hz ⊢
    exact ⟨[], none_at, .of_is (ReprIs.str x t hz) _ _ _⟩
  | .list ds, _, _, h, r, hs, hz => by
    obtain ⟨as, q, _⟩ := Da.reads I _ _ _ h r
    cases h with
    | @lst a xs _ h1 ha =>
      cases r
      obtain ⟨its, rv, ⟨o, n, ho, hc, _, hd⟩, _⟩ := I.list (Or.inl h1)
      have hs' : PyData.showableAll ds = true := by simpa only [PyData.showable] using hs
      simp only [PyData.shown] at hz
      obtain ⟨bs, hb, hk⟩ := DaAll.shows I ds _ its ha rv hs' (fun t ht => Nat.le_trans (listText_mem_le ht) hz)
      have lt : PyData.depthAll ds < (PyData.list ds).depth := by simp only [PyData.depth]; omega
      have na : a ∉ bs := not_mem_of_deeper q lt hb
      refine ⟨a :: bs, ReadAtMost.cons q (Nat.le_of_lt lt) hb, ?_⟩
      simp only [PyData.depth, PyData.shown]
      cases its with
      | nil =>
        cases hk' : PyData.shownAll ds with
        | nil =>
          rw [listText_nil]
          exact ReprK.listEmpty ho hc hd
        | cons t ts =>
          rw [hk'] at hk
          cases hk
      | cons x l => exact ReprK.list ho hc hd na (by simpa using hk.length_eq) (fun i y e => hk.item i y (by simpa using e))
  | .tuple ds, _, _, h, r, hs, hz => by
    obtain ⟨as, q, _⟩ := Da.reads I _ _ _ h r
    cases h with
    | @tup a xs _ h1 ha =>
      cases r
      obtain ⟨its, rv, ⟨o, ho, hc, n, hd⟩, _⟩ := I.tuple (Or.inl h1)
      have hs' : PyData.showableAll ds = true := by simpa only [PyData.showable] using hs
      simp only [PyData.shown] at hz
      obtain ⟨bs, hb, hk⟩ := DaAll.shows I ds _ its ha rv hs' (fun t ht => Nat.le_trans (tupleText_mem_le ht) hz)
      have lt : PyData.depthAll ds < (PyData.tuple ds).depth := by simp only [PyData.depth]; omega
      have na : a ∉ bs := not_mem_of_deeper q lt hb
      refine ⟨a :: bs, ReadAtMost.cons q (Nat.le_of_lt lt) hb, ?_⟩
      simp only [PyData.depth, PyData.shown]
      exact ReprK.tuple ho hc hd na hk
  | .dict ds, _, _, h, r, hs, hz => by
    obtain ⟨as, q, _⟩ := Da.reads I _ _ _ h r
    cases h with
    | @dct a kvs _ h1 hn ha =>
      cases r
      obtain ⟨_, hsys, us, rv, o, es, ep, ho, hx, hd, _, hp, _⟩ := (show ObjOk X.prog X.w H s.heap a (.dK kvs) from rd_of I.hok h1)
      have kr := keys_read (h := s.heap) rv hp
      rw [← daKv_fst ha] at kr
      have hs' : PyData.showableKv ds = true := by simpa only [PyData.showable] using hs
      obtain ⟨s1, s2⟩ := PyData.showableKv_split ds hs'
      simp only [PyData.shown] at hz
      obtain ⟨b1, hb1, k1⟩ := keys_sh (X := X) kr s1 (fun t ht => by
        obtain ⟨p, hp, l⟩ := PyData.shownKv_key_le ds t ht
        exact Nat.le_trans l (Nat.le_trans (dictText_mem_le hp) hz))
      obtain ⟨b2, hb2, k2⟩ := DaKv.shows I ds kvs _ ha (vals_read rv hp) s2 (fun t ht => by
        obtain ⟨p, hp, l⟩ := PyData.shownKv_val_le ds t ht
        exact Nat.le_trans l (Nat.le_trans (dictText_mem_le hp) hz))
      have hb : ReadAtMost s.heap (PyData.depthKv ds) (b1 ++ b2) := (hb1.mono (PyData.depthAll_keys_le ds)).append (hb2.mono (PyData.depthAll_vals_le ds))
      have lt : PyData.depthKv ds < (PyData.dict ds).depth := by simp only [PyData.depth]; omega
      have na : a ∉ b1 ++ b2 := not_mem_of_deeper q lt hb
      refine ⟨a :: (b1 ++ b2), ReadAtMost.cons q (Nat.le_of_lt lt) hb, ?_⟩
      simp only [PyData.depth, PyData.shown]
      rw [PyData.shownKv_eq]
      refine ReprK.dict ho hx.1 hd hsys na (ReprEntriesK.of_two es.toList _ _ ?_ ?_)
      · exact k1.more_le (fun x hx => List.mem_append_left b2 hx) (PyData.depthAll_keys_le ds)
      · exact k2.more_le (fun x hx => List.mem_append_right b1 hx) (PyData.depthAll_vals_le ds)
theorem DaAll.shows (I : Inv X pins σ H s) : ∀ (ds : List PyData) (vs : List V) (us : List Value), DaAll X.K H vs ds → Vals vs us → PyData.showableAll ds = true → (∀ t ∈ PyData.shownAll ds, t.length ≤ sizeLine) → ShA X s (PyData.depthAll ds) us (PyData.shownAll ds)
  | [], _, _, h, r, _, _ => by
    cases h
    cases r
    simp only [PyData.shownAll]
    exact shA_nil
  | d :: ds, _, _, h, r, hs, hz => by
    cases h with
    | cons h1 h2 =>
      cases r with
      | cons r1 r2 =>
        have z : d.showable = true ∧ PyData.showableAll ds = true := by simpa only [PyData.showableAll, Bool.and_eq_true] using hs
        simp only [PyData.shownAll, List.mem_cons] at hz
        simp only [PyData.shownAll, PyData.depthAll]
        exact shA_cons (Da.shows I d _ _ h1 r1 z.1 (hz _ (Or.inl rfl))) (DaAll.shows I ds _ _ h2 r2 z.2 fun t ht => hz t (Or.inr ht))
theorem DaKv.shows (I : Inv X pins σ H s) : ∀ (ds : List (PyData × PyData)) (kvs : List (Key × V)) (us : List Value), DaKv X.K H kvs ds → Vals (kvs.map (·.2)) us → PyData.showableAll (ds.map (·.2)) = true → (∀ t ∈ PyData.shownAll (ds.map (·.2)), t.length ≤ sizeLine) → ShA X s (PyData.depthAll (ds.map (·.2))) us (PyData.shownAll (ds.map (·.2)))
  | [], _, _, h, r, _, _ => by
    cases h
    cases r
    simp only [PyData.shownAll, List.map_nil]
    exact shA_nil
  | d :: ds, _, _, h, r, hs, hz => by
    cases h with
    | @cons k0 v0 r0 d0 _ h1 h2 =>
      cases r with
      | cons r1 r2 =>
        have z : d0.showable = true ∧ PyData.showableAll (ds.map (·.2)) = true := by simpa only [PyData.showableAll, List.map_cons, Bool.and_eq_true] using hs
        simp only [PyData.shownAll, List.map_cons, List.mem_cons] at hz
        simp only [PyData.shownAll, List.map_cons, PyData.depthAll]
        exact shA_cons (Da.shows I d0 _ _ h1 r1 z.1 (hz _ (Or.inl rfl))) (DaKv.shows I ds _ _ h2 r2 z.2 fun t ht => hz t (Or.inr ht))
end
end
section
variable {X : Cx}
/-- repr(x), data of any kind -/
def rReprD (K : PySem.W.Frag) : List V → Hp → VK → Prop := fun xs H Q => ∃ x d, xs = [x] ∧ Da K H x d ∧ d.showable = true ∧ d.depth ≤ 60 ∧ d.shown.length ≤ sizeLine ∧ Q (.str d.shown) H
theorem call_reprD (hg : X.A.guards = some []) (hu : X.A.units + 64 < cLine) : CallR X (.builtin "repr") (rReprD X.K) := by
  intro pins s σ H xs us Q I r h
  obtain ⟨x, d, rfl, hd, hs, hdp, hz, q⟩ := h
  have fin : ∀ {h' : Heap} {u tk : Tok}, (∀ b o, s.heap.get? b = some o → h'.get? b = some o) → ∃ z H', Inv X pins σ H' { s with heap := h', toks := tk } ∧ RelV z (.str d.shown u) ∧ Q z H' := fun hk => ⟨.str _, H, I.kept hk, ⟨_, rfl⟩, q⟩
  cases r with
  | cons r rr =>
    cases rr
    cases d with
    | none =>
      cases hd
      cases r
      simp only [PyData.shown] at q
      exact PySem.P.repr_of_none ⟨.str _, H, I.tok _, ⟨_, rfl⟩, q⟩
    | bool b =>
      cases hd
      cases r
      simp only [PyData.shown] at q
      exact PySem.P.repr_of_bool ⟨.str _, H, I.tok _, ⟨_, rfl⟩, q⟩
    | int i =>
      cases hd
      obtain ⟨t, rfl⟩ := r
      simp only [PyData.shown] at q
      exact PySem.P.repr_of_int (by simpa [PyData.showable] using hs) ⟨.str _, H, I.tok _, ⟨_, rfl⟩, q⟩
    | str y =>
      cases hd
      obtain ⟨t, rfl⟩ := r
      simp only [PyData.shown] at q hz
      exact PySem.P.repr_of_str ⟨.str _, H, I.tok _, ⟨_, rfl⟩, q⟩ hz
    | list ds =>
      obtain ⟨as, rd, _⟩ := Da.reads I _ _ _ hd r
      cases hd with
      | @lst a xs _ h1 ha =>
        cases r
        obtain ⟨its, rv, ⟨o, n, ho, hc, _, hdt⟩, _⟩ := I.list (Or.inl h1)
        have hs' : PyData.showableAll ds = true := by simpa only [PyData.showable] using hs
        simp only [PyData.shown] at hz
        obtain ⟨bs, hb, hk⟩ := DaAll.shows I ds _ its ha rv hs' (fun t ht => Nat.le_trans (listText_mem_le ht) hz)
        have lt : PyData.depthAll ds < (PyData.list ds).depth := by simp only [PyData.depth]; omega
        have na : a ∉ bs := not_mem_of_deeper rd lt hb
        simp only [PyData.depth] at hdp
        refine call_repr_slot (by omega) ⟨o, ho, hc⟩ F.slot_list_repr.toG ?_
        cases its with
        | nil =>
          have e : PyData.shownAll ds = [] := by
            cases hk' : PyData.shownAll ds with
            | nil => rfl
            | cons t ts =>
              rw [hk'] at hk
              cases hk
          simp only [PyData.shown, e, listText_nil] at fin
          exact call_list_repr_empty ⟨o, ho, hc⟩ ho hdt ⟨_, _, rfl, fin (fun _ _ z => z)⟩
        | cons x l =>
          simp only [PyData.shown] at fin
          exact call_list_reprK ho hc hdt na (by simpa using hk.length_eq) (fun i y e => hk.item i y (by simpa using e)) hg (fun b _ => Clear.nil b) (by show X.A.units + 1 + _ < cLine; omega) (fun _ _ z => z) (fun h' u tk hk => ⟨_, _, rfl, fin hk⟩) hz
    | tuple ds =>
      obtain ⟨as, rd, _⟩ := Da.reads I _ _ _ hd r
      cases hd with
      | @tup a xs _ h1 ha =>
        cases r
        obtain ⟨its, rv, ⟨o, ho, hc, n, hdt⟩, _⟩ := I.tuple (Or.inl h1)
        have hs' : PyData.showableAll ds = true := by simpa only [PyData.showable] using hs
        simp only [PyData.shown] at hz
        obtain ⟨bs, hb, hk⟩ := DaAll.shows I ds _ its ha rv hs' (fun t ht => Nat.le_trans (tupleText_mem_le ht) hz)
        have lt : PyData.depthAll ds < (PyData.tuple ds).depth := by simp only [PyData.depth]; omega
        have na : a ∉ bs := not_mem_of_deeper rd lt hb
        simp only [PyData.depth] at hdp
        simp only [PyData.shown] at fin
        refine call_repr_slot (by omega) ⟨o, ho, hc⟩ F.slot_tuple_repr ?_
        exact call_tuple_reprK ho hc hdt na hk hg (fun b _ => Clear.nil b) (by show X.A.units + 1 + _ < cLine; omega) (fun _ _ z => z) (fun h' u tk hk => ⟨_, _, rfl, fin hk⟩) hz
    | dict ds =>
      cases hd with
      | dct h1 hn0 h2 =>
        have hd' : Da X.K H _ (.dict ds) := .dct h1 hn0 h2
        obtain ⟨as, rd, _⟩ := Da.reads I _ _ _ hd' r
        cases r
        obtain ⟨bs, hb, hk⟩ := Da.shows I _ _ _ hd' rfl hs hz
        obtain ⟨_, hsys, us, rv, o, es, ep, ho, hx, hdt, _, hp, _⟩ := (show ObjOk X.prog X.w H s.heap _ (.dK _) from rd_of I.hok h1)
        have kr := keys_read (h := s.heap) rv hp
        rw [← daKv_fst h2] at kr
        have hs' : PyData.showableKv ds = true := by simpa only [PyData.showable] using hs
        obtain ⟨s1, s2⟩ := PyData.showableKv_split ds hs'
        simp only [PyData.shown] at hz
        obtain ⟨b1, hb1, k1⟩ := keys_sh (X := X) kr s1 (fun t ht => by
          obtain ⟨p, hp, l⟩ := PyData.shownKv_key_le ds t ht
          exact Nat.le_trans l (Nat.le_trans (dictText_mem_le hp) hz))
        obtain ⟨b2, hb2, k2⟩ := DaKv.shows I ds _ _ h2 (vals_read rv hp) s2 (fun t ht => by
          obtain ⟨p, hp, l⟩ := PyData.shownKv_val_le ds t ht
          exact Nat.le_trans l (Nat.le_trans (dictText_mem_le hp) hz))
        have hbb : ReadAtMost s.heap (PyData.depthKv ds) (b1 ++ b2) := (hb1.mono (PyData.depthAll_keys_le ds)).append (hb2.mono (PyData.depthAll_vals_le ds))
        have lt : PyData.depthKv ds < (PyData.dict ds).depth := by simp only [PyData.depth]; omega
        have na := not_mem_of_deeper rd lt hbb
        simp only [PyData.depth] at hdp
        simp only [PyData.shown] at fin
        rw [PyData.shownKv_eq] at fin hz
        refine call_repr_slot (by omega) ⟨o, ho, hx.1⟩ F.slot_dict_repr ?_
        refine call_dict_reprK ho hx.1 hdt hsys na (ReprEntriesK.of_two (d := PyData.depthKv ds) es.toList _ _ ?_ ?_) hg (fun b _ => Clear.nil b) (by show X.A.units + 1 + (PyData.depthKv ds + 1) < cLine; omega) (fun _ _ z => z) (fun h' u tk hk => ⟨_, _, rfl, fin hk⟩) hz
        · exact k1.more_le (fun x hx => List.mem_append_left b2 hx) (PyData.depthAll_keys_le ds)
        · exact k2.more_le (fun x hx => List.mem_append_right b1 hx) (PyData.depthAll_vals_le ds)
end
end Rp
set_option maxRecDepth 100000
set_option maxHeartbeats 2000000
/-! list(text); sorted(texts), any number -/
namespace Zs
open PySem PySem.Spec PyProof.Rows L2
/-- the signs of a text -/
def sgn (x : Str) : List V := x.cps.toList.map fun c => V.str ⟨#[c]⟩
theorem vals_sgn {x : Str} {acc : Array Value} (h : ItemsOf (SignAt x) acc x.cps.size) : Vals (sgn x) acc.toList := by
  refine vals_of_idx _ _ ?_ fun j u hj => ?_
  · unfold sgn
    rw [List.length_map, Array.length_toList, Array.length_toList]
    exact h.1
  · obtain ⟨c, t, e1, rfl⟩ := h.2 j u (by rw [← Array.getElem?_toList]; exact hj)
    refine ⟨.str ⟨#[c]⟩, ?_, ⟨t, rfl⟩⟩
    unfold sgn
    rw [List.getElem?_map, Array.getElem?_toList, e1]
    rfl
section
variable {X : Cx}
theorem call_list_tx (hcalm : X.calm = true) : CallR X (.type "list") (fun xs H Q => ∃ x : Str, xs = [.str x] ∧ x.length ≤ sizeLine ∧ ∀ p, H p = none → Q (.ref p) (upd H p (.lst (sgn x)))) := by
  intro pins s σ H xs us Q I r h
  obtain ⟨x, rfl, hz, q⟩ := h
  obtain ⟨u, rfl, rx⟩ := vals1 r
  obtain ⟨t, rfl⟩ := rx
  refine call_list_str (hn := hz) (I.ok.hd hcalm) x t fun h' tk acc c' hk hD hacc => ?_
  have hl : (sgn x).length ≤ sizeLine := by
    unfold sgn
    rw [List.length_map, Array.length_toList]
    exact hz
  exact ⟨.ref _, upd H s.heap.objs.size (.lst (sgn x)), I.laid (t' := tk) hk (Nat.le_refl _) (show ObjOk X.prog X.w _ _ _ (.lst (sgn x)) from ⟨hl, acc.toList, c', vals_sgn hacc, by rw [Array.toArray_toList]; exact hD⟩), rfl, q _ (I.hok.fresh (Nat.le_refl _))⟩
def RStr (v : Value) (b : Str) : Prop := ∃ t, v = .str b t
theorem each_of : ∀ {ss : List Str} {its : List Value}, Vals (ss.map V.str) its → PySem.W.EachIs RStr its ss
  | [], _, r => by
    cases r
    exact .nil
  | x :: ss, _, r => by
    rw [List.map_cons] at r
    cases r with
    | cons r1 r2 =>
      obtain ⟨t, rfl⟩ := r1
      exact .cons ⟨t, rfl⟩ (each_of r2)
theorem vals_each : ∀ {its : List Value} {ss : List Str}, PySem.W.EachIs RStr its ss → Vals (ss.map V.str) its
  | _, _, .nil => .nil
  | _, _, .cons ⟨t, e⟩ r => by
    subst e
    exact .cons ⟨t, rfl⟩ (vals_each r)
/-- sorted(xs), texts -/
theorem cr_sortedTx (hu : X.A.units + 64 < cLine) : CallR X (.builtin "sorted") (fun xs H Q => ∃ (a : Addr) (ss : List Str), xs = [.ref a] ∧ SqL X.K H a (ss.map V.str) ∧ ∀ (ss' : List Str) (p : Addr), ss'.Perm ss → H p = none → Q (.ref p) (upd H p (.lst (ss'.map V.str)))) := by
  intro pins s σ H xs us Q I r h
  obtain ⟨a, ss, rfl, hs, q⟩ := h
  obtain ⟨its, rv, hl, hz⟩ := I.list hs
  rw [Vals.ref1 r]
  have e := each_of rv
  rw [List.length_map] at hz
  refine PySem.W.sorted_data (enc := PyData.str) (bs := ss) (R := RStr) hl.isList e (e.mono fun v b ⟨t, z⟩ => ⟨[], by rw [z]; exact Reads.str b t⟩) (PySem.W.AllAlike.of fun _ _ => rfl) (PySem.W.Sortable.others fun b => ⟨(fun z => by cases z), (fun xs z => by cases z)⟩) hz (fun b _ => by simp only [PyData.depth]; omega) fun out ho eo => ?_
  obtain ⟨ep, he'⟩ := PyProof.Rows.sortedAll_at s.heap its out.toArray
  have perm : (ss.mergeSort (PySem.W.dataLe false PyData.str)).Perm ss := List.mergeSort_perm ss _
  have hlen : ((ss.mergeSort (PySem.W.dataLe false PyData.str)).map V.str).length ≤ sizeLine := by
    rw [List.length_map, perm.length_eq]
    exact hz
  exact ⟨.ref _, upd H (s.heap.objs.size + 1) (.lst ((ss.mergeSort (PySem.W.dataLe false PyData.str)).map V.str)), I.laid (t' := s.toks) (fun _ _ => PyProof.Rows.sortedAll_old) (Nat.le_succ _) (show ObjOk X.prog X.w _ _ _ (.lst _) from ⟨hlen, out, ep, vals_each eo, he'⟩), rfl, q _ _ perm (I.hok.fresh (Nat.le_succ _))⟩
end
end Zs
set_option maxRecDepth 100000
set_option maxHeartbeats 2000000
/-! the law's letters -/
namespace Pr
open PySem PySem.Spec PyProof.Rows L2 GxR Gx Rp Dl Pd Tx Zq Zs
/-- a sign as a text -/
abbrev sg (c : Nat) : Str := ⟨#[c]⟩
theorem sgn_map (x : Str) : sgn x = (x.cps.toList.map sg).map V.str := by
  unfold sgn
  rw [List.map_map]
  rfl
def isL (c : Nat) : Prop := 97 ≤ c ∧ c ≤ 122
theorem letters_isL {x : Str} (h : letters x = true) : ∀ c ∈ x.cps.toList, isL c := fun c hc => by
  have z := List.all_eq_true.mp h c hc
  rw [Bool.and_eq_true] at z
  exact ⟨of_decide_eq_true z.1, of_decide_eq_true z.2⟩
def ABC : Str := "abcdefghijklmnopqrstuvwxyz"
theorem abc_isL : ∀ c ∈ ABC.cps.toList, isL c := letters_isL (by decide +kernel)
theorem abc_len : ABC.length = 26 := by decide +kernel
section
variable {P : Program} {w : World} {K : PySem.W.Frag} {mg : Str → Option Value} {base : Heap} {T : List Addr}
def spPickT (K : PySem.W.Frag) : Sp := fun vs H Q _ => ∃ (p cc b : Addr) (a : Nat) (fs : List Str), vs = [.ref p, .ref b] ∧ PenAt H p cc a ∧ a ≤ 100000 ∧ Rd H b (.tup (fs.map V.str)) ∧ 0 < fs.length ∧ fs.length ≤ 1000 ∧ ∀ H' f, GeP p H H' → PenAt H' p cc (a + 1) → f ∈ fs → Q (.str f) H'
theorem ok_law_one_ofT {f c : Addr} {fd : FuncData} (F : FunC K "_law_one_of" s_law_one_of f fd c) (B : Bn mg) (D : DfP P w K mg base 2 "_law_take" ["_law_pen", "_law_many"] spTake) : FnOk P w K mg base CX0 3 f fd ["_law_pen", "_law_some"] (spPickT K) := by
  refine F.ok scPick (fun vs H Q E ⟨_, _, _, _, _, h, _⟩ => by rw [h]; rfl) (fun A outer s H vs Q E hr h => ?_)
  obtain ⟨p, cc, b, a, fs, rfl, hp, ha, hb, h0, h1, q⟩ := h
  refine ⟨_, pss_one (ps_ret (pe_ix ix_seq (pv 1) (pcall D hr pass0 rfl (pa_cons (pv 0) (pa_cons (pe_callB (call_len_seq.or call_len_str) rfl B.len PySem.boot_len (pa_cons (pv 1) pa_nil)) pa_nil))) (fun _ _ => rfl))), ?_⟩
  refine ⟨_, rfl, _, rfl, _, rfl, Or.inl ⟨b, fs.map V.str, rfl, Or.inr (Or.inl hb), p, cc, _, a, rfl, hp, ha, by rw [List.length_map]; omega, by rw [List.length_map]; omega, fun H' r g hp' r0 r1 => ?_⟩⟩
  obtain ⟨v, hv, e⟩ := any_at r0 r1
  obtain ⟨f, hf, rfl⟩ := List.mem_map.mp hv
  exact Or.inr (Or.inl ⟨b, fs.map V.str, r, .str f, rfl, rfl, Or.inl (g.rd hp.lst.choose_spec (fun ps z => by cases z) (fun ys z => by cases z) hb), e, q H' f g hp' hf⟩)
def spLetters (K : PySem.W.Frag) : Sp := fun vs H Q _ => ∃ p cc a m t o cd ly fl ns bss wt cks eks d, vs = [.ref p, .ref m] ∧ PenAt H p cc a ∧ a ≤ 90000 ∧ MapK K H m t o cd ly fl ns bss wt cks eks d ∧ ∀ (H' : Hp) (l : Addr) (cs : List Nat), GeP p H H' → PenAt H' p cc (a + 1) → H' l = some (.lst ((cs.map sg).map V.str)) → l ≠ p → 0 < cs.length → cs.length ≤ 1000 → (∀ c ∈ cs, isL c) → Q (.ref l) H'
abbrev nLetters : List Str := ["_law_pen", "_law_keymap", "_law_found", "_law_layer", "_law_keys", "_law_condition", "_law_command"]
end
end Pr
set_option maxRecDepth 100000
set_option maxHeartbeats 2000000
/-! the law's rows -/
namespace Pr
open PySem PySem.Spec PyProof.Rows L2 GxR Gx Rp Dl Pd Tx Zq Zs
section
variable {P : Program} {w : World} {K : PySem.W.Frag} {mg : Str → Option Value} {base : Heap} {T : List Addr}
structure RowS (K : PySem.W.Frag) (H0 H : Hp) (p cc : Addr) (a : Nat) (m t o cd ly lr ll : Addr) (fl ns : List Str) (bss : List (List BI)) (wt : Int) (cks : List (Key × V)) (eks : Str → List (Key × V)) (d : PyData) (ol : List Str) (cs : List Nat) (es : List RE) (tm : Int) : Prop where
  g : GeP p H0 H
  pen : PenAt H p cc a
  km : MapK K H m t o cd ly fl ns bss wt cks eks d
  ho : Rd H o (.tup (ol.map V.str))
  hl : H ll = some (.lst ((cs.map sg).map V.str))
  hr : RowAt H lr es
  ok : ∀ e ∈ es, okE ol e ∧ e.t ≤ tm
  pw : es.Pairwise (fun a b => a.t ≤ b.t)
  t0 : 0 ≤ tm
  nl : ll ≠ p
  nr : lr ≠ p
  ne : lr ≠ ll
  nc : lr ≠ cc
  nw : Nw H0 lr
variable {H0 H H' : Hp} {p cc m t o cd ly lr ll : Addr} {a b : Nat} {fl ns : List Str} {bss : List (List BI)} {wt : Int} {cks : List (Key × V)} {eks : Str → List (Key × V)} {d : PyData} {ol : List Str} {cs : List Nat} {es : List RE} {tm : Int}
theorem RowS.gp (S : RowS K H0 H p cc a m t o cd ly lr ll fl ns bss wt cks eks d ol cs es tm) (g : GeP p H H') (hp : PenAt H' p cc b) : RowS K H0 H' p cc b m t o cd ly lr ll fl ns bss wt cks eks d ol cs es tm := by
  obtain ⟨xs, hx⟩ := S.pen.lst
  exact ⟨S.g.trans g, hp, S.km.gp g hx, g.rd hx (fun ps z => by cases z) (fun ys z => by cases z) S.ho, g.1 ll _ S.nl S.hl (fun ps z => by cases z), S.hr.gp g hx S.nr, S.ok, S.pw, S.t0, S.nl, S.nr, S.ne, S.nc, S.nw⟩
theorem RowS.ge (S : RowS K H0 H p cc a m t o cd ly lr ll fl ns bss wt cks eks d ol cs es tm) (g : Ge H H') : RowS K H0 H' p cc a m t o cd ly lr ll fl ns bss wt cks eks d ol cs es tm := S.gp (GeP.of g) (S.pen.ge g)
theorem RowS.app {us : List V} {v : V} {e : RE} (S : RowS K H0 H p cc a m t o cd ly lr ll fl ns bss wt cks eks d ol cs es tm) (hu : H lr = some (.lst us)) (pu : Paired (EntAt H) us es) (he : EntAt H v e) (ok : okE ol e) (et : e.t = tm) : RowS K H0 (upd H lr (.lst (us ++ [v]))) p cc a m t o cd ly lr ll fl ns bss wt cks eks d ol cs (es ++ [e]) tm := by
  have gl : GeP lr H (upd H lr (.lst (us ++ [v]))) := GeP.set hu
  refine ⟨S.g.upd S.nw, S.pen.upd S.nr S.nc, S.km.gp gl hu, gl.rd hu (fun ps z => by cases z) (fun ys z => by cases z) S.ho, gl.1 ll _ S.ne.symm S.hl (fun ps z => by cases z), ⟨_, upd_same, Paired.imp (fun _ _ z => EntAt.gp z gl hu) (paired_snoc he pu)⟩, ?_, ?_, S.t0, S.nl, S.nr, S.ne, S.nc, S.nw⟩
  · intro e' h'
    rcases List.mem_append.mp h' with h' | h'
    · exact S.ok e' h'
    · rw [List.mem_singleton.mp h']
      exact ⟨ok, by rw [et]; exact Int.le_refl _⟩
  · rw [List.pairwise_append]
    refine ⟨S.pw, List.pairwise_singleton _ _, fun x hx y hy => ?_⟩
    rw [List.mem_singleton.mp hy, et]
    exact (S.ok x hx).2
theorem RowS.later {tm' : Int} (S : RowS K H0 H p cc a m t o cd ly lr ll fl ns bss wt cks eks d ol cs es tm) (h : tm ≤ tm') : RowS K H0 H p cc a m t o cd ly lr ll fl ns bss wt cks eks d ol cs es tm' :=
  ⟨S.g, S.pen, S.km, S.ho, S.hl, S.hr, fun e he => ⟨(S.ok e he).1, Int.le_trans (S.ok e he).2 h⟩, S.pw, Int.le_trans S.t0 h, S.nl, S.nr, S.ne, S.nc, S.nw⟩
theorem RowS.mono (S : RowS K H0 H p cc a m t o cd ly lr ll fl ns bss wt cks eks d ol cs es tm) (h : a ≤ b) : RowS K H0 H p cc b m t o cd ly lr ll fl ns bss wt cks eks d ol cs es tm :=
  ⟨S.g, S.pen.mono h, S.km, S.ho, S.hl, S.hr, S.ok, S.pw, S.t0, S.nl, S.nr, S.ne, S.nc, S.nw⟩
/-- a row that was drawn -/
def RowD (ol : List Str) (n : Nat) (B : Int) (es : List RE) : Prop := (∀ e ∈ es, okE ol e ∧ e.t ≤ B) ∧ es.Pairwise (fun a b => a.t ≤ b.t) ∧ es.length ≤ n
def spRow (K : PySem.W.Frag) : Sp := fun vs H Q _ => ∃ p cc a m t o cd ly fl ns bss wt cks eks d ol most, vs = [.ref p, .ref m, .int most] ∧ 0 ≤ most ∧ most ≤ 30 ∧ PenAt H p cc a ∧ a ≤ 90000 ∧ MapK K H m t o cd ly fl ns bss wt cks eks d ∧ Rd H o (.tup (ol.map V.str)) ∧ ol.length ≤ 3 ∧ 1 ≤ wt ∧ wt ≤ 1000 ∧
  ∀ (H' : Hp) (L : Addr) (es : List RE), GeP p H H' → PenAt H' p cc (a + 200) → L ≠ p → RowAt H' L es → RowD ol most.toNat 100000 es → Q (.ref L) H'
abbrev nLRow : List Str := ["_law_pen", "_law_keymap", "_law_most", "_law_letters", "_law_wait", "_law_row", "_law_time", "_law_turn"]
end
end Pr
set_option maxRecDepth 100000
set_option maxHeartbeats 2000000
/-! rows of any data: is_letter, is_time, is_entry, fits_row -/
namespace Pr
open PySem PySem.Spec PyProof.Rows L2 GxR Gx Rp Dl Pd Tx
mutual
theorem da_dp {K : PySem.W.Frag} {H : Hp} : ∀ {v : V} {d : PyData}, Da K H v d → PyData.canLay0 d = true → Dp K H v d
  | _, _, .non, _ => .non
  | _, _, .bl b, _ => .bl b
  | _, _, .int i, _ => .int i
  | _, _, .str x, _ => .str x
  | _, _, .lst h r, c => .lst (Or.inl h) (daAll_dp r (by simpa only [PyData.canLay0] using c))
  | _, _, .tup h r, c => .tup (Or.inl h) (daAll_dp r (by simpa only [PyData.canLay0] using c))
  | _, _, .dct _ _ _, c => by simp only [PyData.canLay0] at c; cases c
theorem daAll_dp {K : PySem.W.Frag} {H : Hp} : ∀ {vs : List V} {ds : List PyData}, DaAll K H vs ds → PyData.canLayAll0 ds = true → DpAll K H vs ds
  | _, _, .nil, _ => .nil
  | _, _, .cons a r, c => by
    simp only [PyData.canLayAll0, Bool.and_eq_true] at c
    exact .cons (da_dp a c.1) (daAll_dp r c.2)
end
/-- in a tuple, any data -/
theorem op_inTD {X : Cx} (hu : X.A.units + 65 < cLine) : OpR X (compareOp .In) (fun x y H Q => ∃ d ds, Dp X.K H x d ∧ Dp X.K H y (.tuple ds) ∧ SeqAt.shaped d = true ∧ SeqAt.shaped (.tuple ds) = true ∧ Q (.bl (ds.any fun z => PyData.eqv z d)) H) := by
  rintro pins s σ H x y v u Q I rx ry ⟨d, ds, hd, he, sd, se, q⟩
  obtain ⟨as, r1⟩ := Dp.reads I d x v hd rx
  obtain ⟨bs, r2⟩ := Dp.reads I (.tuple ds) y u he ry
  have c2 := SeqAt.canLay_of_shaped se
  have d1 := SeqAt.depth_of_shaped sd
  refine SeqAt.in_tuple_reads r2 r1 (by simpa only [PyData.canLay0] using c2) (SeqAt.canLay_of_shaped sd) ?_ ⟨.bl _, H, I, rfl, q⟩
  have := Nat.min_le_right (PyData.depthAll ds) d.depth
  omega
/-- an entry of a row, as data -/
def entD (ol : List Str) : PyData → Bool
  | .tuple [w, k, t] => PyData.eqv w (.str "key") && (isWord 1 k && isWithin 0 1000000000 t)
  | .tuple [w, f, b, t] => PyData.eqv w (.str "set") && ((ol.map PyData.str).any (fun y => PyData.eqv y f) && (isBoolD b && isWithin 0 1000000000 t))
  | _ => false
/-- what may be asked: small parts that may be compared -/
def Ask (d : PyData) : Prop := small d = true ∧ SeqAt.shaped d = true
def AskE : PyData → Prop
  | .tuple ds => ds.length ≤ 1000 ∧ ∀ d ∈ ds, Ask d
  | _ => True
theorem ent_no {ol : List Str} {ds : List PyData} (h3 : ds.length ≠ 3) (h4 : ds.length ≠ 4) : entD ol (.tuple ds) = false := by
  match ds, h3, h4 with
  | [], _, _ => rfl
  | [_], _, _ => rfl
  | [_, _], _, _ => rfl
  | [_, _, _], h3, _ => exact absurd rfl h3
  | [_, _, _, _], _, h4 => exact absurd rfl h4
  | _ :: _ :: _ :: _ :: _ :: _, _, _ => rfl
theorem ent_ty {ol : List Str} {d : PyData} (h : isTy "tuple" d = false) : entD ol d = false := by
  cases d <;> first | rfl | (simp [isTy, tyName] at h)
theorem sh_str {x : Str} (h : PyData.strOk x = true) : SeqAt.shaped (.str x) = true := by
  unfold SeqAt.shaped
  simp only [PyData.canLay0, PyData.depth, h, Bool.true_and]
  rfl
theorem sh_ol {ol : List Str} (h : ∀ f ∈ ol, PyData.strOk f = true) : SeqAt.shaped (.tuple (ol.map PyData.str)) = true ∧ PyData.canLayAll0 (ol.map PyData.str) = true := by
  have a : PyData.canLayAll0 (ol.map PyData.str) = true := by
    induction ol with
    | nil => rfl
    | cons x r ih =>
      simp only [List.map_cons, PyData.canLayAll0, PyData.canLay0, Bool.and_eq_true]
      exact ⟨h x List.mem_cons_self, ih fun y hy => h y (List.mem_cons_of_mem _ hy)⟩
  have b : PyData.depthAll (ol.map PyData.str) = 0 := by
    clear a h
    induction ol with
    | nil => rfl
    | cons x r ih => simp only [List.map_cons, PyData.depthAll, PyData.depth, ih, Nat.max_self]
  refine ⟨?_, a⟩
  unfold SeqAt.shaped
  simp only [PyData.canLay0, PyData.depth, a, b, Bool.true_and]
  rfl
theorem dp_ol {K : PySem.W.Frag} {H : Hp} : ∀ ol : List Str, DpAll K H (ol.map V.str) (ol.map PyData.str)
  | [] => .nil
  | y :: r => .cons (.str y) (dp_ol r)
section
variable {P : Program} {w : World} {K : PySem.W.Frag} {mg : Str → Option Value} {base : Heap} {T : List Addr}
def spEntA (K : PySem.W.Frag) (T : List Addr) : Sp := fun vs H Q _ => ∃ (o : Addr) (v : V) (ol : List Str) (d : PyData), vs = [.ref o, v] ∧ Rd H o (.tup (ol.map V.str)) ∧ (∀ f ∈ ol, PyData.strOk f = true) ∧ Da K H v d ∧ AskE d ∧ Tb T H ∧ ∀ H', Ge H H' → Q (.bl (entD ol d)) H'
abbrev nEntryA : List Str := ["outside", "thing", "word", "letter", "time", "flag", "value"]
end
end Pr
set_option maxRecDepth 100000
set_option maxHeartbeats 2000000
/-! fits_row, is_row, any data -/
namespace Pr
open PySem PySem.Spec PyProof.Rows L2 GxR Gx Rp Dl Pd Tx
def tOf : PyData → Int
  | .tuple ds => match ds.getLast? with | some (.int t) => t | _ => 0
  | _ => 0
theorem within_int {a b : Int} {d : PyData} (h : isWithin a b d = true) : ∃ t, d = .int t ∧ a ≤ t ∧ t ≤ b := by
  cases d with
  | int i =>
    have h : (decide (a ≤ i) && decide (i ≤ b)) = true := h
    rw [Bool.and_eq_true] at h
    exact ⟨i, rfl, of_decide_eq_true h.1, of_decide_eq_true h.2⟩
  | _ => cases h
theorem ent_shape {ol : List Str} {d : PyData} (h : entD ol d = true) : ∃ t : Int, 0 ≤ t ∧ t ≤ 1000000000 ∧ ((∃ d1 d2, d = .tuple [d1, d2, .int t]) ∨ ∃ d1 d2 d3, d = .tuple [d1, d2, d3, .int t]) := by
  cases ty : isTy "tuple" d with
  | false =>
    rw [ent_ty ty] at h
    cases h
  | true =>
    obtain ⟨ds, rfl⟩ := isTy_tup ty
    by_cases h3 : ds.length = 3
    · match ds, h3, h with
      | [d1, d2, d3], _, h =>
        have h : (PyData.eqv d1 (.str "key") && (isWord 1 d2 && isWithin 0 1000000000 d3)) = true := h
        rw [Bool.and_eq_true, Bool.and_eq_true] at h
        obtain ⟨t, rfl, t0, t1⟩ := within_int h.2.2
        exact ⟨t, t0, t1, Or.inl ⟨d1, d2, rfl⟩⟩
    · by_cases h4 : ds.length = 4
      · match ds, h4, h with
        | [d1, d2, d3, d4], _, h =>
          have h : (PyData.eqv d1 (.str "set") && ((ol.map PyData.str).any (fun y => PyData.eqv y d2) && (isBoolD d3 && isWithin 0 1000000000 d4))) = true := h
          rw [Bool.and_eq_true, Bool.and_eq_true, Bool.and_eq_true] at h
          obtain ⟨t, rfl, t0, t1⟩ := within_int h.2.2.2
          exact ⟨t, t0, t1, Or.inr ⟨d1, d2, d3, rfl⟩⟩
      · rw [ent_no h3 h4] at h
        cases h
theorem ent_at {K : PySem.W.Frag} {H : Hp} {v : V} {ol : List Str} {d : PyData} (hd : Da K H v d) (h : entD ol d = true) : ∃ a xs, v = .ref a ∧ Rd H a (.tup xs) ∧ atI xs (-1) = some (.int (tOf d)) := by
  obtain ⟨t, _, _, ⟨d1, d2, rfl⟩ | ⟨d1, d2, d3, rfl⟩⟩ := ent_shape h
  · cases hd with
    | @tup a xs _ ha hda =>
      cases hda with
      | cons a1 r1 => cases r1 with
        | cons a2 r2 => cases r2 with
          | cons a3 r3 =>
            cases r3
            cases a3
            exact ⟨a, _, rfl, ha, rfl⟩
  · cases hd with
    | @tup a xs _ ha hda =>
      cases hda with
      | cons a1 r1 => cases r1 with
        | cons a2 r2 => cases r2 with
          | cons a3 r3 => cases r3 with
            | cons a4 r4 =>
              cases r4
              cases a4
              exact ⟨a, _, rfl, ha, rfl⟩
def rowsD (ol : List Str) : Int → List PyData → Bool
  | _, [] => true
  | e, d :: r => entD ol d && (decide (e ≤ tOf d) && rowsD ol (tOf d) r)
def rowB (ol : List Str) : PyData → Bool
  | .list ds => decide (ds.length ≤ 300) && rowsD ol 0 ds
  | _ => false
def AskR : PyData → Prop
  | .list ds => ds.length ≤ 100000 ∧ ∀ x ∈ ds, AskE x
  | _ => True
theorem isTy_list {d : PyData} (h : isTy "list" d = true) : ∃ x, d = .list x := by
  cases d <;> simp [isTy, tyName] at h
  exact ⟨_, rfl⟩
theorem row_ty {ol : List Str} {d : PyData} (h : isTy "list" d = false) : rowB ol d = false := by
  cases d <;> first | rfl | (simp [isTy, tyName] at h)
section
variable {P : Program} {w : World} {K : PySem.W.Frag} {mg : Str → Option Value} {base : Heap} {T : List Addr}
def spFitsA (K : PySem.W.Frag) (T : List Addr) : Sp := fun vs H Q _ => ∃ (m t o : Addr) (v : V) (rest : List V) (ol : List Str) (d : PyData), vs = [.ref m, v] ∧ H m = some (.tup (.ref t :: .ref o :: rest)) ∧ Rd H o (.tup (ol.map V.str)) ∧ (∀ f ∈ ol, PyData.strOk f = true) ∧ Da K H v d ∧ AskR d ∧ Tb T H ∧ ∀ H', Ge H H' → Q (.bl (rowB ol d)) H'
abbrev nFitsA : List Str := ["keymap", "thing", "earliest", "entry"]
def spIsRow (K : PySem.W.Frag) (T : List Addr) : Sp := fun vs H Q _ => ∃ (m t o : Addr) (v : V) (rest : List V) (ol : List Str) (dm d : PyData), vs = [.ref m, v] ∧ H m = some (.tup (.ref t :: .ref o :: rest)) ∧ Rd H o (.tup (ol.map V.str)) ∧ (∀ f ∈ ol, PyData.strOk f = true) ∧ Da K H (.ref m) dm ∧ small dm = true ∧ isMap dm = true ∧ Da K H v d ∧ AskR d ∧ Tb T H ∧ ∀ H', Ge H H' → Q (.bl (rowB ol d)) H'
end
end Pr
set_option maxRecDepth 100000
set_option maxHeartbeats 2000000
/-! sorted(whole numbers), any number; rows by their sorted times -/
namespace Pr
open PySem PySem.Spec PyProof.Rows L2 GxR Gx Rp Dl Pd Tx Zs
def RInt (v : Value) (b : Int) : Prop := ∃ t, v = .int b t
theorem each_int : ∀ {ss : List Int} {its : List Value}, Vals (ss.map V.int) its → PySem.W.EachIs RInt its ss
  | [], _, r => by
    cases r
    exact .nil
  | x :: ss, _, r => by
    rw [List.map_cons] at r
    cases r with
    | cons r1 r2 =>
      obtain ⟨t, rfl⟩ := r1
      exact .cons ⟨t, rfl⟩ (each_int r2)
theorem int_each : ∀ {its : List Value} {ss : List Int}, PySem.W.EachIs RInt its ss → Vals (ss.map V.int) its
  | _, _, .nil => .nil
  | _, _, .cons ⟨t, e⟩ r => by
    subst e
    exact .cons ⟨t, rfl⟩ (int_each r)
theorem sorted_ints (ss : List Int) : (ss.mergeSort (PySem.W.dataLe false PyData.int)).Perm ss ∧ (ss.mergeSort (PySem.W.dataLe false PyData.int)).Pairwise (· ≤ ·) := by
  have e : (PySem.W.dataLe false PyData.int) = fun x y : Int => decide (x ≤ y) := PySem.W.dataLe_int (fun x : Int => x)
  rw [e]
  refine ⟨List.mergeSort_perm ss _, ?_⟩
  have hs := List.pairwise_mergeSort (le := fun x y : Int => decide (x ≤ y)) (fun x y z h1 h2 => by simp only [decide_eq_true_eq] at *; omega) (fun x y => by simp only [Bool.or_eq_true, decide_eq_true_eq]; omega) ss
  exact hs.imp fun h => of_decide_eq_true h
section
variable {X : Cx}
theorem cr_sortedI (hu : X.A.units + 64 < cLine) : CallR X (.builtin "sorted") (fun xs H Q => ∃ (a : Addr) (ss : List Int), xs = [.ref a] ∧ SqL X.K H a (ss.map V.int) ∧ ∀ (ss' : List Int) (p : Addr), ss'.Perm ss → ss'.Pairwise (· ≤ ·) → H p = none → Q (.ref p) (upd H p (.lst (ss'.map V.int)))) := by
  rintro pins s σ H _ us Q I r ⟨a, ss, rfl, hs, q⟩
  obtain ⟨its, rv, hl, hz⟩ := I.list hs
  rw [Vals.ref1 r]
  have e := each_int rv
  rw [List.length_map] at hz
  obtain ⟨perm, srt⟩ := sorted_ints ss
  refine PySem.W.sorted_data (enc := PyData.int) (bs := ss) (R := RInt) hl.isList e (e.mono fun v b ⟨t, z⟩ => ⟨[], by rw [z]; exact Reads.int b t⟩) (PySem.W.AllAlike.of fun _ _ => rfl) (PySem.W.Sortable.others fun b => ⟨(fun z => by cases z), (fun xs z => by cases z)⟩) hz (fun b _ => by simp only [PyData.depth]; omega) fun out ho eo => ?_
  obtain ⟨ep, he'⟩ := PyProof.Rows.sortedAll_at s.heap its out.toArray
  have hlen : ((ss.mergeSort (PySem.W.dataLe false PyData.int)).map V.int).length ≤ sizeLine := by
    rw [List.length_map, perm.length_eq]
    exact hz
  exact ⟨.ref _, upd H (s.heap.objs.size + 1) (.lst ((ss.mergeSort (PySem.W.dataLe false PyData.int)).map V.int)), I.laid (t' := s.toks) (fun _ _ => PyProof.Rows.sortedAll_old) (Nat.le_succ _) (show ObjOk X.prog X.w _ _ _ (.lst _) from ⟨hlen, out, ep, int_each eo, he'⟩), rfl, q _ _ perm srt (I.hok.fresh (Nat.le_succ _))⟩
end
theorem eqv_ints : ∀ xs ys : List Int, PyData.eqvAll (xs.map .int) (ys.map .int) = decide (xs = ys)
  | [], [] => by rw [decide_eq_true rfl]; rfl
  | [], y :: ys => by rw [decide_eq_false (by simp)]; rfl
  | x :: xs, [] => by rw [decide_eq_false (by simp)]; rfl
  | x :: xs, y :: ys => by
    show ((x == y) && PyData.eqvAll (xs.map .int) (ys.map .int)) = _
    rw [eqv_ints xs ys, Bool.eq_iff_iff]
    simp only [Bool.and_eq_true, beq_iff_eq, decide_eq_true_eq, List.cons.injEq]
theorem eqv_sorted {xs ys : List Int} (hp : ys.Perm xs) (hs : ys.Pairwise (· ≤ ·)) : PyData.eqv (.list (xs.map .int)) (.list (ys.map .int)) = decide (xs.Pairwise (· ≤ ·)) := by
  show PyData.eqvAll _ _ = _
  rw [eqv_ints, Bool.eq_iff_iff, decide_eq_true_eq, decide_eq_true_eq]
  constructor
  · intro h
    rw [h]
    exact hs
  · intro h
    exact List.Perm.eq_of_pairwise (fun x y _ _ h1 h2 => Int.le_antisymm h1 h2) h hs hp.symm
theorem rows_iff {ol : List Str} : ∀ (ds : List PyData) (e : Int), rowsD ol e ds = true ↔ (∀ d ∈ ds, entD ol d = true) ∧ (e :: ds.map tOf).Pairwise (· ≤ ·)
  | [], e => by
    refine ⟨fun _ => ⟨fun d hd => (by cases hd), List.pairwise_singleton _ _⟩, fun _ => rfl⟩
  | d :: r, e => by
    show (entD ol d && (decide (e ≤ tOf d) && rowsD ol (tOf d) r)) = true ↔ _
    rw [Bool.and_eq_true, Bool.and_eq_true, decide_eq_true_eq, rows_iff r (tOf d), List.map_cons]
    constructor
    · rintro ⟨h1, h2, h3, h4⟩
      refine ⟨fun y hy => ?_, List.pairwise_cons.mpr ⟨fun z hz => ?_, h4⟩⟩
      · rcases List.mem_cons.mp hy with rfl | hy
        · exact h1
        · exact h3 y hy
      · rcases List.mem_cons.mp hz with rfl | hz
        · exact h2
        · exact Int.le_trans h2 ((List.pairwise_cons.mp h4).1 z hz)
    · rintro ⟨h1, h2⟩
      obtain ⟨h3, h4⟩ := List.pairwise_cons.mp h2
      exact ⟨h1 d List.mem_cons_self, h3 _ List.mem_cons_self, fun y hy => h1 y (List.mem_cons_of_mem _ hy), h4⟩
theorem time_ge {ol : List Str} {d : PyData} (h : entD ol d = true) : 0 ≤ tOf d := by
  obtain ⟨t, t0, _, ⟨d1, d2, rfl⟩ | ⟨d1, d2, d3, rfl⟩⟩ := ent_shape h
  · exact t0
  · exact t0
theorem rows_sorted {ol : List Str} {ds : List PyData} (h : ∀ d ∈ ds, entD ol d = true) : rowsD ol 0 ds = decide ((ds.map tOf).Pairwise (· ≤ ·)) := by
  rw [Bool.eq_iff_iff, decide_eq_true_eq, rows_iff]
  constructor
  · rintro ⟨_, h2⟩
    exact (List.pairwise_cons.mp h2).2
  · intro h2
    refine ⟨h, List.pairwise_cons.mpr ⟨fun z hz => ?_, h2⟩⟩
    obtain ⟨d, hd, rfl⟩ := List.mem_map.mp hz
    exact time_ge (h d hd)
theorem rows_no {ol : List Str} {ds : List PyData} {d : PyData} (hd : d ∈ ds) (h : entD ol d = false) : rowsD ol 0 ds = false := by
  cases e : rowsD ol 0 ds with
  | false => rfl
  | true =>
    have := ((rows_iff ds 0).mp e).1 d hd
    rw [h] at this
    cases this
end Pr
set_option maxRecDepth 100000
set_option maxHeartbeats 2000000
/-! the law's own look at an entry, any data -/
namespace Pr
open PySem PySem.Spec PyProof.Rows L2 GxR Gx Rp Dl Pd Tx
theorem cpow9 : CPow 10 9 := ⟨by decide, by decide, by decide⟩
theorem letter_one {x : Str} (h : x.length = 1) : ∃ c : Nat, x = ⟨#[c]⟩ := by
  obtain ⟨cs⟩ := x
  have h : cs.size = 1 := h
  match cs, h with
  | ⟨[c]⟩, _ => exact ⟨c, rfl⟩
theorem word_one {c : Nat} : isWord 1 (.str ⟨#[c]⟩) = (decide (97 ≤ c) && decide (c ≤ 122)) := by
  show (decide (1 ≤ (((1 : Nat) : Int))) && decide ((((1 : Nat) : Int)) ≤ 1) && (decide (97 ≤ c) && decide (c ≤ 122) && true)) = _
  rw [Bool.and_true]
  rfl
theorem word_len {x : Str} (h : x.length ≠ 1) : isWord 1 (.str x) = false := by
  show (decide (1 ≤ (x.length : Int)) && decide ((x.length : Int) ≤ 1) && letters x) = false
  by_cases h1 : 1 ≤ (x.length : Int)
  · rw [decide_eq_false (show ¬ (x.length : Int) ≤ 1 by omega), Bool.and_false, Bool.false_and]
  · rw [decide_eq_false h1, Bool.false_and, Bool.false_and]
theorem in34 (n : Nat) : inV (.int (n : Int)) [.int 3, .int 4] = (decide (n = 3) || decide (n = 4)) := by
  show ((((3 : Int) == (n : Int))) || (((4 : Int) == (n : Int)) || false)) = _
  rw [Bool.or_false]
  congr 1
  · rw [Bool.eq_iff_iff]
    simp only [beq_iff_eq, decide_eq_true_eq]
    omega
  · rw [Bool.eq_iff_iff]
    simp only [beq_iff_eq, decide_eq_true_eq]
    omega
theorem last_time {K : PySem.W.Frag} {H : Hp} {ol : List Str} {xs : List V} {ds : List PyData} (hda : DaAll K H xs ds) (h : ds.length = 3 ∨ ds.length = 4) : ∃ vt dt, atI xs (-1) = some vt ∧ Da K H vt dt ∧ (isWithin 0 1000000000 dt = false → entD ol (.tuple ds) = false) := by
  cases hda with
  | nil => rcases h with h | h <;> cases h
  | @cons v1 _ d1 _ a1 r1 => cases r1 with
    | nil => rcases h with h | h <;> cases h
    | @cons v2 _ d2 _ a2 r2 => cases r2 with
      | nil => rcases h with h | h <;> cases h
      | @cons v3 _ d3 _ a3 r3 => cases r3 with
        | nil =>
          refine ⟨v3, d3, rfl, a3, fun z => ?_⟩
          show (PyData.eqv d1 (.str "key") && (isWord 1 d2 && isWithin 0 1000000000 d3)) = false
          rw [z, Bool.and_false, Bool.and_false]
        | @cons v4 _ d4 _ a4 r4 => cases r4 with
          | nil =>
            refine ⟨v4, d4, rfl, a4, fun z => ?_⟩
            show (PyData.eqv d1 (.str "set") && ((ol.map PyData.str).any (fun y => PyData.eqv y d2) && (isBoolD d3 && isWithin 0 1000000000 d4))) = false
            rw [z, Bool.and_false, Bool.and_false, Bool.and_false]
          | cons a5 r5 => 
            rcases h with h | h
            · simp only [List.length_cons] at h
              omega
            · simp only [List.length_cons] at h
              omega
theorem isi_step {K : PySem.W.Frag} {σ : L2.St} {H : Hp} {v : V} {d : PyData} {n : String} {Q : VK} (h : Da K H v d) (q : Q (.bl (isTy n d)) H) (hn : n ∈ ["tuple", "dict", "str", "int", "bool", "list"] := by decide) : tCons (tC (.ty n)) tNil σ H (fun xs H2 => rIsi K (v :: xs) H2 Q) := rd_isi h q hn
theorem sh_olL {ol : List Str} (h : ∀ f ∈ ol, PyData.strOk f = true) : SeqAt.shaped (.list (ol.map PyData.str)) = true := by
  have b : PyData.depthAll (ol.map PyData.str) = 0 := by
    clear h
    induction ol with
    | nil => rfl
    | cons x r ih => simp only [List.map_cons, PyData.depthAll, PyData.depth, ih, Nat.max_self]
  unfold SeqAt.shaped
  simp only [PyData.canLay0, PyData.depth, (sh_ol h).2, b, Bool.true_and]
  rfl
theorem shape3 {K : PySem.W.Frag} {H : Hp} {xs : List V} {ds : List PyData} (hda : DaAll K H xs ds) (h : ds.length = 3) : ∃ v1 v2 v3 d1 d2 d3, xs = [v1, v2, v3] ∧ ds = [d1, d2, d3] ∧ Da K H v1 d1 ∧ Da K H v2 d2 ∧ Da K H v3 d3 := by
  cases hda with
  | nil => cases h
  | @cons v1 _ d1 _ a1 r1 => cases r1 with
    | nil => cases h
    | @cons v2 _ d2 _ a2 r2 => cases r2 with
      | nil => cases h
      | @cons v3 _ d3 _ a3 r3 => cases r3 with
        | nil => exact ⟨_, _, _, _, _, _, rfl, rfl, a1, a2, a3⟩
        | cons a4 r4 =>
          simp only [List.length_cons] at h
          omega
theorem shape4 {K : PySem.W.Frag} {H : Hp} {xs : List V} {ds : List PyData} (hda : DaAll K H xs ds) (h : ds.length = 4) : ∃ v1 v2 v3 v4 d1 d2 d3 d4, xs = [v1, v2, v3, v4] ∧ ds = [d1, d2, d3, d4] ∧ Da K H v1 d1 ∧ Da K H v2 d2 ∧ Da K H v3 d3 ∧ Da K H v4 d4 := by
  cases hda with
  | nil => cases h
  | @cons v1 _ d1 _ a1 r1 => cases r1 with
    | nil => cases h
    | @cons v2 _ d2 _ a2 r2 =>
      cases r2 with
      | nil => cases h
      | @cons v3 _ d3 _ a3 r3 => cases r3 with
        | nil => cases h
        | @cons v4 _ d4 _ a4 r4 => cases r4 with
          | nil => exact ⟨_, _, _, _, _, _, _, _, rfl, rfl, a1, a2, a3, a4⟩
          | cons a5 r5 =>
            simp only [List.length_cons] at h
            omega
section
variable {P : Program} {w : World} {K : PySem.W.Frag} {mg : Str → Option Value} {base : Heap} {T : List Addr}
def spLEnt (K : PySem.W.Frag) : Sp := fun vs H Q _ => ∃ (m t o : Addr) (v : V) (rest : List V) (ol : List Str) (d : PyData), vs = [.ref m, v] ∧ H m = some (.tup (.ref t :: .ref o :: rest)) ∧ Rd H o (.tup (ol.map V.str)) ∧ (∀ f ∈ ol, PyData.strOk f = true) ∧ Da K H v d ∧ AskE d ∧ ∀ H', Ge H H' → Q (.bl (entD ol d)) H'
abbrev nLEnt : List Str := ["_law_keymap", "_law_thing", "_law_time", "_law_is_letter"]
end
end Pr
set_option maxRecDepth 100000
set_option maxHeartbeats 2000000
/-! the law's own look at a row, any data -/
namespace Pr
open PySem PySem.Spec PyProof.Rows L2 GxR Gx Rp Dl Pd Tx Zs
theorem ix_tupKA {X : Cx} {K : PySem.W.Frag} (h : X.K = K) : IxR X (rIxT K) := h ▸ ix_tup
theorem inV_false (bs : List Bool) : inV (.bl false) (bs.map V.bl) = bs.any (! ·) := by
  induction bs with
  | nil => rfl
  | cons b r ih =>
    show ((b == false) || inV (.bl false) (r.map V.bl)) = ((!b) || r.any (! ·))
    rw [ih]
    cases b <;> rfl
theorem flat_bls (bs : List Bool) : (bs.map V.bl).all flatV = true := by
  refine List.all_eq_true.mpr fun x hx => ?_
  obtain ⟨b, _, rfl⟩ := List.mem_map.mp hx
  rfl
theorem dp_intsA {K : PySem.W.Frag} {H : Hp} : ∀ ns : List Int, DpAll K H (ns.map V.int) (ns.map PyData.int)
  | [] => .nil
  | y :: r => .cons (.int y) (dp_intsA r)
theorem sh_intsA (ns : List Int) : SeqAt.shaped (.list (ns.map PyData.int)) = true := by
  have a : PyData.canLayAll0 (ns.map PyData.int) = true := by
    induction ns with
    | nil => rfl
    | cons x r ih => simp only [List.map_cons, PyData.canLayAll0, PyData.canLay0, ih, Bool.and_true]
  have b : PyData.depthAll (ns.map PyData.int) = 0 := by
    clear a
    induction ns with
    | nil => rfl
    | cons x r ih => simp only [List.map_cons, PyData.depthAll, PyData.depth, ih, Nat.max_self]
  unfold SeqAt.shaped
  simp only [PyData.canLay0, PyData.depth, a, b, Bool.true_and]
  rfl
section
variable {P : Program} {w : World} {K : PySem.W.Frag} {mg : Str → Option Value} {base : Heap} {T : List Addr}
def spLRowI (K : PySem.W.Frag) : Sp := fun vs H Q _ => ∃ (m t o : Addr) (v : V) (rest : List V) (ol : List Str) (d : PyData), vs = [.ref m, v] ∧ H m = some (.tup (.ref t :: .ref o :: rest)) ∧ Rd H o (.tup (ol.map V.str)) ∧ (∀ f ∈ ol, PyData.strOk f = true) ∧ Da K H v d ∧ AskR d ∧ ∀ H', Ge H H' → Q (.bl (rowB ol d)) H'
abbrev nLRowI : List Str := ["_law_keymap", "_law_thing", "_law_times", "_law_entry"]
end
end Pr
set_option maxRecDepth 100000
set_option maxHeartbeats 4000000
/-! a row with something wrong -/
namespace Pr
open PySem PySem.Spec PyProof.Rows L2 GxR Gx Rp Dl Pd Tx Zq Zs
/-- a name that may be shown -/
def NmS (f : Str) : Prop := f.length ≤ 8 ∧ ∀ c ∈ f.cps.toList, c < 128
theorem good_nm {f : Str} (h : NmS f) : Good true 82 0 (.str f) := Good.str h.2 h.1
theorem ge_int {t : Int} (h0 : -1000000000000 ≤ t) (h1 : t ≤ 1000000000000) : t.natAbs < 10 ^ 40 := by omega
theorem good_ent {ol : List Str} {e : RE} (h : okE ol e) (hf : ∀ f ∈ ol, NmS f) : Good true 600 1 e.d := by
  cases e with
  | key c t =>
    have h1 : Good true 12 0 (.str (sg c)) := Good.str (k := 1) (fun x hx => by
      have : x = c := by simpa [sg] using hx
      have := h.2.1
      omega) (Nat.le_refl _)
    have h0 : Good true 32 0 (.str "key") := Good.str (k := 3) (by decide +kernel) (by decide +kernel)
    exact (Good.tup (h0.cons (h1.cons ((Good.int (i := t) (ge_int (by have := h.2.2.1; omega) (by have := h.2.2.2; omega))).cons (Good.nil (g := true) (W := 0) (n := 0)))))).mono (by decide) (by decide) (by decide)
  | set f b t =>
    have h0 : Good true 32 0 (.str "set") := Good.str (k := 3) (by decide +kernel) (by decide +kernel)
    exact (Good.tup (h0.cons ((good_nm (hf f h.1)).cons ((Good.bool (b := b)).cons ((Good.int (i := t) (ge_int (by have := h.2.1; omega) (by have := h.2.2; omega))).cons (Good.nil (g := true) (W := 0) (n := 0))))))).mono (by decide) (by decide) (by decide)
theorem noL_row : ∀ es : List RE, noLAll (es.map RE.d) = true
  | [] => rfl
  | e :: r => by
    have z : noL e.d = true := by cases e <;> rfl
    simp only [List.map_cons, noLAll, z, noL_row r, Bool.and_self]
theorem good_ents {ol : List Str} {es : List RE} (h : ∀ e ∈ es, okE ol e) (hf : ∀ f ∈ ol, NmS f) : ∀ d ∈ es.map RE.d, Good true 4000 3 d := fun d hd => by
  obtain ⟨e, he, rfl⟩ := List.mem_map.mp hd
  exact (good_ent (h e he) hf).mono (by decide) (by decide) (by decide)
theorem wg_pos : ∀ d : PyData, 2 ≤ wg d := fun d => by
  cases d <;> simp only [wg] <;> omega
theorem len_wgA4 : ∀ xs : List PyData, 4 * xs.length ≤ wgA xs
  | [] => Nat.le_refl _
  | x :: xs => by
    have := len_wgA4 xs
    have := wg_pos x
    simp only [wgA, List.length_cons]
    omega
theorem goodA_mem {g : Bool} {W n : Nat} {d : PyData} : ∀ {ds : List PyData}, GoodA g W n ds → d ∈ ds → Good g W n d
  | [], _, h => by cases h
  | x :: r, a, h => by
    have at' : (tm x && tmA r) = true := by simpa only [tmA] using a.t
    rw [Bool.and_eq_true] at at'
    have aw : wg x + 2 + wgA r ≤ W := by simpa only [wgA] using a.w
    have an : max x.depth (PyData.depthAll r) ≤ n := by simpa only [PyData.depthAll] using a.n
    have ag : g = true → x.canLay0 = true ∧ PyData.canLayAll0 r = true := fun z => by
      have := a.g z
      simpa only [PyData.canLayAll0, Bool.and_eq_true] using this
    rcases List.mem_cons.mp h with rfl | h
    · exact ⟨at'.1, by omega, by omega, fun z => (ag z).1⟩
    · exact goodA_mem ⟨at'.2, by omega, by omega, fun z => (ag z).2⟩ h
theorem good_askE {d : PyData} (h : Good true 4000 3 d) : AskE d := by
  cases d with
  | tuple ds =>
    have a : GoodA true 4000 3 ds := ⟨by simpa only [tm] using h.t, by have := h.w; simp only [wg] at this; omega, by have := h.n; simp only [PyData.depth] at this; omega, fun z => by simpa only [PyData.canLay0] using h.g z⟩
    refine ⟨by have := len_wgA4 ds; have := a.w; omega, fun x hx => ?_⟩
    have gx := goodA_mem a hx
    exact ⟨gx.small (by decide), gx.shaped (by decide)⟩
  | _ => trivial
/-- what is given as a row -/
def GoodR (d : PyData) : Prop := AskR d ∧ Good false 5000000 6 d
theorem goodR_list {ds : List PyData} (h : ∀ d ∈ ds, Good true 4000 3 d) (hl : ds.length ≤ 1000) : GoodR (.list ds) :=
  ⟨⟨by omega, fun x hx => good_askE (h x hx)⟩, (Good.lst (GoodA.of h hl)).mono (by decide) (by decide) (by decide)⟩
theorem goodR_of {g : Bool} {W n : Nat} {d : PyData} (h : Good g W n d) (hW : W ≤ 5000000) (hn : n ≤ 6) (hd : ∀ ds, d ≠ .list ds) : GoodR d :=
  ⟨by cases d with | list ds => exact absurd rfl (hd ds) | _ => trivial, h.mono hW hn (fun z => by cases z)⟩
def cutG {α : Type} (xs : List α) (lo hi : Option Int) : List α := (xs.drop (HT.sIx xs.length 0 lo)).take (HT.sIx xs.length xs.length hi - HT.sIx xs.length 0 lo)
theorem cutV_len (xs : List V) (lo hi : Option Int) : (cutV xs lo hi).length ≤ xs.length := by
  unfold cutV
  rw [List.length_take, List.length_drop]
  omega
theorem cutG_mem {α : Type} {xs : List α} {lo hi : Option Int} {x : α} (h : x ∈ cutG xs lo hi) : x ∈ xs := by
  unfold cutG at h
  exact List.mem_of_mem_drop (List.mem_of_mem_take h)
theorem daAll_drop {K : PySem.W.Frag} {H : Hp} : ∀ {n : Nat} {vs : List V} {ds : List PyData}, DaAll K H vs ds → DaAll K H (vs.drop n) (ds.drop n)
  | 0, _, _, h => h
  | n + 1, _, _, .nil => .nil
  | n + 1, _, _, .cons a r => daAll_drop (n := n) r
theorem daAll_take {K : PySem.W.Frag} {H : Hp} : ∀ {n : Nat} {vs : List V} {ds : List PyData}, DaAll K H vs ds → DaAll K H (vs.take n) (ds.take n)
  | 0, _, _, _ => .nil
  | n + 1, _, _, .nil => .nil
  | n + 1, _, _, .cons a r => .cons a (daAll_take (n := n) r)
theorem daAll_rev {K : PySem.W.Frag} {H : Hp} {vs : List V} {ds : List PyData} (h : DaAll K H vs ds) : DaAll K H vs.reverse ds.reverse := by
  induction vs generalizing ds with
  | nil => cases h; exact .nil
  | cons x r ih =>
    cases h with
    | cons a b =>
      rw [List.reverse_cons, List.reverse_cons]
      exact daAll_snoc (ih b) a
theorem daAll_cut {K : PySem.W.Frag} {H : Hp} {vs : List V} {ds : List PyData} {lo hi : Option Int} (h : DaAll K H vs ds) : DaAll K H (cutV vs lo hi) (cutG ds lo hi) := by
  unfold cutV cutG
  rw [daAll_len h]
  exact daAll_take (daAll_drop h)
section
variable {p cc : Addr} {S : Addr → Prop} {H H0 : Hp} {K : PySem.W.Frag} {σ : L2.St} {G : PyData → Prop} {k m : Nat}
theorem co_set {i : Nat} {t : TE} {u : TS} {D : Ends} {a : Nat} (h : CO K p S cc H0 σ k m t G) (g : GeP p H0 H) (w : Wd p cc S H a) (ha : a + k ≤ 90000) (q : ∀ l H', GeP p H H' → Wd p cc S H' (a + k) → CandAt K S H' l m G → u D (σ.set i (some (.ref l))) H') : tSeq (tAsg t (gName i)) u D σ H := h H a _ g w ha q
theorem do_wrong {i : Nat} {x : Str} {E : XK} (e : σ[i]? = some (some (.ref p))) (h0 : 0 < x.length) (h1 : x.length ≤ 100) (h2 : ∀ c ∈ x.cps.toList, c < 128) : DO K p S cc H0 σ 2 (tCal spWrong E (tCons (tVar i) (tCons (tC (.str x)) tNil))) (Good true 2012 0) := fun H a Q g w ha q =>
  ⟨_, e, p, cc, a, x, rfl, w.pen, by omega, h0, h1, h2, fun H' y g' hp' hl hc => q (.str y) (.str y) H' g' (w.gp g' hp') (.str y) (Good.str hc hl)⟩
theorem candL {l : Addr} (h : CandAt K S H l m (Good true 4000 3)) (hm : m ≤ 1000) : ∃ ds, Da K (wos S H) (.ref l) (.list ds) ∧ GoodR (.list ds) ∧ Good true (1000 * 4002 + 4) 4 (.list ds) := by
  obtain ⟨vs, ds, h1, h2, h3, h4, h5⟩ := h
  exact ⟨ds, .lst (Or.inl (by rw [wos_ne h2]; exact h1)) h4, goodR_list h5 (by rw [daAll_len h4]; omega), Good.lst (GoodA.of h5 (by rw [daAll_len h4]; omega))⟩
theorem do_R0 {k : Nat} {t : TE} {g : Bool} {W : Nat} (h : DO K p S cc H0 σ k t (Good g W 0)) (hW : W ≤ 5000000 := by decide) : DO K p S cc H0 σ k t GoodR := h.to (Nat.le_refl _) fun d z => goodR_of z hW (by decide) fun ds e => by
  subst e
  have := z.n
  simp only [PyData.depth] at this
  omega
end
section
variable {P : Program} {w : World} {K : PySem.W.Frag} {mg : Str → Option Value} {base : Heap} {T : List Addr}
def spBadRow (K : PySem.W.Frag) : Sp := fun vs H Q _ => ∃ (p cc m t o L : Addr) (S : Addr → Prop) (a : Nat) (rest : List V) (fl ol : List Str) (es : List RE), vs = [.ref p, .ref m, .ref L] ∧ Wd p cc S H a ∧ a + 40 ≤ 90000 ∧ H m = some (.tup (.ref t :: .ref o :: rest)) ∧ Rd H t (.tup (fl.map V.str)) ∧ Rd H o (.tup (ol.map V.str)) ∧ fl.length ≤ 3 ∧ ol.length ≤ 3 ∧ (∀ f ∈ fl, NmS f) ∧ (∀ f ∈ ol, NmS f) ∧
  ¬ S L ∧ RowAt H L es ∧ es.length ≤ 8 ∧ (∀ e ∈ es, okE ol e ∧ e.t ≤ 100000) ∧ ∀ H' v d, GeP p H H' → Wd p cc S H' (a + 40) → Da K (wos S H') v d → GoodR d → Q v H'
abbrev nBadRow : List Str := ["_law_pen", "_law_keymap", "_law_row", "_law_flag", "_law_at", "_law_time", "_law_some", "_law_bads", "_law_found", "_law_bad", "_law_word"]
end
end Pr
set_option maxRecDepth 100000
set_option maxHeartbeats 2000000
/-! a row repeated -/
namespace Pr
open PySem PySem.Spec PyProof.Rows L2 GxR Gx Rp Dl Pd Tx Zq Zs
def RE.add (x : Int) : RE → RE
  | .key c t => .key c (t + x)
  | .set f b t => .set f b (t + x)
theorem RE.add_t (x : Int) (e : RE) : (e.add x).t = e.t + x := by cases e <;> rfl
def RE.ini : RE → List V
  | .key c t => [.str "key", .str (sg c)]
  | .set f b t => [.str "set", .str f, .bl b]
theorem ini_ne (e : RE) : e.ini ≠ [] := by cases e <;> (intro z; cases z)
theorem add_vs (x : Int) (e : RE) : e.ini ++ [.int (e.t + x)] = (e.add x).vs := by cases e <;> rfl
theorem cut_ini (e : RE) : cutV e.vs none (some (-1)) = e.ini ∧ ¬ (HT.sIx e.vs.length 0 none = 0 ∧ HT.sIx e.vs.length e.vs.length (some (-1)) = e.vs.length) := by
  cases e with
  | key c t => exact ⟨rfl, fun z => absurd z.2 (show ¬ HT.sIx 3 3 (some (-1)) = 3 by decide)⟩
  | set f b t => exact ⟨rfl, fun z => absurd z.2 (show ¬ HT.sIx 4 4 (some (-1)) = 4 by decide)⟩
theorem ini_len (e : RE) : e.ini.length ≤ 3 := by
  cases e with
  | key c t => exact (show 2 ≤ 3 by decide)
  | set f b t => exact (show 3 ≤ 3 by decide)
theorem sl_tupK {X : Cx} {K : PySem.W.Frag} (h : X.K = K) : SlR X (rSlA K) := h ▸ sl_tupA
theorem op_catK {X : Cx} {K : PySem.W.Frag} (h : X.K = K) : OpR X (binaryOp .Add) (rCatA K) := h ▸ op_catA
theorem shaped_row {es : List RE} {ol : List Str} (h : ∀ e ∈ es, okE ol e) (hf : ∀ f ∈ ol, PyData.strOk f = true) : SeqAt.shaped (.list (es.map RE.d)) = true := by
  have one : ∀ e : RE, okE ol e → PyData.canLay0 e.d = true ∧ e.d.depth ≤ 1 := fun e he => by
    cases e with
    | key c t =>
      have h1 : PyData.strOk (sg c) = true := strOk_of fun x hx => by
        have : x = c := by simpa [sg] using hx
        have := he.2.1
        omega
      have h2 : PyData.strOk "key" = true := by decide +kernel
      refine ⟨?_, by simp only [RE.d, PyData.depth, PyData.depthAll]; omega⟩
      simp only [RE.d, PyData.canLay0, PyData.canLayAll0, h1, h2, Bool.and_true]
    | set f b t =>
      have h1 := hf f he.1
      have h2 : PyData.strOk "set" = true := by decide +kernel
      refine ⟨?_, by simp only [RE.d, PyData.depth, PyData.depthAll]; omega⟩
      simp only [RE.d, PyData.canLay0, PyData.canLayAll0, h1, h2, Bool.and_true]
  have h2 : PyData.canLayAll0 (es.map RE.d) = true := by
    induction es with
    | nil => rfl
    | cons x r ih =>
      simp only [List.map_cons, PyData.canLayAll0, Bool.and_eq_true]
      exact ⟨(one x (h x List.mem_cons_self)).1, ih fun y hy => h y (List.mem_cons_of_mem _ hy)⟩
  have h3 : PyData.depthAll (es.map RE.d) ≤ 1 := by
    clear h2
    induction es with
    | nil => exact Nat.zero_le _
    | cons x r ih =>
      have a := (one x (h x List.mem_cons_self)).2
      have b := ih fun y hy => h y (List.mem_cons_of_mem _ hy)
      simp only [List.map_cons, PyData.depthAll]
      omega
  unfold SeqAt.shaped
  simp only [PyData.canLay0, PyData.depth, h2, Bool.true_and]
  exact decide_eq_true (by omega)
theorem dp_row {K : PySem.W.Frag} {H : Hp} : ∀ {vs : List V} {es : List RE}, Paired (EntAt H) vs es → DpAll K H vs (es.map RE.d)
  | _, _, .nil => .nil
  | _, e :: _, .cons ⟨a, h1, h2⟩ r => by
    subst h1
    refine .cons ?_ (dp_row r)
    cases e with
    | key c t => exact .tup (SqT.of h2) (.cons (.str _) (.cons (.str _) (.cons (.int _) .nil)))
    | set f b t => exact .tup (SqT.of h2) (.cons (.str _) (.cons (.str _) (.cons (.bl _) (.cons (.int _) .nil))))
theorem eqv_row {es : List RE} : PyData.eqv (.list (es.map RE.d)) (.list []) = es.isEmpty := by
  cases es with
  | nil => rfl
  | cons e r => rfl
theorem last_of {α : Type} {xs : List α} (h : xs ≠ []) : ∃ v, atI xs (-1) = some v ∧ xs.getLast? = some v := by
  obtain ⟨v, hv⟩ : ∃ v, xs.getLast? = some v := by
    cases e : xs.getLast? with
    | none => exact absurd (List.getLast?_eq_none_iff.mp e) h
    | some v => exact ⟨v, rfl⟩
  obtain ⟨ys, rfl⟩ := List.getLast?_eq_some_iff.mp hv
  exact ⟨v, atI_last ys v, hv⟩
theorem paired_last {α β : Type} {F : α → β → Prop} : ∀ {xs : List α} {ys : List β} {v : α}, Paired F xs ys → xs.getLast? = some v → ∃ y, ys.getLast? = some y ∧ F v y
  | _, _, _, .nil, h => by cases h
  | _, _, v, (.cons (l₁ := []) a r), h => by
    cases r
    cases h
    exact ⟨_, rfl, a⟩
  | _, _, v, (.cons (l₁ := x :: xs) a r), h => by
    cases r with
    | cons b r' =>
      rw [List.getLast?_cons_cons] at h
      obtain ⟨y, h1, h2⟩ := paired_last (.cons b r') h
      exact ⟨y, by rw [List.getLast?_cons_cons]; exact h1, h2⟩
end Pr
set_option maxRecDepth 100000
set_option maxHeartbeats 2000000
/-! bounds of texts; events that are right; the drawn keymap with its outside flags -/
namespace Pr
open PySem PySem.Spec PyProof.Rows L2 GxR Gx Rp Dl Pd Tx Zq Zs
/-- shown in at most n signs, at most dp deep -/
def Sz (d : PyData) (n dp : Nat) : Prop := d.showable = true ∧ d.shown.length ≤ n ∧ d.depth ≤ dp
theorem Sz.mono {d : PyData} {n dp n' dp' : Nat} (h : Sz d n dp) (h1 : n ≤ n') (h2 : dp ≤ dp') : Sz d n' dp' := ⟨h.1, Nat.le_trans h.2.1 h1, Nat.le_trans h.2.2 h2⟩
theorem sz_all {n dp : Nat} : ∀ ds : List PyData, (∀ d ∈ ds, Sz d n dp) → PyData.showableAll ds = true ∧ piled (PyData.shownAll ds) ≤ ds.length * (n + 2) ∧ PyData.depthAll ds ≤ dp
  | [], _ => ⟨rfl, Nat.zero_le _, Nat.zero_le _⟩
  | x :: xs, h => by
    obtain ⟨a1, a2, a3⟩ := h x List.mem_cons_self
    obtain ⟨b1, b2, b3⟩ := sz_all xs fun d hd => h d (List.mem_cons_of_mem _ hd)
    refine ⟨by simp only [PyData.showableAll, a1, b1, Bool.and_self], ?_, ?_⟩
    · simp only [PyData.shownAll, piled_cons, List.length_cons]
      have : (xs.length + 1) * (n + 2) = xs.length * (n + 2) + (n + 2) := Nat.succ_mul _ _
      omega
    · simp only [PyData.depthAll]
      omega
theorem sz_list {ds : List PyData} {n dp k : Nat} (h : ∀ d ∈ ds, Sz d n dp) (hk : ds.length ≤ k) : Sz (.list ds) (k * (n + 2) + 4) (dp + 1) := by
  obtain ⟨b1, b2, b3⟩ := sz_all ds h
  refine ⟨by simpa only [PyData.showable] using b1, ?_, ?_⟩
  · have := listText_le (PyData.shownAll ds)
    have : ds.length * (n + 2) ≤ k * (n + 2) := Nat.mul_le_mul_right _ hk
    simp only [PyData.shown]
    omega
  · simp only [PyData.depth]
    omega
theorem sz_tup {ds : List PyData} {n dp k : Nat} (h : ∀ d ∈ ds, Sz d n dp) (hk : ds.length ≤ k) : Sz (.tuple ds) (k * (n + 2) + 4) (dp + 1) := by
  obtain ⟨b1, b2, b3⟩ := sz_all ds h
  refine ⟨by simpa only [PyData.showable] using b1, ?_, ?_⟩
  · have := tupleText_le (PyData.shownAll ds)
    have : ds.length * (n + 2) ≤ k * (n + 2) := Nat.mul_le_mul_right _ hk
    simp only [PyData.shown]
    omega
  · simp only [PyData.depth]
    omega
theorem sz_int {i : Int} (h0 : 0 ≤ i) (h1 : i ≤ 1000000000) : Sz (.int i) 10 0 := by
  refine ⟨?_, ?_, Nat.le_refl _⟩
  · show decide (i.natAbs.log2 < 1920) = true
    refine decide_eq_true ?_
    have h2 : i.natAbs < 2 ^ 1920 := Nat.lt_of_lt_of_le (show i.natAbs < 2 ^ 31 by omega) (Nat.pow_le_pow_right (by decide) (by decide))
    by_cases hz : i.natAbs = 0
    · rw [hz]; decide
    · exact (Nat.log2_lt hz).mpr h2
  · exact PyProof.Rows.toString_length_le h0 (by decide) (by omega)
theorem sz_bool (b : Bool) : Sz (.bool b) 5 0 := ⟨rfl, by cases b <;> decide, Nat.le_refl _⟩
theorem sz_str {x : Str} {n : Nat} (h : ∀ c ∈ x.cps.toList, c < 128) (hl : x.length ≤ n) : Sz (.str x) (10 * n + 2) 0 :=
  ⟨rfl, Nat.le_trans (StrLaws.reprText_len x fun c hc => Nat.lt_trans (h c hc) (by decide)) (by omega), Nat.le_refl _⟩
theorem sz_lit : Sz (.str "key") 100 0 ∧ Sz (.str "set") 100 0 ∧ Sz (.str "text") 100 0 ∧ Sz (.str "do") 100 0 :=
  ⟨(sz_str (n := 4) (by decide +kernel) (by decide +kernel)).mono (by decide) (by decide), (sz_str (n := 4) (by decide +kernel) (by decide +kernel)).mono (by decide) (by decide), (sz_str (n := 4) (by decide +kernel) (by decide +kernel)).mono (by decide) (by decide), (sz_str (n := 4) (by decide +kernel) (by decide +kernel)).mono (by decide) (by decide)⟩
theorem sz_sg {c : Nat} (h : isL c) : Sz (.str (sg c)) 100 0 := (sz_str (n := 1) (fun x hx => by
  have : x = c := by simpa [sg] using hx
  have := h.2
  omega) (Nat.le_refl _)).mono (by decide) (by decide)
theorem sz_mkS {ks : List Nat} (h : ∀ c ∈ ks, isL c) (hl : ks.length ≤ 4) : Sz (.str (mkS ks)) 100 0 := (sz_str (n := 4) (fun x hx => by
  have := (h x (by simpa [mkS] using hx)).2
  omega) (by rw [mkS_len]; exact hl)).mono (by decide) (by decide)
/-- a name that may be shown -/
def NmOk (f : Str) : Prop := f.length ≤ 8 ∧ ∀ c ∈ f.cps.toList, c < 128
theorem sz_nm {f : Str} (h : NmOk f) : Sz (.str f) 100 0 := (sz_str (n := 8) h.2 h.1).mono (by decide) (by decide)
theorem nm_strOk {f : Str} (h : NmOk f) : PyData.strOk f = true := strOk_of fun c hc => Nat.lt_trans (h.2 c hc) (by decide)
theorem nm_flags : ∀ f ∈ FLAGS, NmOk f := by unfold NmOk; decide +kernel
theorem nm_names : ∀ f ∈ NAMES, NmOk f := by unfold NmOk; decide +kernel
theorem sz_ent {ol : List Str} {e : RE} (h : okE ol e) (hf : ∀ f ∈ ol, NmOk f) : Sz e.d 500 1 := by
  cases e with
  | key c t =>
    refine (sz_tup (n := 100) (dp := 0) (k := 3) (fun d hd => ?_) (Nat.le_refl _)).mono (by decide) (by decide)
    simp only [List.mem_cons, List.not_mem_nil, or_false] at hd
    rcases hd with rfl | rfl | rfl
    · exact sz_lit.1
    · exact sz_sg ⟨h.1, h.2.1⟩
    · exact (sz_int h.2.2.1 h.2.2.2).mono (by decide) (by decide)
  | set f b t =>
    refine (sz_tup (n := 100) (dp := 0) (k := 4) (fun d hd => ?_) (Nat.le_refl _)).mono (by decide) (by decide)
    simp only [List.mem_cons, List.not_mem_nil, or_false] at hd
    rcases hd with rfl | rfl | rfl | rfl
    · exact sz_lit.2.1
    · exact sz_nm (hf f h.1)
    · exact (sz_bool b).mono (by decide) (by decide)
    · exact (sz_int h.2.1 h.2.2).mono (by decide) (by decide)
theorem sz_row {ol : List Str} {es : List RE} (h : ∀ e ∈ es, okE ol e) (hf : ∀ f ∈ ol, NmOk f) (hl : es.length ≤ 300) : Sz (.list (es.map RE.d)) 200000 2 := by
  refine (sz_list (n := 500) (dp := 1) (k := 300) (fun d hd => ?_) (by rw [List.length_map]; exact hl)).mono (by decide) (by decide)
  obtain ⟨e, he, rfl⟩ := List.mem_map.mp hd
  exact sz_ent (h e he) hf
theorem sz_bools {bs : List Bool} (h : bs.length ≤ 3) : Sz (.tuple (bs.map .bool)) 100 1 := by
  refine (sz_tup (n := 5) (dp := 0) (k := 3) (fun d hd => ?_) (by rw [List.length_map]; exact h)).mono (by decide) (by decide)
  obtain ⟨b, _, rfl⟩ := List.mem_map.mp hd
  exact sz_bool b
/-! ### events -/
def Ev.d : Ev → PyData
  | .text c => .tuple [.str "text", .str (sg c)]
  | .act n ks => .tuple [.str "do", .str n, .str (mkS ks)]
def EvOk (ns : List Str) : Ev → Prop
  | .text c => isL c
  | .act n ks => n ∈ ns ∧ ks.length ≤ 4 ∧ ∀ c ∈ ks, isL c
theorem ev_da {K : PySem.W.Frag} {H : Hp} : ∀ {vs : List V} {es : List Ev}, Paired (EvAt H) vs es → DaAll K H vs (es.map Ev.d)
  | _, _, .nil => .nil
  | _, e :: _, .cons ⟨a, h1, h2⟩ r => by
    subst h1
    refine .cons ?_ (ev_da r)
    cases e with
    | text c => exact .tup (Or.inl h2) (.cons (.str _) (.cons (.str _) .nil))
    | act n ks => exact .tup (Or.inl h2) (.cons (.str _) (.cons (.str _) (.cons (.str _) .nil)))
theorem sz_ev {ns : List Str} {e : Ev} (h : EvOk ns e) (hn : ∀ n ∈ ns, NmOk n) : Sz e.d 400 1 := by
  cases e with
  | text c =>
    refine (sz_tup (n := 100) (dp := 0) (k := 2) (fun d hd => ?_) (Nat.le_refl _)).mono (by decide) (by decide)
    simp only [List.mem_cons, List.not_mem_nil, or_false] at hd
    rcases hd with rfl | rfl
    · exact sz_lit.2.2.1
    · exact sz_sg h
  | act n ks =>
    refine (sz_tup (n := 100) (dp := 0) (k := 3) (fun d hd => ?_) (Nat.le_refl _)).mono (by decide) (by decide)
    simp only [List.mem_cons, List.not_mem_nil, or_false] at hd
    rcases hd with rfl | rfl | rfl
    · exact sz_lit.2.2.2
    · exact sz_nm (hn n h.1)
    · exact sz_mkS h.2.2 h.2.1
def CmNs (bss : List (List BI)) (ns : List Str) : Prop := ∀ l ∈ bss, ∀ bi ∈ l, bi.cm = .non ∨ ∃ n ∈ ns, bi.cm = .str n
theorem cmd_ns {F : List (Key × V)} {bss : List (List BI)} {ns : List Str} (ok : CmNs bss ns) {x n : Str} (h : cmdOf F bss x = some n) : n ∈ ns := by
  unfold cmdOf at h
  cases e : winC F x bss 0 with
  | none => rw [e] at h; cases h
  | some q =>
    obtain ⟨i, j, c⟩ := q
    rw [e] at h
    obtain ⟨l, hl, bi, hb, rfl⟩ := winC_mem e
    rcases ok l hl bi hb with z | ⟨n', hn, z⟩
    · rw [z] at h; cases h
    · rw [z] at h
      cases h
      exact hn
theorem burst_ok {fl ns : List Str} {bss : List (List BI)} {eks : Str → List (Key × V)} (cn : CmNs bss ns) : ∀ {n : Nat} {ks : List Nat} {bs : List Bool}, (∀ c ∈ ks, isL c) → ∀ e ∈ (burstR fl bss eks n ks bs).1, EvOk ns e
  | 0, ks, bs, _, e, he => by cases he
  | n + 1, ks, bs, hL, e, he => by
    by_cases hk : ks = []
    · subst hk
      rw [burst_nil] at he
      cases he
    · rw [burst_step hk] at he
      rcases List.mem_cons.mp he with rfl | he
      · rcases first_kind (cmdOf (factsK fl bs) bss) ks with ⟨c, e, ec⟩ | ⟨nm, mm, e, _, m4, ec⟩
        · rw [e]
          cases ks with
          | nil => exact absurd rfl hk
          | cons c0 r =>
            rw [ec]
            exact hL c0 List.mem_cons_self
        · rw [e]
          exact ⟨cmd_ns cn ec, by rw [List.length_take]; omega, fun c hc => hL c (List.mem_of_mem_take hc)⟩
      · exact burst_ok cn (fun c hc => hL c (List.mem_of_mem_drop hc)) e he
theorem read_ok {fl ns : List Str} {bss : List (List BI)} {eks : Str → List (Key × V)} (cn : CmNs bss ns) : ∀ {us : List BU} {bs : List Bool}, (∀ u ∈ us, ∀ c ∈ u.1, isL c) → ∀ e ∈ (readR fl bss eks us bs).1, EvOk ns e
  | [], _, _, e, he => by cases he
  | u :: r, bs, h, e, he => by
    rcases List.mem_append.mp he with he | he
    · exact burst_ok cn (h u List.mem_cons_self) e he
    · exact read_ok cn (fun u hu => h u (List.mem_cons_of_mem _ hu)) e he
def klen : List BU → Nat
  | [] => 0
  | u :: r => u.1.length + klen r
theorem read_len {fl : List Str} {bss : List (List BI)} {eks : Str → List (Key × V)} : ∀ {us : List BU} {bs : List Bool}, bs.length = fl.length → (readR fl bss eks us bs).1.length ≤ klen us ∧ (readR fl bss eks us bs).2.length = fl.length
  | [], _, h => ⟨Nat.le_refl _, h⟩
  | u :: r, bs, h => by
    obtain ⟨a1, a2⟩ := burstR_len (bss := bss) (eks := eks) (n := u.1.length) (ks := u.1) h
    obtain ⟨b1, b2⟩ := read_len (bss := bss) (eks := eks) (us := r) (bs := bsAfter fl (burstR fl bss eks u.1.length u.1 bs).2 (setK u.2)) bsAfter_len
    refine ⟨?_, b2⟩
    show ((burstR fl bss eks u.1.length u.1 bs).1 ++ (readR fl bss eks r (bsAfter fl (burstR fl bss eks u.1.length u.1 bs).2 (setK u.2))).1).length ≤ _
    rw [List.length_append]
    show _ ≤ u.1.length + klen r
    omega
theorem bursts_sum {w : Int} : ∀ {es : List RE} {ks : List Nat} {last : Int}, klen (burstsM w es ks last) ≤ ks.length + es.length
  | [], ks, last => Nat.le_refl _
  | .set f b t :: r, ks, last => by
    have h := bursts_sum (w := w) (es := r) (ks := []) (last := last)
    simp only [List.length_nil] at h
    show ks.length + klen (burstsM w r [] last) ≤ ks.length + (r.length + 1)
    omega
  | .key c t :: r, ks, last => by
    have h1 := bursts_sum (w := w) (es := r) (ks := [c]) (last := t)
    have h2 := bursts_sum (w := w) (es := r) (ks := ks ++ [c]) (last := t)
    simp only [List.length_cons, List.length_nil, List.length_append] at h1 h2
    show klen (if ks ≠ [] ∧ w < t - last then (ks, none) :: burstsM w r [c] t else burstsM w r (ks ++ [c]) t) ≤ ks.length + (r.length + 1)
    split
    · show ks.length + klen (burstsM w r [c] t) ≤ _
      omega
    · omega
theorem bursts_L {w : Int} {ol : List Str} : ∀ {es : List RE} {ks : List Nat} {last : Int}, (∀ e ∈ es, okE ol e) → (∀ c ∈ ks, isL c) → ∀ u ∈ burstsM w es ks last, ∀ c ∈ u.1, isL c
  | [], ks, last, _, hk, u, hu => by
    rw [List.mem_singleton.mp hu]
    exact hk
  | .set f b t :: r, ks, last, ok, hk, u, hu => by
    rcases List.mem_cons.mp hu with rfl | hu
    · exact hk
    · exact bursts_L (fun e he => ok e (List.mem_cons_of_mem _ he)) (fun c hc => by cases hc) u hu
  | .key c t :: r, ks, last, ok, hk, u, hu => by
    have hu : u ∈ (if ks ≠ [] ∧ w < t - last then (ks, none) :: burstsM w r [c] t else burstsM w r (ks ++ [c]) t) := hu
    have ok' : ∀ e ∈ r, okE ol e := fun e he => ok e (List.mem_cons_of_mem _ he)
    have hc0 : isL c := ⟨(ok _ List.mem_cons_self).1, (ok _ List.mem_cons_self).2.1⟩
    by_cases hc : ks ≠ [] ∧ w < t - last
    · rw [if_pos hc] at hu
      rcases List.mem_cons.mp hu with rfl | hu
      · exact hk
      · exact bursts_L ok' (fun c' h' => by rw [List.mem_singleton.mp h']; exact hc0) u hu
    · rw [if_neg hc] at hu
      exact bursts_L ok' (fun c' h' => by
        rcases List.mem_append.mp h' with h' | h'
        · exact hk c' h'
        · rw [List.mem_singleton.mp h']; exact hc0) u hu
/-- the data of events and a state -/
def outD (r : List Ev × List Bool) : PyData := .tuple [.list (r.1.map Ev.d), .tuple (r.2.map .bool)]
theorem sz_out {fl ns ol : List Str} {bss : List (List BI)} {eks : Str → List (Key × V)} {wt : Int} {es : List RE} {bs : List Bool} (cn : CmNs bss ns) (hn : ∀ n ∈ ns, NmOk n) (oke : ∀ e ∈ es, okE ol e) (h300 : es.length ≤ 300) (hb : bs.length = fl.length) (h3 : fl.length ≤ 3) : Sz (outD (readR fl bss eks (burstsM wt es [] 0) bs)) 1000000 3 := by
  obtain ⟨l1, l2⟩ := read_len (bss := bss) (eks := eks) (us := burstsM wt es [] 0) hb
  have l3 := bursts_sum (w := wt) (es := es) (ks := []) (last := 0)
  simp only [List.length_nil] at l3
  have ok := read_ok (fl := fl) (eks := eks) (bs := bs) cn (bursts_L (w := wt) (ks := []) (last := 0) oke fun c hc => by cases hc)
  refine (sz_tup (n := 200000) (dp := 2) (k := 2) (fun d hd => ?_) (Nat.le_refl _)).mono (by decide) (by decide)
  simp only [List.mem_cons, List.not_mem_nil, or_false] at hd
  rcases hd with rfl | rfl
  · refine (sz_list (n := 400) (dp := 1) (k := 300) (fun d hd => ?_) (by rw [List.length_map]; omega)).mono (by decide) (by decide)
    obtain ⟨e, he, rfl⟩ := List.mem_map.mp hd
    exact sz_ev (ok e he) hn
  · exact (sz_bools (by omega)).mono (by decide) (by decide)
theorem da_out {K : PySem.W.Frag} {H : Hp} {p l s : Addr} {us : List V} {r : List Ev × List Bool} (hp : H p = some (.tup [.ref l, .ref s])) (hl : H l = some (.lst us)) (pe : Paired (EvAt H) us r.1) (hs : Rd H s (.tup (r.2.map V.bl))) : Da K H (.ref p) (outD r) :=
  .tup (Or.inl hp) (.cons (.lst (Or.inl hl) (ev_da pe)) (.cons (.tup hs (da_bools _)) .nil))
/-- a drawn keymap, with all that reading asks -/
theorem map_ko {K : PySem.W.Frag} {H : Hp} {v : V} (mh : MapH H v) : ∃ m t o cd ly fl, ∃ ol : List Str, ∃ ns bss wt cks eks d, v = .ref m ∧ MapK K H m t o cd ly fl ns bss wt cks eks d ∧ Rd H o (.tup (ol.map V.str)) ∧ (∀ f ∈ ol, f ∈ fl) ∧ (∀ f ∈ ol, NmOk f) ∧ ol.length ≤ 3 ∧ 1 ≤ wt ∧ wt ≤ 1000 ∧ CmOk bss cks ∧ CmNs bss ns ∧ ∀ n ∈ ns, NmOk n := by
  obtain ⟨d, hd, hm⟩ := map_da (K := K) mh
  obtain ⟨m, t, o, cd, ly, fl, ol, ns, ks, i, rfl, em, et, eo, s1, s2, s3, ⟨cks, c1, c2, c3, c4, _⟩, i1, i2, hly, _, k4, kc, hk⟩ := mh
  obtain ⟨bss, h1, h2, h3⟩ := lays_at ks hk
  obtain ⟨a1, a2⟩ := cmd_at c1 c2 c3 s3
  have l3 : fl.length ≤ 3 := s1.length_le
  have cn : CmNs bss ns := fun l hl bi hb => (h2 l hl bi hb).2.1
  refine ⟨m, t, o, cd, ly, fl, ol, ns, bss, i, cks, eksOf H cks, d, rfl, ⟨em, et, (by decide : FLAGS.Nodup).sublist s1, l3, ⟨_, hly, h1⟩, hd, hm, flag_len hd em et, c1, a1, fun n c z => Nat.le_trans (a2 n c z) l3, h2, ?_, ?_, s3⟩, eo, fun f hf => s2.subset hf, fun f hf => nm_flags f (s1.subset (s2.subset hf)), Nat.le_trans s2.length_le l3, i1, i2, ?_, cn, fun n hn => nm_names n (s3.subset hn)⟩
  · have z := Paired.length h1
    rw [List.length_map] at z
    omega
  · rw [List.length_flatten, h3]
    exact kc
  · intro l hl bi hb
    rcases cn l hl bi hb with z | ⟨n, hn, z⟩
    · exact Or.inl z
    · obtain ⟨v, hv⟩ := c4 n hn
      exact Or.inr ⟨n, v, z, hv⟩
end Pr
set_option maxRecDepth 100000
set_option maxHeartbeats 2000000
namespace Pr
open PySem PySem.Spec PyProof.Rows L2 GxR Gx Rp Dl Pd Tx
/-- a def of the text as the top has written it -/
def DefAt (K : PySem.W.Frag) (x : Str) (st : Stmt) (f c : Addr) (fd : FuncData) : Prop := PySem.W.nsIn K mainGlobals x = some (some (.ref f)) ∧ (∃ (oc : Value) (od : Option Addr) (kV doc pm : Value) (an : Option Addr) (ct : Value) (osl : Array (Option Value)),
    fd = PySem.W.fnOf x x (defArgs st) (defBody st) (defScope st) .none kV doc pm an (.ref c) ct ∧ K.lookup f = some ⟨oc, od, .func fd, osl⟩) ∧ PySem.W.codeIn K (.ref c) x = true ∧ PySem.W.keepIn K (.ref f) = true
theorem def_mk {K : PySem.W.Frag} {x : Str} {st : Stmt} {f c : Addr} {oc kV doc pm ct : Value} {od an : Option Addr} {osl : Array (Option Value)} (a : PySem.W.nsIn K mainGlobals x = some (some (.ref f))) (l : K.lookup f = some ⟨oc, od, .func (PySem.W.fnOf x x (defArgs st) (defBody st) (defScope st) .none kV doc pm an (.ref c) ct), osl⟩)
    (h : PySem.W.codeIn K (.ref c) x = true) (k : PySem.W.keepIn K (.ref f) = true) : ∃ f c fd, DefAt K x st f c fd := ⟨f, c, _, a, ⟨oc, od, kV, doc, pm, an, ct, osl, rfl, l⟩, h, k⟩
def TabAt (K : PySem.W.Frag) (c Pt : Addr) : Prop := ∃ (e : Value) (dd : Option Addr) (vs : Array Value) (sl : Array (Option Value)), K.lookup c = some ⟨e, dd, .fields vs, sl⟩ ∧ vs[11]? = some (.ref Pt) ∧ K.lookup Pt = none
theorem tab_mk {K : PySem.W.Frag} {x : Str} {st : Stmt} {f c Pt : Addr} {oc kV doc pm ct e : Value} {od an dd : Option Addr} {osl sl : Array (Option Value)} {vs : Array Value} (a : PySem.W.nsIn K mainGlobals x = some (some (.ref f))) (l : K.lookup f = some ⟨oc, od, .func (PySem.W.fnOf x x (defArgs st) (defBody st) (defScope st) .none kV doc pm an (.ref c) ct), osl⟩)
    (h : PySem.W.codeIn K (.ref c) x = true) (k : PySem.W.keepIn K (.ref f) = true) (o : K.lookup c = some ⟨e, dd, .fields vs, sl⟩) (v : vs[11]? = some (.ref Pt)) (n : K.lookup Pt = none) : ∃ f c fd Pt, DefAt K x st f c fd ∧ TabAt K c Pt := ⟨f, c, _, Pt, ⟨a, ⟨oc, od, kV, doc, pm, an, ct, osl, rfl, l⟩, h, k⟩, e, dd, vs, sl, o, v, n⟩
theorem DefAt.F {K : PySem.W.Frag} {x : Str} {st : Stmt} {f c : Addr} {fd : FuncData} (d : DefAt K x st f c fd) : FunC K x st f fd c := by
  obtain ⟨a, ⟨oc, od, kV, doc, pm, an, ct, osl, e, l⟩, h, k⟩ := d
  exact ⟨⟨oc, od, kV, doc, pm, an, ct, osl, e, l, h⟩, k⟩
theorem DefAt.df {P : Program} {w : World} {K : PySem.W.Frag} {mg : Str → Option Value} {base h : Heap} {n : Nat} {x : Str} {st : Stmt} {f c : Addr} {fd : FuncData} {ps : List Str} {sp : Sp} (d : DefAt K x st f c fd) (X : K.In h) (G : h.Ns mainGlobals mg) (ok : FnOk P w K mg base CX0 n f fd ps sp)
    (hb : ∀ (kV doc pm : Value) (an : Option Addr) (cdv ct : Value) (us : List Value), us.length = ps.length → bindArgs (PySem.W.fnOf x x (defArgs st) (defBody st) (defScope st) .none kV doc pm an cdv ct) ⟨us, []⟩ = pure (ps.zip us)) : DfP P w K mg base n x ps sp :=
  ⟨f, fd, PySem.W.mg_of X G d.1, d.2.2.2, d.F.binds hb, ok⟩
theorem TabAt.say {q : Program} {K : PySem.W.Frag} {mg : Str → Option Value} {h : Heap} {x : Str} {st : Stmt} {f c Pt : Addr} {fd : FuncData} (t : TabAt K c Pt) (d : DefAt K x st f c fd) (TF : Lw.TabF q K mg h) (X : K.In h) (G : h.Ns mainGlobals mg) (hy : ((recsOf q).any fun d => d.name == x) = true) : h.get? Pt = some { cls := .none, data := .fields #[] } ∧ PySem.W.CodeHd h c Pt := by
  obtain ⟨a, ⟨oc, od, kV, doc, pm, an, ct, osl, rfl, l⟩, _, _⟩ := d
  obtain ⟨e, dd, vs, sl, k1, k2, k3⟩ := t
  exact TF x f c Pt _ _ e dd vs sl hy (PySem.W.mg_of X G a) l rfl rfl k1 k2
end Pr
set_option maxRecDepth 100000
set_option maxHeartbeats 4000000
/-! data that a law draws, told just as it is: expressions that give one data; sizes of what is put together -/
namespace Pr
open PySem PySem.Spec PyProof.Rows L2 GxR Gx Rp Dl Pd Tx
/-- shown in at most n signs, at most dp deep -/
def Sw (d : PyData) (n dp : Nat) : Prop := Sz d n dp ∧ small d = true
structure SwA (ds : List PyData) (n dp : Nat) : Prop where
  s : PyData.showableAll ds = true
  p : piled (PyData.shownAll ds) ≤ n
  d : PyData.depthAll ds ≤ dp
  m : smallAll ds = true
theorem sw_nil : SwA [] 0 0 := ⟨rfl, Nat.zero_le _, Nat.zero_le _, rfl⟩
theorem sw_cons {d : PyData} {ds : List PyData} {n m a b : Nat} (h : Sw d n a) (h' : SwA ds m b) : SwA (d :: ds) (n + 2 + m) (max a b) := by
  obtain ⟨⟨h1, h2, h3⟩, h4⟩ := h
  refine ⟨by simp only [PyData.showableAll, h1, h'.s, Bool.and_self], ?_, ?_, by simp only [smallAll, h4, h'.m, Bool.and_self]⟩
  · have := h'.p
    simp only [PyData.shownAll, piled_cons]
    omega
  · have := h'.d
    simp only [PyData.depthAll]
    omega
theorem sw_tup {ds : List PyData} {n dp : Nat} (h : SwA ds n dp) (hl : ds.length ≤ 100000 := by simp) : Sw (.tuple ds) (n + 4) (dp + 1) := by
  refine ⟨⟨by simpa only [PyData.showable] using h.s, ?_, ?_⟩, by simp only [small, h.m, Bool.and_true]; exact decide_eq_true hl⟩
  · have := tupleText_le (PyData.shownAll ds)
    have := h.p
    simp only [PyData.shown]
    omega
  · have := h.d
    simp only [PyData.depth]
    omega
theorem sw_lst {ds : List PyData} {n dp : Nat} (h : SwA ds n dp) (hl : ds.length ≤ 100000 := by simp) : Sw (.list ds) (n + 4) (dp + 1) := by
  refine ⟨⟨by simpa only [PyData.showable] using h.s, ?_, ?_⟩, by simp only [small, h.m, Bool.and_true]; exact decide_eq_true hl⟩
  · have := listText_le (PyData.shownAll ds)
    have := h.p
    simp only [PyData.shown]
    omega
  · have := h.d
    simp only [PyData.depth]
    omega
theorem Sw.mono {d : PyData} {n m a b : Nat} (h : Sw d n a) (h1 : n ≤ m) (h2 : a ≤ b) : Sw d m b := ⟨h.1.mono h1 h2, h.2⟩
theorem sw_ok {d : PyData} (h : okD d = true) {n : Nat} (hd : d.depth ≤ n) : Sw d (wgt d) n := by
  obtain ⟨h1, h2, h3⟩ := shown_le d h
  exact ⟨⟨h2, h1, hd⟩, h3⟩
section
variable {p cc : Addr} {S : Addr → Prop} {H0 : Hp} {K : PySem.W.Frag} {σ : L2.St} {t t1 t2 : TE} {ta : TA} {d : PyData} {ds as bs : List PyData}
abbrev DX (K : PySem.W.Frag) (p : Addr) (S : Addr → Prop) (cc : Addr) (H0 : Hp) (σ : L2.St) (t : TE) (d : PyData) : Prop := DO K p S cc H0 σ 0 t (fun e => e = d)
abbrev AX (K : PySem.W.Frag) (p : Addr) (S : Addr → Prop) (cc : Addr) (H0 : Hp) (σ : L2.St) (t : TA) (ds : List PyData) : Prop := AO K p S cc H0 σ 0 t (fun es => es = ds)
theorem DX.g {G : PyData → Prop} (h : DX K p S cc H0 σ t d) (hG : G d) : DO K p S cc H0 σ 0 t G := DO.to h (Nat.le_refl _) fun e he => by rw [he]; exact hG
theorem dx_int {i : Int} : DX K p S cc H0 σ (tC (.int i)) (.int i) := do_c (fun _ => .int i) rfl
theorem dx_bl {b : Bool} : DX K p S cc H0 σ (tC (.bl b)) (.bool b) := do_c (fun _ => .bl b) rfl
theorem dx_non : DX K p S cc H0 σ (tC .non) .none := do_c (fun _ => .non) rfl
theorem dx_str {x : Str} : DX K p S cc H0 σ (tC (.str x)) (.str x) := do_c (fun _ => .str x) rfl
theorem dx_neg {i : Int} : DX K p S cc H0 σ (tUn (rU fun i => .int (-i)) (tC (.int i))) (.int (-i)) := fun H a Q g hp ha q => ⟨i, rfl, q _ _ H GeP.refl hp (.int (-i)) rfl⟩
theorem dx_var {i : Nat} {v : V} (e : σ[i]? = some (some v)) (h : Da K (wos S H0) v d) : DX K p S cc H0 σ (tVar i) d := do_var e h rfl
theorem ax_nil : AX K p S cc H0 σ tNil [] := fun H a Q g hp ha q => q [] [] H GeP.refl hp .nil rfl
theorem ax_cons (h1 : DX K p S cc H0 σ t d) (h2 : AX K p S cc H0 σ ta ds) : AX K p S cc H0 σ (tCons t ta) (d :: ds) := fun H a Q g hp ha q =>
  h1 H a _ g hp ha fun v e H1 g1 hp1 hd1 z1 => h2 H1 a _ (g.trans g1) hp1 ha fun vs es H2 g2 hp2 hd2 z2 => q (v :: vs) (e :: es) H2 (g1.trans g2) hp2 (.cons ((g2.w hp1.sp).da hd1) hd2) (by rw [z1, z2])
theorem dx_tup (h : AX K p S cc H0 σ ta ds) (hl : ds.length ≤ 1000 := by simp) : DX K p S cc H0 σ (tTup ta) (.tuple ds) := fun H a Q gg hp ha q =>
  h H a _ gg hp ha fun vs es H1 g1 hp1 hd z => ⟨by have e1 := daAll_len hd; rw [show es = ds from z] at e1; exact Nat.le_trans (show vs.length ≤ 1000 by omega) (by decide), fun r hr => q (.ref r) (.tuple es) _ (g1.trans (GeP.of (Ge.new hr))) (hp1.ge (Ge.new hr)) (.tup (Or.inl (w_new hp1 hr)) ((geW (Ge.new hr)).daAll hd)) (by rw [z])⟩
theorem dx_lst (h : AX K p S cc H0 σ ta ds) (hl : ds.length ≤ 1000 := by simp) : DX K p S cc H0 σ (tLst ta) (.list ds) := fun H a Q gg hp ha q =>
  h H a _ gg hp ha fun vs es H1 g1 hp1 hd z => ⟨by have e1 := daAll_len hd; rw [show es = ds from z] at e1; exact Nat.le_trans (show vs.length ≤ 1000 by omega) (by decide), fun r hr => q (.ref r) (.list es) _ (g1.trans (GeP.of (Ge.new hr))) (hp1.ge (Ge.new hr)) (.lst (Or.inl (w_new hp1 hr)) ((geW (Ge.new hr)).daAll hd)) (by rw [z])⟩
theorem dx_dict0 : DX K p S cc H0 σ tDNewK (.dict []) := fun H a Q gg hp ha q r hr => q (.ref r) (.dict []) _ (GeP.of (Ge.new hr)) (hp.ge (Ge.new hr)) (.dct (kvs := []) (Or.inl (w_new hp hr)) List.nodup_nil .nil) rfl
theorem tup_of {H : Hp} {v : V} (h : Da K H v (.tuple ds)) : ∃ a xs, v = .ref a ∧ Rd H a (.tup xs) ∧ DaAll K H xs ds := by
  cases h with
  | tup h1 h2 => exact ⟨_, _, rfl, h1, h2⟩
theorem rd_wos {H : Hp} {a : Addr} {u : HO} (h : Rd (wos S H) a u) : Rd H a u := h.elim (fun e => Or.inl (by
    by_cases z : S a
    · rw [wos_in z] at e; cases e
    · rw [wos_ne z] at e; exact e)) fun ⟨o, e⟩ => Or.inr ⟨o, by
    by_cases z : S a
    · rw [wos_in z] at e; cases e
    · rw [wos_ne z] at e; exact e⟩
theorem dx_cat (h1 : DX K p S cc H0 σ t1 (.tuple as)) (h2 : DX K p S cc H0 σ t2 (.tuple bs)) (hl : as.length + bs.length ≤ 1000 := by simp) : DX K p S cc H0 σ (tOp (rCatA K) t1 t2) (.tuple (as ++ bs)) := fun H a Q g hp ha q =>
  h1 H a _ g hp ha fun v e H1 g1 hp1 hd1 z1 => h2 H1 a _ (g.trans g1) hp1 ha fun u f H2 g2 hp2 hd2 z2 => by
    have z1 : e = .tuple as := z1
    have z2 : f = .tuple bs := z2
    subst z1 z2
    have hd1 := (g2.w hp1.sp).da hd1
    obtain ⟨a1, xs, rfl, r1, d1⟩ := tup_of hd1
    obtain ⟨a2, ys, rfl, r2, d2⟩ := tup_of hd2
    have l1 := daAll_len d1
    have l2 := daAll_len d2
    refine ⟨a1, a2, xs, ys, rfl, rfl, Or.inl (rd_wos r1), Or.inl (rd_wos r2), Nat.le_trans (show _ ≤ 1000 by omega) (by decide), fun e => ?_, fun _ e => ?_, fun _ _ r hr => ?_⟩
    · have e0 : as = [] := List.length_eq_zero_iff.mp (by rw [l1, e]; rfl)
      exact q _ (.tuple bs) H2 (g1.trans g2) hp2 hd2 (by rw [e0]; rfl)
    · have e0 : bs = [] := List.length_eq_zero_iff.mp (by rw [l2, e]; rfl)
      exact q _ (.tuple as) H2 (g1.trans g2) hp2 hd1 (by rw [e0, List.append_nil])
    · exact q (.ref r) (.tuple (as ++ bs)) _ ((g1.trans g2).trans (GeP.of (Ge.new hr))) (hp2.ge (Ge.new hr)) (.tup (Or.inl (w_new hp2 hr)) ((geW (Ge.new hr)).daAll (daAll_appU d1 d2))) rfl
theorem cut_whole {α : Type} {xs : List α} {lo hi : Option Int} (h : HT.sIx xs.length 0 lo = 0 ∧ HT.sIx xs.length xs.length hi = xs.length) : cutG xs lo hi = xs := by
  unfold cutG
  rw [h.1, h.2, List.drop_zero, Nat.sub_zero, List.take_length]
theorem dx_cut {tl th : TO} {lo hi : Option Int} (h : DX K p S cc H0 σ t (.tuple ds)) (hlo : ∀ H (Q : Option Int → Hp → Prop), Q lo H → tl σ H Q) (hhi : ∀ H (Q : Option Int → Hp → Prop), Q hi H → th σ H Q) : DX K p S cc H0 σ (tSl (rSlA K) t tl th) (.tuple (cutG ds lo hi)) := fun H a Q g hp ha q =>
  h H a _ g hp ha fun v e H1 g1 hp1 hd1 z1 => hlo _ _ (hhi _ _ (by
    have z1 : e = .tuple ds := z1
    subst z1
    obtain ⟨a1, xs, rfl, r1, d1⟩ := tup_of hd1
    have l1 := daAll_len d1
    refine ⟨a1, xs, rfl, Or.inl (rd_wos r1), fun w => ?_, fun _ r hr => ?_⟩
    · exact q _ (.tuple ds) H1 g1 hp1 hd1 (by rw [cut_whole (xs := ds) (by rw [l1]; exact w)])
    · exact q (.ref r) (.tuple (cutG ds lo hi)) _ (g1.trans (GeP.of (Ge.new hr))) (hp1.ge (Ge.new hr)) (.tup (Or.inl (w_new hp1 hr)) ((geW (Ge.new hr)).daAll (daAll_cut d1))) rfl))
theorem po_no : ∀ H (Q : Option Int → Hp → Prop), Q none H → tNoPart σ H Q := fun H Q q => q
theorem po_in {i : Int} : ∀ H (Q : Option Int → Hp → Prop), Q (some i) H → tPart (tC (.int i)) σ H Q := fun H Q q => ⟨i, rfl, q⟩
theorem dx_rep {k : Int} (h : DX K p S cc H0 σ t (.tuple ds)) (h0 : ds ≠ []) (hl : ds.length ≤ 1000) (h2 : 2 ≤ k) (h3 : k ≤ 1000) : DX K p S cc H0 σ (tOp (rRepT K) t (tC (.int k))) (.tuple (List.replicate k.toNat ds).flatten) := fun H a Q g hp ha q =>
  h H a _ g hp ha fun v e H1 g1 hp1 hd1 z1 => by
    have z1 : e = .tuple ds := z1
    subst z1
    obtain ⟨a1, xs, rfl, r1, d1⟩ := tup_of hd1
    have l1 := daAll_len d1
    refine ⟨a1, k, xs, rfl, rfl, Or.inl (rd_wos r1), fun e => h0 (List.length_eq_zero_iff.mp (by rw [l1, e]; rfl)), h2, h3, by omega, fun r hr => ?_⟩
    exact q (.ref r) (.tuple _) _ (g1.trans (GeP.of (Ge.new hr))) (hp1.ge (Ge.new hr)) (.tup (Or.inl (w_new hp1 hr)) ((geW (Ge.new hr)).daAll (daAll_rep d1 _))) rfl
theorem dx_listof (h : DX K p S cc H0 σ t (.tuple ds)) : DX K p S cc H0 σ (tCB (fun xs H Q => ∃ p ys, xs = [.ref p] ∧ (SqL K H p ys ∨ SqT K H p ys) ∧ ∀ l, H l = none → Q (.ref l) (upd H l (.lst ys))) (tCons t tNil)) (.list ds) := fun H a Q g hp ha q =>
  h H a _ g hp ha fun v e H1 g1 hp1 hd1 z1 => by
    have z1 : e = .tuple ds := z1
    subst z1
    obtain ⟨a1, xs, rfl, r1, d1⟩ := tup_of hd1
    refine ⟨a1, xs, rfl, Or.inr (Or.inl (rd_wos r1)), fun r hr => ?_⟩
    exact q (.ref r) (.list ds) _ (g1.trans (GeP.of (Ge.new hr))) (hp1.ge (Ge.new hr)) (.lst (Or.inl (w_new hp1 hr)) ((geW (Ge.new hr)).daAll d1)) rfl
theorem upd_twice {H : Hp} {a : Addr} {o o' : HO} : upd (upd H a o) a o' = upd H a o' := by
  funext b
  by_cases z : b = a
  · rw [z, upd_same, upd_same]
  · rw [upd_ne z, upd_ne z, upd_ne z]
theorem upd_comm {H : Hp} {a b : Addr} {o o' o2 : HO} (n : b ≠ a) : upd (upd (upd H a o) b o2) a o' = upd (upd H b o2) a o' := by
  funext c
  by_cases z : c = a
  · rw [z, upd_same, upd_same]
  · rw [upd_ne z, upd_ne z]
    by_cases y : c = b
    · rw [y, upd_same, upd_same]
    · rw [upd_ne y, upd_ne y, upd_ne z]
/-- {key: value}, a flat value -/
theorem dx_dispF {x : Str} {v : V} (h : ∀ H, Da K H v d) : DX K p S cc H0 σ (tDisp [(tC (.str x), tC v)]) (.dict [(.str x, d)]) := fun H a Q g hp ha q r hr => by
  refine ⟨upd_same, [(Sum.inr x, v)], rfl, Nat.le_add_left 1 14, ?_⟩
  rw [upd_twice]
  exact q (.ref r) _ _ (GeP.of (Ge.new hr)) (hp.ge (Ge.new hr)) (.dct (kvs := [(Sum.inr x, v)]) (Or.inl (w_new hp hr)) (by simp) (.cons (h _) .nil)) rfl
/-- {key: {}} -/
theorem dx_disp0 {x : Str} : DX K p S cc H0 σ (tDisp [(tC (.str x), tDNewK)]) (.dict [(.str x, .dict [])]) := fun H a Q g hp ha q r hr r2 hr2 => by
  have n : r2 ≠ r := fun z => by rw [z, upd_same] at hr2; cases hr2
  have hr2' : H r2 = none := by rw [upd_ne n] at hr2; exact hr2
  refine ⟨by rw [upd_ne (Ne.symm n)]; exact upd_same, [(Sum.inr x, .ref r2)], rfl, Nat.le_add_left 1 14, ?_⟩
  rw [show mergeK [] [((Sum.inr x : Key), V.ref r2)] = [(Sum.inr x, V.ref r2)] from rfl, upd_comm n]
  have g1 := Ge.new (o := .dK []) hr2'
  have hp1 := hp.ge g1
  have hr1 : upd H r2 (.dK []) r = none := by rw [upd_ne (Ne.symm n)]; exact hr
  have g2 := Ge.new (o := .dK [(Sum.inr x, V.ref r2)]) hr1
  exact q (.ref r) _ _ (GeP.of (g1.trans g2)) (hp1.ge g2) (.dct (kvs := [(Sum.inr x, .ref r2)]) (Or.inl (w_new hp1 hr1)) (by simp) (.cons ((geW g2).da (.dct (kvs := []) (Or.inl (w_new hp hr2')) List.nodup_nil .nil)) .nil)) rfl
/-- {key: {key: flat}} -/
theorem dx_disp1 {x y : Str} {v : V} (h : ∀ H, Da K H v d) : DX K p S cc H0 σ (tDisp [(tC (.str x), tDisp [(tC (.str y), tC v)])]) (.dict [(.str x, .dict [(.str y, d)])]) := fun H a Q g hp ha q r hr r2 hr2 => by
  have n : r2 ≠ r := fun z => by rw [z, upd_same] at hr2; cases hr2
  have hr2' : H r2 = none := by rw [upd_ne n] at hr2; exact hr2
  refine ⟨upd_same, [(Sum.inr y, v)], rfl, Nat.le_add_left 1 14, ?_⟩
  rw [upd_twice]
  refine ⟨by rw [upd_ne (Ne.symm n)]; exact upd_same, [(Sum.inr x, .ref r2)], rfl, Nat.le_add_left 1 14, ?_⟩
  rw [show mergeK [] [((Sum.inr x : Key), V.ref r2)] = [(Sum.inr x, V.ref r2)] from rfl, show mergeK [] [((Sum.inr y : Key), v)] = [(Sum.inr y, v)] from rfl, upd_comm n]
  have g1 := Ge.new (o := .dK [((Sum.inr y : Key), v)]) hr2'
  have hp1 := hp.ge g1
  have hr1 : upd H r2 (.dK [((Sum.inr y : Key), v)]) r = none := by rw [upd_ne (Ne.symm n)]; exact hr
  have g2 := Ge.new (o := .dK [(Sum.inr x, V.ref r2)]) hr1
  exact q (.ref r) _ _ (GeP.of (g1.trans g2)) (hp1.ge g2) (.dct (kvs := [(Sum.inr x, .ref r2)]) (Or.inl (w_new hp1 hr1)) (by simp) (.cons ((geW g2).da (.dct (kvs := [(Sum.inr y, v)]) (Or.inl (w_new hp hr2')) (by simp) (.cons (h _) .nil))) .nil)) rfl
end
end Pr
set_option maxRecDepth 100000
set_option maxHeartbeats 4000000
/-! what is no keymap -/
namespace Pr
open PySem PySem.Spec PyProof.Rows L2 GxR Gx Rp Dl Pd Tx
def swB (n dp : Nat) (d : PyData) : Bool := d.showable && decide (d.shown.length ≤ n) && decide (d.depth ≤ dp) && small d
theorem sw_cl {d : PyData} {n dp : Nat} (h : swB n dp d = true) : Sw d n dp := by
  unfold swB at h
  rw [Bool.and_eq_true, Bool.and_eq_true, Bool.and_eq_true] at h
  exact ⟨⟨h.1.1.1, of_decide_eq_true h.1.1.2, of_decide_eq_true h.1.2⟩, h.2⟩
section
variable {f o c l w d x : PyData} {fs : List PyData} {cs : List (PyData × PyData)}
theorem im_w (h : isWithin 1 1000 d = false) : isMap (.tuple [f, o, c, l, d]) = false := by
  simp [isMap, h]
theorem im_l (h : areLayers (itemsT f) (itemsD c) d = false) : isMap (.tuple [f, o, c, d, w]) = false := by
  simp [isMap, h]
theorem im_c (h : areCommands (itemsT f) d = false) : isMap (.tuple [f, o, d, l, w]) = false := by
  simp [isMap, h]
theorem im_o (h : areOutside (itemsT f) d = false) : isMap (.tuple [f, d, c, l, w]) = false := by
  simp [isMap, h]
theorem im_f (h : areFlags d = false) : isMap (.tuple [d, o, c, l, w]) = false := by
  simp [isMap, h]
theorem lay_one (h : isBinding fs cs d = false) : areLayers fs cs (.tuple [.tuple [d]]) = false := by
  simp [areLayers, itemsT, h]
theorem lay_two (h : isBinding fs cs d = false) : areLayers fs cs (.tuple [.tuple [x, d]]) = false := by
  simp [areLayers, itemsT, h]
theorem bind_k (h : isKeys d = false) : isBinding fs cs (.tuple [d, c, w]) = false := by
  simp [isBinding, h]
theorem bind_s (h : areSettings fs d = false) : isBinding fs cs (.tuple [x, d, w]) = false := by
  simp [isBinding, h]
theorem bind_c (h : cmdOk cs d = false) : isBinding fs cs (.tuple [x, c, d]) = false := by
  simp [isBinding, h]
theorem set_zz (h : memS fs (.str "zz") = false) : areSettings fs (.dict [(.str "zz", d)]) = false := by
  simp [areSettings, h]
theorem cmd_zz (h : memC cs (.str "zz") = false) : cmdOk cs (.str "zz") = false := by
  simp [cmdOk, h]
theorem cmds_1 (h : isName x = false) : areCommands fs (.dict [(x, d)]) = false := by
  simp [areCommands, h]
theorem cmds_2 (h : areSettings fs d = false) : areCommands fs (.dict [(x, d)]) = false := by
  simp [areCommands, h]
theorem out_zz {gs : List PyData} (h : memS fs (.str "zz") = false) : areOutside fs (.tuple (gs ++ [.str "zz"])) = false := by
  simp [areOutside, h]
theorem lay_17 (h : 16 < (List.replicate (17 : Int).toNat [d]).flatten.length) : areLayers fs cs (.tuple [.tuple (List.replicate (17 : Int).toNat [d]).flatten]) = false := by
  simp [areLayers, lenT]
end
end Pr
set_option maxRecDepth 100000
set_option maxHeartbeats 2000000
/-! t[::s] of a tuple, s one or minus one -/
namespace Zt
open PySem PySem.Spec PyProof.Rows L2 GxR Gx Rp Dl HT
section
variable {prog : Program} {w : World} {A : Around} {E : Value → Shared → Prop} {s : Shared}
theorem applied_one {sl : Addr} {vl vu : Value} {t : Tok} {n : Nat} {Q : Int × Int × Nat → Shared → Prop} (hs : s.heap.IsSliceOf sl vl vu (.int 1 t)) (pl : IsPart vl none) (pu : IsPart vu none)
    (h : Q (0, 1, n) s) : wpAny (model prog w) A (Builtin.Slice.sliceApplied (.ref sl) (pure (n : Int))) Q E s := by
  obtain ⟨os, hos, hcs, hds⟩ := id hs
  unfold Builtin.Slice.sliceApplied Builtin.Slice.sliceFields
  refine wpAny_bind (wpAny_bind (wpAny_field hos hds (x := vl) rfl (wpAny_bind (wpAny_field hos hds (x := vu) rfl (wpAny_bind (wpAny_field hos hds (x := .int 1 t) rfl (wpAny_pure ?_)))))))
  refine wpAny_bind (slicePart_ (IsPart.int 1 t) ?_)
  show wpAny _ _ (if ((1 : Int) == 0) = true then _ else _) _ _ s
  rw [if_neg (by decide)]
  refine wpAny_bind (slicePart_ pl (wpAny_bind (slicePart_ pu (wpAny_bind (wpAny_pure ?_)))))
  show wpAny _ _ (match Builtin.Slice.sliceAdjust none none 1 (n : Int) with | (lo, hi) => pure (lo, (1 : Int), Builtin.Slice.slicePlaces lo hi 1)) _ _ s
  rw [adjust_gen none none n]
  show wpAny _ _ (pure (((sIx n 0 none : Nat) : Int), (1 : Int), Builtin.Slice.slicePlaces ((sIx n 0 none : Nat) : Int) ((sIx n n none : Nat) : Int) 1)) _ _ s
  rw [places_gen]
  exact wpAny_pure h
theorem applied_back {sl : Addr} {vl vu : Value} {t : Tok} {n : Nat} {Q : Int × Int × Nat → Shared → Prop} (hs : s.heap.IsSliceOf sl vl vu (.int (-1) t)) (pl : IsPart vl none) (pu : IsPart vu none)
    (h : Q ((n : Int) - 1, -1, n) s) : wpAny (model prog w) A (Builtin.Slice.sliceApplied (.ref sl) (pure (n : Int))) Q E s := by
  obtain ⟨os, hos, hcs, hds⟩ := id hs
  unfold Builtin.Slice.sliceApplied Builtin.Slice.sliceFields
  refine wpAny_bind (wpAny_bind (wpAny_field hos hds (x := vl) rfl (wpAny_bind (wpAny_field hos hds (x := vu) rfl (wpAny_bind (wpAny_field hos hds (x := .int (-1) t) rfl (wpAny_pure ?_)))))))
  refine wpAny_bind (slicePart_ (IsPart.int (-1) t) ?_)
  show wpAny _ _ (if ((-1 : Int) == 0) = true then _ else _) _ _ s
  rw [if_neg (by decide)]
  refine wpAny_bind (slicePart_ pl (wpAny_bind (slicePart_ pu (wpAny_bind (wpAny_pure ?_)))))
  show wpAny _ _ (match Builtin.Slice.sliceAdjust none none (-1) (n : Int) with | (lo, hi) => pure (lo, (-1 : Int), Builtin.Slice.slicePlaces lo hi (-1))) _ _ s
  have e1 : Builtin.Slice.sliceAdjust none none (-1) (n : Int) = ((n : Int) - 1, -1) := rfl
  rw [e1]
  show wpAny _ _ (pure ((n : Int) - 1, (-1 : Int), Builtin.Slice.slicePlaces ((n : Int) - 1) (-1) (-1))) _ _ s
  have e2 : Builtin.Slice.slicePlaces ((n : Int) - 1) (-1) (-1) = n := by
    unfold Builtin.Slice.slicePlaces
    rw [if_neg (by decide)]
    by_cases h0 : ((n : Int) - 1) > -1
    · rw [if_pos h0, show (-(-1) : Int) = 1 from rfl, Int.ediv_one]
      omega
    · rw [if_neg h0]
      omega
  rw [e2]
  exact wpAny_pure h
theorem filterMap_all {α β : Type} {f : α → Option β} {g : α → β} : ∀ l : List α, (∀ m ∈ l, f m = some (g m)) → l.filterMap f = l.map g
  | [], _ => rfl
  | x :: r, h => by
    rw [List.filterMap_cons, h x List.mem_cons_self, List.map_cons, filterMap_all r fun m hm => h m (List.mem_cons_of_mem _ hm)]
theorem pick_back (xs : List Value) : ((List.range xs.length).filterMap fun (m : Nat) => xs.toArray[(((xs.length : Nat) : Int) - 1 + (m : Int) * (-1)).toNat]?).toArray = xs.reverse.toArray := by
  congr 1
  have e : ∀ m ∈ List.range xs.length, xs.toArray[(((xs.length : Nat) : Int) - 1 + (m : Int) * (-1)).toNat]? = some (xs.reverse[m]?.getD .none) := fun m hm => by
    have hm' := List.mem_range.mp hm
    have e1 : (((xs.length : Nat) : Int) - 1 + (m : Int) * (-1)).toNat = xs.length - 1 - m := by omega
    rw [e1, List.getElem?_reverse hm']
    simp only [List.getElem?_toArray]
    rw [List.getElem?_eq_getElem (by omega)]
    rfl
  refine List.ext_getElem? fun i => ?_
  have f : (List.range xs.length).filterMap (fun (m : Nat) => xs.toArray[(((xs.length : Nat) : Int) - 1 + (m : Int) * (-1)).toNat]?) = (List.range xs.length).map fun m => xs.reverse[m]?.getD .none := by
    exact filterMap_all _ e
  rw [f, List.getElem?_map]
  by_cases hi : i < xs.length
  · rw [List.getElem?_range hi]
    have : i < xs.reverse.length := by rw [List.length_reverse]; exact hi
    rw [Option.map_some, List.getElem?_eq_getElem this]
    rfl
  · have h1 : (List.range xs.length)[i]? = none := List.getElem?_eq_none (by rw [List.length_range]; omega)
    have h2 : xs.reverse[i]? = none := List.getElem?_eq_none (by rw [List.length_reverse]; omega)
    rw [h1, h2]
    rfl
theorem getItem_tuple_step {t sl : Addr} {items : List Value} {vl vu vs : Value} {st : Int} {tk : Tok} {Q : Value → Shared → Prop} (ht : IsTup s.heap t items.toArray) (hs : s.heap.IsSliceOf sl vl vu (.int st tk)) (pl : IsPart vl none) (pu : IsPart vu none) (hst : st = 1 ∨ st = -1)
    (h1 : st = 1 → Q (.ref t) s) (h2 : st = -1 → Q (.ref s.heap.objs.size) { s with heap := s.heap.push { cls := .type "tuple", data := .seq items.reverse.toArray } })
    (hsz : items.length ≤ sizeLine) : wpAny (model prog w) A (getItem (.ref t) (.ref sl)) Q E s := by
  have htake : sizeOk (.seq items.reverse.toArray) := by
    show items.reverse.toArray.size ≤ sizeLine
    rw [List.size_toArray, List.length_reverse]
    exact hsz
  have hsize : items.toArray.size = items.length := List.size_toArray
  obtain ⟨os, hos, hcs, hds⟩ := id hs
  have hTs : s.TypeIs (.ref sl) "slice" := ⟨os, hos, hcs⟩
  unfold getItem
  try with_reducible refine wpAny_holding ?_
  first | refine wpAny_bind (wpAny_pure ?_) | skip
  refine wpAny_bind (wpAny_sequenceKey ht.typeIs (by decide) ?_)
  refine wpAny_bind (wpAny_callSpecial?_slot (name := Str.ofString "__getitem__") ht.typeIs PyProof.Rows.slot_tuple_getitem
    (wpAny_call_entry PyProof.Rows.slot_tuple_getitem ht.typeIs entry_tuple_getitem ?_ (args_tuple_getitem _ _)))
  show wpAny _ _ (Builtin.Tuple.tupleItemsOf (.ref t) >>= _) _ _ s
  refine wpAny_bind (tupleItemsOf_ ht ?_)
  refine wpAny_bind (wpAny_typeOf hTs ?_)
  rw [if_pos (by decide)]
  rcases hst with rfl | rfl
  · refine wpAny_bind (applied_one (n := items.toArray.size) hs pl pu ?_)
    have hyes : (((0 : Int)) == 0 && (1 : Int) == 1 && items.toArray.size == items.toArray.size) = true := by simp
    show wpAny _ _ (if (((0 : Int)) == 0 && (1 : Int) == 1 && items.toArray.size == items.toArray.size) = true then _ else _) _ _ s
    rw [if_pos hyes]
    refine wpAny_bind ?_
    show wpAny _ _ (typeOf (.ref t) >>= fun T => pure (T == .type "tuple")) _ _ s
    refine wpAny_bind (wpAny_typeOf ht.typeIs (wpAny_pure ?_))
    first
      | rw [if_pos (by decide)]
      | simp only [beq_self_eq_true, if_true]
    first
      | exact wpAny_bind (wpAny_rule (wpAny_pure ⟨_, rfl, wpAny_pure (h1 rfl)⟩))
      | exact wpAny_bind (wpAny_rule (wpAny_bind (wpAny_pure (wpAny_pure ⟨_, rfl, wpAny_pure (h1 rfl)⟩))))
  · refine wpAny_bind (applied_back (n := items.toArray.size) hs pl pu ?_)
    have hno : ¬ ((((items.toArray.size : Nat) : Int) - 1 == 0 && (-1 : Int) == 1 && items.toArray.size == items.toArray.size) = true) := by simp
    show wpAny _ _ (if (((items.toArray.size : Nat) : Int) - 1 == 0 && (-1 : Int) == 1 && items.toArray.size == items.toArray.size) = true then _ else _) _ _ s
    have h := h2 rfl
    rw [if_neg hno, hsize, pick_back]
    first
      | exact wpAny_bind (m := Builtin.Tuple.tupleExact _) (wpAny_newObj_type (wpAny_pure ⟨_, rfl, wpAny_pure h⟩) htake)
      | exact wpAny_bind (m := Builtin.Tuple.tupleExact _) (wpAny_newObj_type (wpAny_bind (wpAny_pure (wpAny_pure ⟨_, rfl, wpAny_pure h⟩))) htake)
      | exact wpAny_bind (wpAny_bind (m := Builtin.Tuple.tupleExact _) (wpAny_newObj_type (wpAny_pure (wpAny_pure ⟨_, rfl, wpAny_pure h⟩)) htake))
      | exact wpAny_bind (wpAny_bind (m := Builtin.Tuple.tupleExact _) (wpAny_newObj_type (wpAny_pure ⟨_, rfl, wpAny_pure h⟩) htake))
end
def tStepT (K : PySem.W.Frag) (te : TE) (ts : TO) : TE := fun σ H Q => te σ H fun x H1 => ts σ H1 fun o H2 => ∃ a xs i, x = .ref a ∧ o = some i ∧ (i = 1 ∨ i = -1) ∧ SqT K H2 a xs ∧ (i = 1 → Q (.ref a) H2) ∧ (i = -1 → ∀ p, H2 p = none → Q (.ref p) (upd H2 p (.tup xs.reverse)))
theorem pe_stepT {X : Cx} {e st : Expr} {te : TE} {ts : TO} {p2 pos : Pos} (he : PE X e te) (hs : PO X (some st) ts) : PE X (.Subscript e (.Slice none none (some st) p2) pos) (tStepT X.K te ts) := by
  refine ⟨fun pins s σ H Q I h => ?_⟩
  refine Subscript_ (thn (he.run pins s σ H _ I h) fun v s1 ⟨x, H1, I1, r1, q1⟩ => ?_)
  refine wpAny_Slice (thn (po_none.run pins s1 σ H1 (fun o H2 => o = none ∧ H2 = H1) I1 ⟨rfl, rfl⟩) fun vl s2 ⟨l, H2, I2, pl, el, e2⟩ => ?_)
  subst el e2
  refine thn (po_none.run pins s2 σ H2 (fun o H3 => o = none ∧ H3 = H2) I2 ⟨rfl, rfl⟩) fun vu s3 ⟨u, H3, I3, pu, eu, e3⟩ => ?_
  subst eu e3
  refine thn (hs.run pins s3 σ H3 _ I3 q1) fun vs s4 ⟨o, H4, I4, ps, a, xs, i, ex, eo, hi, hx, qa, qb⟩ => ?_
  subst ex eo
  cases r1
  cases ps with
  | int _ tk =>
    have I5 : Inv X pins σ H4 { s4 with heap := s4.heap.push { cls := .type "slice", data := .fields #[vl, vu, .int i tk] } } := I4.kept (t' := s4.toks) fun b ob q => Heap.get?_push_of_some _ q
    obtain ⟨its, r, ht, hz⟩ := I5.tuple hx
    have hlen := r.length
    show wpAny (model X.prog X.w) X.A (subscriptTail e (.Slice none none (some st) p2) (.ref a) (.ref s4.heap.objs.size)) (EP X pins σ Q) X.xe { s4 with heap := s4.heap.push { cls := .type "slice", data := .fields #[vl, vu, .int i tk] } }
    refine tail_any (ops := [.ref a, .ref s4.heap.objs.size]) ht.typeIs (PyProof.Rows.slot_tuple_getitem.lookup) ?_ (by with_unfolding_all rfl)
    refine getItem_tuple_step (vs := .none) ht (Heap.IsSliceOf.new _ vl vu (.int i tk)) pl pu hi (fun e => ⟨.ref a, H4, I5, rfl, qa e⟩) (fun e => ?_) (by rw [← hlen]; exact hz)
    refine ⟨.ref _, _, I5.laid (t' := s4.toks) (o := .tup xs.reverse) (fun b ob q => Heap.get?_push_of_some _ q) (Nat.le_refl _) ?_, rfl, qb e _ (I5.hok.fresh (Nat.le_refl _))⟩
    exact ⟨by rw [List.length_reverse]; exact hz, _, r.reverse, IsTup.new _ _⟩
end Zt
/-! kit any_: effects -/
set_option maxRecDepth 100000
set_option maxHeartbeats 4000000
namespace Pr
open PySem PySem.Spec PyProof.Rows L2 GxR Gx Rp Dl Pd Tx Zq Zs Zt
theorem rd_updT {H : Hp} {c d : Addr} {o : HO} {xs : List V} {kvs : List (Key × V)} (h : Rd H c (.tup xs)) (hd : H d = some (.dK kvs)) : Rd (upd H d o) c (.tup xs) := by
  have n : c ≠ d := fun z => by
    subst z
    have e := rd_one (fun o w z => by cases z) (fun o w z => by cases z) h (Or.inl hd)
    cases e
  rcases h with h | ⟨u, h⟩
  · exact Or.inl (by rw [upd_ne n]; exact h)
  · exact Or.inr ⟨u, by rw [upd_ne n]; exact h⟩
section
variable {P : Program} {w : World} {K : PySem.W.Frag} {mg : Str → Option Value} {base : Heap} {T : List Addr}
def spEffB (K : PySem.W.Frag) : Sp := fun vs H Q _ => ∃ (p cc t : Addr) (a : Nat) (fl : List Str), vs = [.ref p, .ref t] ∧ PenAt H p cc a ∧ a + 4 ≤ 100000 ∧ Rd H t (.tup (fl.map V.str)) ∧ fl.Nodup ∧ fl.length ≤ 3 ∧ ∀ H' d, GeP p H H' → PenAt H' p cc (a + 4) → Eff H' (.ref d) fl → Nw H d → Q (.ref d) H'
abbrev nAEff : List Str := ["_law_pen", "_law_flags", "_law_found", "_law_flag", "_law_way"]
theorem scAEff : FnScope nAEff ["_law_pen", "_law_flags"] (defScope s_law_any_effect) := ⟨rfl, rfl, rfl, by decide +kernel, rfl, by decide +kernel, by decide +kernel⟩
theorem ok_law_any_effect {f c : Addr} {fd : FuncData} (F : FunC K "_law_any_effect" s_law_any_effect f fd c) (D : DfP P w K mg base 2 "_law_take" ["_law_pen", "_law_many"] spTake) : FnOk P w K mg base CX0 3 f fd ["_law_pen", "_law_flags"] (spEffB K) := by
  refine F.ok scAEff (fun vs H Q E ⟨_, _, _, _, _, h, _⟩ => by rw [h]; rfl) (fun A outer s H vs Q E hr h => ?_)
  obtain ⟨p, cc, t, a, fl, rfl, hp, ha, ht, hnd, hl3, q⟩ := h
  have hu := hu_of hr
  refine ⟨_, pss_cons (ps_asg pe_dnewK (pg_name (i := 2) scAEff.nd rfl (Or.inl rfl)))
    (pss_cons (ps_for PassesOwn.never rfl (pi_tup (pe_stepT (pv 1) (po_some (pe_op op_sub pe_int (pe_op op_mul pe_int (pcall D (hr.mono (by decide)) pass0 rfl (pa_cons (pv 0) (pa_cons pe_int pa_nil)))))))) (pg_name (i := 3) scAEff.nd rfl (Or.inl rfl))
      (pss_cons (ps_asg (pcall D (hr.mono (by decide)) pass0 rfl (pa_cons (pv 0) (pa_cons pe_int pa_nil))) (pg_name (i := 4) scAEff.nd rfl (Or.inl rfl)))
      (pss_one (ps_if (pt_cmpR op_lt (pv 4) pe_int (nomark _)) (pss_one (ps_dput hu (pv 2) (pv 3) (pe_cmp (pc_eqI (pv 4) pe_int)) rfl)) pss_nil))))
    (pss_one (ps_ret (pv 2)))), ?_⟩
  intro d hd
  obtain ⟨px, hpx⟩ := hp.lst
  have hdp : d ≠ p := fun z => by rw [z, hpx] at hd; cases hd
  have hp0 := hp.ge (Ge.new (o := .dK []) hd)
  refine ⟨_, rfl, _, rfl, p, cc, 2, a, rfl, hp0, by omega, by decide, by decide, fun H0 r0 g0 hp1' r00 r01 => ⟨_, _, rfl, rfl, cmul_l ⟨by decide, by decide⟩, _, _, rfl, rfl, _, rfl, t, fl.map V.str, _, rfl, rfl, by omega, ?_⟩⟩
  have gd0 : GeP p H H0 := (GeP.of (Ge.new hd)).trans g0
  have ht0 : Rd H0 t (.tup (fl.map V.str)) := gd0.rd hpx (fun ps q => by cases q) (fun ys q => by cases q) ht
  have hd0 : H0 d = some (.dK []) := g0.1 d _ hdp upd_same (fun ps z => by cases z)
  obtain ⟨zs, hzs⟩ := hp1'.lst
  refine ⟨Or.inl ht0, fun e => ?_, fun e c0 hc0 => ?_⟩
  · obtain ⟨ms, gH3, hp3, hd3, hc, mnd, mmem, ml, hpx3⟩ : ∃ ms : List Str, GeP p H H0 ∧ PenAt H0 p cc (a + 1) ∧ H0 d = some (.dK []) ∧ Rd H0 t (.tup (ms.map V.str)) ∧ ms.Nodup ∧ (∀ f, f ∈ ms ↔ f ∈ fl) ∧ ms.length = fl.length ∧ H0 p = some (.lst zs) := ⟨fl, gd0, hp1', hd0, ht0, hnd, fun _ => Iff.rfl, rfl, hzs⟩
    refine ⟨t, rfl, ⟨_, Or.inl hc⟩, for_tup (K := K) (a := t) (xs := ms.map V.str) (fun i σ H' => i ≤ ms.length ∧ GeP p H H' ∧ PenAt H' p cc (a + 1 + i) ∧ (∃ kvs, H' d = some (.dK kvs) ∧ (kvs.map (·.1)).Nodup ∧ (∀ kv ∈ kvs, ∃ f b, kv = (.inr f, .bl b) ∧ f ∈ ms.take i) ∧ kvs.length ≤ i) ∧ Rd H' t (.tup (ms.map V.str)) ∧ ∃ x y, σ = [some (.ref p), some (.ref t), some (.ref d), x, y])
      ⟨Nat.zero_le _, gH3, hp3, ⟨[], hd3, List.nodup_nil, (fun kv z => by cases z), Nat.le_refl _⟩, hc, _, _, rfl⟩ (fun i σ H' _ z => Or.inl z.2.2.2.2.1) ?_ ?_⟩
    · rintro i x σ H1 hx ⟨hi, g, hp1, ⟨kvs, k1, k2, k3, k4⟩, g3, x0, y0, rfl⟩
      rw [List.getElem?_map] at hx
      cases hz : ms[i]? with
      | none => rw [hz] at hx; cases hx
      | some fg =>
        rw [hz] at hx
        cases hx
        have hi' : i < ms.length := (List.getElem?_eq_some_iff.mp hz).1
        have hmem : fg ∈ ms.take (i + 1) := by
          rw [List.take_succ, hz]
          simp
        have sub : ∀ f ∈ ms.take i, f ∈ ms.take (i + 1) := fun f hf => by
          rw [List.take_succ]
          exact List.mem_append_left _ hf
        refine ⟨_, rfl, p, cc, 3, a + 1 + i, rfl, hp1, by omega, by omega, by omega, fun H2 r g2 hp2 r0 r1 => ⟨_, rfl, _, _, rfl, rfl, _, rfl, ite2 (fun _ => ?_) fun _ => ?_⟩⟩
        · have k1' : H2 d = some (.dK kvs) := g2.1 d _ hdp k1 (fun ps z => by cases z)
          have fresh : (Sum.inr fg : Key) ∉ kvs.map (·.1) := fun z => by
            obtain ⟨kv, hm, e⟩ := List.mem_map.mp z
            obtain ⟨f, b, e2, hf⟩ := k3 kv hm
            rw [e2] at e
            cases e
            exact take_fresh mnd hz hf
          refine ⟨_, rfl, r, 1, rfl, rfl, _, rfl, _, rfl, d, _, rfl, DPut.k (k := Sum.inr fg) k1' (Nat.lt_of_le_of_lt k4 (Nat.lt_of_lt_of_le hi' (Nat.le_trans (by rw [ml]; exact hl3) (by decide)))), ?_⟩
          refine ⟨hi', (g.trans g2).upd (Nw.none hd), hp2.upd (hp.fresh hd).1 (hp.fresh hd).2, ⟨_, upd_same, ?_, ?_, ?_⟩, ?_, _, _, rfl⟩
          · rw [putK_app fresh, List.map_append, List.nodup_append]
            refine ⟨k2, by simp, fun x hx y hy e => ?_⟩
            simp at hy
            subst hy
            subst e
            exact fresh hx
          · intro kv hk
            rw [putK_app fresh] at hk
            rcases List.mem_append.mp hk with hk | hk
            · obtain ⟨f, b, e, hf⟩ := k3 kv hk
              exact ⟨f, b, e, sub f hf⟩
            · simp at hk
              exact ⟨fg, _, hk, hmem⟩
          · rw [putK_app fresh, List.length_append]
            simp
            omega
          · exact rd_updT (g2.rd hp1.lst.choose_spec (fun ps z => by cases z) (fun ys z => by cases z) g3) k1'
        · exact ⟨hi', g.trans g2, hp2, ⟨kvs, g2.1 d _ hdp k1 (fun ps z => by cases z), k2, fun kv hk => by
            obtain ⟨f, b, e, hf⟩ := k3 kv hk
            exact ⟨f, b, e, sub f hf⟩, by omega⟩, g2.rd hp1.lst.choose_spec (fun ps z => by cases z) (fun ys z => by cases z) g3, _, _, rfl⟩
    · rintro σ H1 ⟨hi, g, hp1, ⟨kvs, k1, k2, k3, k4⟩, g3, x0, y0, rfl⟩
      rw [List.length_map] at *
      exact ⟨_, rfl, q H1 _ g (hp1.mono (by omega)) ⟨d, kvs, rfl, k1, k2, fun kv hk => by
        obtain ⟨f, b, e, hf⟩ := k3 kv hk
        exact ⟨f, b, e, (mmem f).mp (List.mem_of_mem_take hf)⟩, by rw [← ml]; exact k4⟩ (Nw.none hd)⟩

  · have gc := Ge.new (o := .tup (fl.map V.str).reverse) hc0
    obtain ⟨ms, gH3, hp3, hd3, hc, mnd, mmem, ml, hpx3⟩ : ∃ ms : List Str, GeP p H (upd H0 c0 (.tup (fl.map V.str).reverse)) ∧ PenAt (upd H0 c0 (.tup (fl.map V.str).reverse)) p cc (a + 1) ∧ upd H0 c0 (.tup (fl.map V.str).reverse) d = some (.dK []) ∧ Rd (upd H0 c0 (.tup (fl.map V.str).reverse)) c0 (.tup (ms.map V.str)) ∧ ms.Nodup ∧ (∀ f, f ∈ ms ↔ f ∈ fl) ∧ ms.length = fl.length ∧ upd H0 c0 (.tup (fl.map V.str).reverse) p = some (.lst zs) :=
      ⟨fl.reverse, gd0.trans (GeP.of gc), hp1'.ge gc, gc.dk hd0, Or.inl (by rw [List.map_reverse]; exact upd_same), List.pairwise_reverse.mpr (hnd.imp Ne.symm), fun f => List.mem_reverse, List.length_reverse, gc.1 p _ hzs (fun ps z => by cases z)⟩
    generalize upd H0 c0 (.tup (fl.map V.str).reverse) = H3 at *
    refine ⟨c0, rfl, ⟨_, Or.inl hc⟩, for_tup (K := K) (a := c0) (xs := ms.map V.str) (fun i σ H' => i ≤ ms.length ∧ GeP p H H' ∧ PenAt H' p cc (a + 1 + i) ∧ (∃ kvs, H' d = some (.dK kvs) ∧ (kvs.map (·.1)).Nodup ∧ (∀ kv ∈ kvs, ∃ f b, kv = (.inr f, .bl b) ∧ f ∈ ms.take i) ∧ kvs.length ≤ i) ∧ Rd H' c0 (.tup (ms.map V.str)) ∧ ∃ x y, σ = [some (.ref p), some (.ref t), some (.ref d), x, y])
      ⟨Nat.zero_le _, gH3, hp3, ⟨[], hd3, List.nodup_nil, (fun kv z => by cases z), Nat.le_refl _⟩, hc, _, _, rfl⟩ (fun i σ H' _ z => Or.inl z.2.2.2.2.1) ?_ ?_⟩
    · rintro i x σ H1 hx ⟨hi, g, hp1, ⟨kvs, k1, k2, k3, k4⟩, g3, x0, y0, rfl⟩
      rw [List.getElem?_map] at hx
      cases hz : ms[i]? with
      | none => rw [hz] at hx; cases hx
      | some fg =>
        rw [hz] at hx
        cases hx
        have hi' : i < ms.length := (List.getElem?_eq_some_iff.mp hz).1
        have hmem : fg ∈ ms.take (i + 1) := by
          rw [List.take_succ, hz]
          simp
        have sub : ∀ f ∈ ms.take i, f ∈ ms.take (i + 1) := fun f hf => by
          rw [List.take_succ]
          exact List.mem_append_left _ hf
        refine ⟨_, rfl, p, cc, 3, a + 1 + i, rfl, hp1, by omega, by omega, by omega, fun H2 r g2 hp2 r0 r1 => ⟨_, rfl, _, _, rfl, rfl, _, rfl, ite2 (fun _ => ?_) fun _ => ?_⟩⟩
        · have k1' : H2 d = some (.dK kvs) := g2.1 d _ hdp k1 (fun ps z => by cases z)
          have fresh : (Sum.inr fg : Key) ∉ kvs.map (·.1) := fun z => by
            obtain ⟨kv, hm, e⟩ := List.mem_map.mp z
            obtain ⟨f, b, e2, hf⟩ := k3 kv hm
            rw [e2] at e
            cases e
            exact take_fresh mnd hz hf
          refine ⟨_, rfl, r, 1, rfl, rfl, _, rfl, _, rfl, d, _, rfl, DPut.k (k := Sum.inr fg) k1' (Nat.lt_of_le_of_lt k4 (Nat.lt_of_lt_of_le hi' (Nat.le_trans (by rw [ml]; exact hl3) (by decide)))), ?_⟩
          refine ⟨hi', (g.trans g2).upd (Nw.none hd), hp2.upd (hp.fresh hd).1 (hp.fresh hd).2, ⟨_, upd_same, ?_, ?_, ?_⟩, ?_, _, _, rfl⟩
          · rw [putK_app fresh, List.map_append, List.nodup_append]
            refine ⟨k2, by simp, fun x hx y hy e => ?_⟩
            simp at hy
            subst hy
            subst e
            exact fresh hx
          · intro kv hk
            rw [putK_app fresh] at hk
            rcases List.mem_append.mp hk with hk | hk
            · obtain ⟨f, b, e, hf⟩ := k3 kv hk
              exact ⟨f, b, e, sub f hf⟩
            · simp at hk
              exact ⟨fg, _, hk, hmem⟩
          · rw [putK_app fresh, List.length_append]
            simp
            omega
          · exact rd_updT (g2.rd hp1.lst.choose_spec (fun ps z => by cases z) (fun ys z => by cases z) g3) k1'
        · exact ⟨hi', g.trans g2, hp2, ⟨kvs, g2.1 d _ hdp k1 (fun ps z => by cases z), k2, fun kv hk => by
            obtain ⟨f, b, e, hf⟩ := k3 kv hk
            exact ⟨f, b, e, sub f hf⟩, by omega⟩, g2.rd hp1.lst.choose_spec (fun ps z => by cases z) (fun ys z => by cases z) g3, _, _, rfl⟩
    · rintro σ H1 ⟨hi, g, hp1, ⟨kvs, k1, k2, k3, k4⟩, g3, x0, y0, rfl⟩
      rw [List.length_map] at *
      exact ⟨_, rfl, q H1 _ g (hp1.mono (by omega)) ⟨d, kvs, rfl, k1, k2, fun kv hk => by
        obtain ⟨f, b, e, hf⟩ := k3 kv hk
        exact ⟨f, b, e, (mmem f).mp (List.mem_of_mem_take hf)⟩, by rw [← ml]; exact k4⟩ (Nw.none hd)⟩

end
end Pr
set_option maxRecDepth 100000
set_option maxHeartbeats 4000000
/-! kit any_: keys -/
namespace Pr
open PySem PySem.Spec PyProof.Rows L2 GxR Gx Rp Dl Pd Tx Zq Zs Zt
section
variable {P : Program} {w : World} {K : PySem.W.Frag} {mg : Str → Option Value} {base : Heap} {T : List Addr}
abbrev nAKeys : List Str := ["_law_pen", "_law_letters", "_law_size", "_law_turn"]
theorem scAKeys : FnScope nAKeys ["_law_pen", "_law_letters"] (defScope s_law_any_keys) := ⟨rfl, rfl, rfl, by decide +kernel, rfl, by decide +kernel, by decide +kernel⟩
theorem ok_law_any_keys {f c : Addr} {fd : FuncData} (F : FunC K "_law_any_keys" s_law_any_keys f fd c) (B : Bn mg) (D : DfP P w K mg base 2 "_law_take" ["_law_pen", "_law_many"] spTake) : FnOk P w K mg base CX0 3 f fd ["_law_pen", "_law_letters"] spKeys := by
  refine F.ok scAKeys (fun vs H Q E ⟨_, _, _, _, h, _⟩ => by rw [h]; rfl) (fun A outer s H vs Q E hr h => ?_)
  obtain ⟨p, cc, a, z, rfl, hp, ha, ⟨hz1, hz2, hz3⟩, q⟩ := h
  refine ⟨_, pss_cons (ps_asg (pe_ix ix_list (pe_lst (pa_cons pe_int (pa_cons pe_int (pa_cons pe_int (pa_cons pe_int (pa_cons pe_int (pa_cons pe_int pa_nil))))))) (pcall D (hr.mono (by decide)) pass0 rfl (pa_cons (pv 0) (pa_cons pe_int pa_nil))) (fun _ _ => rfl)) (pg_name (i := 2) scAKeys.nd rfl (Or.inl rfl)))
    (pss_one (ps_ret (pe_join pe_str (pe_lc (own := [("_law_turn", 3)]) (g := gName 3) (tt := tYes) rfl scAKeys.nd (pi_range1 rfl B.range (pa_cons (pv 2) pa_nil)) (blkOk_by (N := nAKeys) (sc := defScope s_law_any_keys) (by decide +kernel)) (fun _ _ _ _ _ => (pg_name (i := 3) scAKeys.nd rfl (Or.inl rfl))) (fun _ _ _ _ _ => pts_nil) (fun _ _ _ _ _ => (pe_ix ix_str (pv 1) (pcall D (hr.mono (by decide)) pass0 rfl (pa_cons (pv 0) (pa_cons (pe_callB call_len_str rfl B.len PySem.boot_len (pa_cons (pv 1) pa_nil)) pa_nil))) (fun _ _ => rfl))))))), ?_⟩
  have hs : z.length ≤ sizeLine := Nat.le_trans hz2 (by decide)
  refine ⟨by decide, fun l hl => ⟨_, rfl, p, cc, 6, a, rfl, hp.ge (Ge.new hl), by omega, by decide, by decide, fun H1 r g1 hp1 r0 r1 => ?_⟩⟩
  obtain ⟨v, hv, e⟩ := any_at (xs := ([1, 2, 2, 3, 3, 4] : List Nat).map (fun n : Nat => V.int (n : Int))) r0 r1
  obtain ⟨n, hn, rfl⟩ := List.mem_map.mp hv
  have n1 : 1 ≤ n ∧ n ≤ 4 := by
    simp at hn
    omega
  have hl1 := g1.1 l _ (hp.fresh hl).1 upd_same (fun ps z => by cases z)
  refine ⟨l, _, r, _, rfl, rfl, SqL.of hl1, e, ?_⟩
  have g1' := (GeP.of (p := p) (Ge.new hl)).trans g1
  refine ⟨⟨_, rfl⟩, _, rfl, (n : Int), rfl, by omega, by omega, fun L hL => ?_⟩
  rw [Int.toNat_natCast]
  have hLp := hp1.fresh hL
  have hnw := g1'.nw hL hLp.1
  refine lc_range (lo := 0) (n := n) (fun i H' => i ≤ n ∧ GeP p H H' ∧ PenAt H' p cc (a + 1 + i) ∧ ∃ cs : List Nat, H' L = some (.lst ((cs.map fun c => (⟨#[c]⟩ : Str)).map V.str)) ∧ cs.length = i ∧ ∀ c ∈ cs, isCh c = true)
    ⟨Nat.zero_le _, g1'.upd hnw, hp1.upd hLp.1 hLp.2, [], upd_same, rfl, fun c hc => by cases hc⟩ ?_ ?_
  · rintro i H2 hi ⟨_, g2, hp2, cs, k1, k2, k3⟩
    refine ⟨rfl, _, rfl, _, rfl, _, rfl, z, rfl, hs, p, cc, _, a + 1 + i, rfl, hp2, by omega, by omega, by omega, fun H3 r g3 hp3 r0 r1 => ?_⟩
    obtain ⟨c, hc0, e⟩ := any_at (xs := z.cps.toList) r0 (by simpa [Str.length] using r1)
    have hc : isCh c = true := List.all_eq_true.mp hz3 c hc0
    have k1' := g3.1 L _ hLp.1 k1 (fun ps z => by cases z)
    refine ⟨z, r, c, rfl, rfl, hs, e, _, k1', ?_, hi, (g2.trans g3).upd hnw, hp3.upd hLp.1 hLp.2, cs ++ [c], ?_, ?_, ?_⟩
    · rw [List.length_map, List.length_map, k2]
      exact Nat.lt_of_lt_of_le hi (Nat.le_trans n1.2 (by decide))
    · rw [upd_same, List.map_append, List.map_append]
      rfl
    · rw [List.length_append, k2]
      rfl
    · intro e he
      rcases List.mem_append.mp he with he | he
      · exact k3 e he
      · rw [List.mem_singleton.mp he]
        exact hc
  · rintro H2 ⟨_, g2, hp2, cs, k1, k2, k3⟩
    have el : (Txt.join (Str.ofString "") (cs.map fun c => (⟨#[c]⟩ : Str))).length = n := by
      rw [← k2]
      show (Txt.join (Str.ofString "") (cs.map fun c => (⟨#[c]⟩ : Str))).cps.size = cs.length
      rw [← Array.length_toList, join_signs]
    refine ⟨Str.ofString "", L, cs.map fun c => (⟨#[c]⟩ : Str), rfl, rfl, Or.inl (SqL.of k1), ?_, q H2 _ g2 (hp2.mono (by omega)) (by omega) (by omega) ?_⟩
    · have e1 : ((cs.map fun c => (⟨#[c]⟩ : Str)).map (·.length)).sum = cs.length := by
        rw [List.map_map]
        have : ((fun x : Str => x.length) ∘ fun c : Nat => (⟨#[c]⟩ : Str)) = fun _ => 1 := rfl
        rw [this, List.map_const', List.sum_replicate_nat]
        simp
      have e2 : (Str.ofString "").length = 0 := rfl
      rw [e1, e2]
      omega
    · unfold letters
      rw [join_signs]
      exact List.all_eq_true.mpr k3
end
end Pr
set_option maxRecDepth 100000
set_option maxHeartbeats 4000000
/-! kit any_: the form -/
namespace Pr
open PySem PySem.Spec PyProof.Rows L2 GxR Gx Rp Dl Pd Tx Zq Zs Zt
section
variable {P : Program} {w : World} {K : PySem.W.Frag} {mg : Str → Option Value} {base : Heap} {T : List Addr}
theorem Eff.updD {H : Hp} {c d : Addr} {fl : List Str} {o : HO} (e : Eff H (.ref d) fl) (n : d ≠ c) : Eff (upd H c o) (.ref d) fl := by
  obtain ⟨d', kvs, e1, e2, e3⟩ := e
  cases e1
  exact ⟨d, kvs, rfl, by rw [upd_ne n]; exact e2, e3⟩
theorem Nw.ne {H : Hp} {c d : Addr} {o : HO} (n : Nw H d) (h : H c = some o) (t : ∀ ps, o ≠ .tbl ps) : d ≠ c := fun z => by
  subst z
  obtain ⟨ps, e⟩ := n.1 o h
  exact t ps e
theorem cut_flags (n : Nat) (h : n ≤ 3) : cutV (FLAGS.map V.str) none (some (n : Int)) = (FLAGS.take n).map V.str := by
  match n, h with
  | 0, _ => rfl
  | 1, _ => rfl
  | 2, _ => rfl
  | 3, _ => rfl
theorem cut_names (n : Nat) (h : n ≤ 4) : cutV (NAMES.map V.str) none (some (n : Int)) = (NAMES.take n).map V.str := by
  match n, h with
  | 0, _ => rfl
  | 1, _ => rfl
  | 2, _ => rfl
  | 3, _ => rfl
  | 4, _ => rfl
/-- flags, outside, commands -/
def FormAt (H : Hp) (F t o cd : Addr) (fl ol ns : List Str) : Prop := H F = some (.tup [.ref t, .ref o, .ref cd]) ∧ Rd H t (.tup (fl.map V.str)) ∧ Rd H o (.tup (ol.map V.str)) ∧ fl.Sublist FLAGS ∧ ol.Sublist fl ∧ ns.Sublist NAMES ∧ Cmd H cd ns fl
theorem FormAt.gp {p : Addr} {H H' : Hp} {F t o cd : Addr} {fl ol ns : List Str} {xs : List V} (h : FormAt H F t o cd fl ol ns) (g : GeP p H H') (hp : H p = some (.lst xs)) : FormAt H' F t o cd fl ol ns :=
  ⟨g.1 F _ (fun z => by have e := h.1; rw [z, hp] at e; cases e) h.1 (fun ps z => by cases z), g.rd hp (fun ps z => by cases z) (fun ys z => by cases z) h.2.1, g.rd hp (fun ps z => by cases z) (fun ys z => by cases z) h.2.2.1, h.2.2.2.1, h.2.2.2.2.1, h.2.2.2.2.2.1, h.2.2.2.2.2.2.gp g hp⟩
def spForm : Sp := fun vs H Q _ => ∃ (p cc : Addr) (a : Nat), vs = [.ref p] ∧ PenAt H p cc a ∧ a + 30 ≤ 100000 ∧ ∀ H' F t o cd fl ol ns, GeP p H H' → PenAt H' p cc (a + 30) → FormAt H' F t o cd fl ol ns → Q (.ref F) H'
abbrev nAForm : List Str := ["_law_pen", "_law_flags", "_law_outside", "_law_commands", "_law_name", "_law_flag"]
theorem scAForm : FnScope nAForm ["_law_pen"] (defScope s_law_any_form) := ⟨rfl, rfl, rfl, by decide +kernel, rfl, by decide +kernel, by decide +kernel⟩
theorem ok_law_any_form {f c : Addr} {fd : FuncData} (F : FunC K "_law_any_form" s_law_any_form f fd c) (B : Bn mg) (D2 : DfP P w K mg base 3 "_law_any_effect" ["_law_pen", "_law_flags"] (spEffB K)) (D3 : DfP P w K mg base 2 "_law_take" ["_law_pen", "_law_many"] spTake) : FnOk P w K mg base CX0 4 f fd ["_law_pen"] spForm := by
  refine F.ok scAForm (fun vs H Q E ⟨_, _, _, h, _⟩ => by rw [h]; rfl) (fun A outer s H vs Q E hr h => ?_)
  obtain ⟨p, cc, a, rfl, hp, ha, q⟩ := h
  have hu := hu_of hr
  refine ⟨_, pss_cons (ps_asg (pe_slice sl_tupA (pe_tup (pa_cons pe_str (pa_cons pe_str (pa_cons pe_str pa_nil)))) po_none (po_some (pcall D3 (hr.mono (by decide)) pass0 rfl (pa_cons (pv 0) (pa_cons pe_int pa_nil))))) (pg_name (i := 1) scAForm.nd rfl (Or.inl rfl)))
    (pss_cons (ps_asg (pe_callTy call_tuple_of rfl B.tuple bt_tuple (pa_cons (pe_lc (own := [("_law_flag", 5)]) (g := gName 5) rfl scAForm.nd (pi_tup (pv 1)) (blkOk_by (N := nAForm) (sc := defScope s_law_any_form) (by decide +kernel)) (fun _ _ _ _ _ => (pg_name (i := 5) scAForm.nd rfl (Or.inl rfl))) (fun _ _ _ _ _ => pts_one (pt_cmpR op_eq (pcall D3 (hr.mono (by decide)) pass0 rfl (pa_cons (pv 0) (pa_cons pe_int pa_nil))) pe_int (nomark _))) (fun _ _ _ _ _ => (pv 5))) pa_nil)) (pg_name (i := 2) scAForm.nd rfl (Or.inl rfl)))
    (pss_cons (ps_asg pe_dnewK (pg_name (i := 3) scAForm.nd rfl (Or.inl rfl)))
    (pss_cons (ps_for PassesOwn.never rfl (pi_list (pe_slice sl_list (pe_lst (pa_cons pe_str (pa_cons pe_str (pa_cons pe_str (pa_cons pe_str pa_nil))))) po_none (po_some (pe_op op_add pe_int (pcall D3 (hr.mono (by decide)) pass0 rfl (pa_cons (pv 0) (pa_cons pe_int pa_nil))))))) (pg_name (i := 4) scAForm.nd rfl (Or.inl rfl))
      (pss_one (ps_dput hu (pv 3) (pv 4) (pcall D2 (hr.mono (by decide)) pass0 rfl (pa_cons (pv 0) (pa_cons (pv 1) pa_nil))) rfl)))
    (pss_one (ps_ret (pe_tup (pa_cons (pv 1) (pa_cons (pv 2) (pa_cons (pv 3) pa_nil))))))))), ?_⟩
  refine ⟨(by decide : 3 ≤ sizeLine), fun t0 ht0 => ?_⟩
  have g0 := Ge.new (o := .tup (FLAGS.map V.str)) ht0
  refine ⟨_, rfl, p, cc, 4, a, rfl, hp.ge g0, by omega, by decide, by decide, fun H1 r g1 hp1 r0 r1 => ⟨r, rfl, ?_⟩⟩
  have ht1 := g1.rd (hp.ge g0).lst.choose_spec (u := .tup (FLAGS.map V.str)) (fun ps z => by cases z) (fun ys z => by cases z) (Or.inl upd_same : Rd _ t0 _)
  have g01 := (GeP.of (p := p) g0).trans g1
  obtain ⟨n, rfl⟩ := Int.eq_ofNat_of_zero_le r0
  have n3 : n ≤ 3 := by omega
  refine rd_slA ht1 fun H2 t g2 ht => ?_
  rw [cut_flags n n3] at ht
  have hp2 := hp1.ge g2
  have g02 := g01.trans (GeP.of g2)
  have hfl : (FLAGS.take n).Sublist FLAGS := List.take_sublist _ _
  have l3 : (FLAGS.take n).length ≤ 3 := by rw [List.length_take]; omega
  generalize FLAGS.take n = fl at *
  clear ht1 g01
  refine ⟨_, rfl, t, rfl, ⟨_, Or.inl ht⟩, fun D2' hD2 => ?_⟩
  refine filt (xs := fl) (i := 5) (a := a + 1) (cc := cc) (p := p) (walk_list_tup fl) hD2 hp2 (by show 5 < 6; decide) (by omega) (fun H' g => Or.inl (g.rd hp2.lst.choose_spec (fun ps z => by cases z) (fun ys z => by cases z) ht)) (fun x H' k hk g hp' R hR => ?_) (fun H3 ol hol g3 hp3 k3 => ?_)
  · exact ⟨_, rfl, p, cc, 3, a + 1 + k, rfl, hp', by omega, by decide, by decide, fun H4 r g4 hp4 _ _ => ⟨rfl, _, rfl, hR _ _ g4 hp4⟩⟩
  refine ⟨D2', _, rfl, Or.inl ⟨SqL.of k3, fun o ho => ?_⟩⟩
  have g3o := Ge.new (o := .tup (ol.map V.str)) ho
  have ht3 := g3o.rd (fun ps z => by cases z) (g3.rd hp2.lst.choose_spec (fun ps z => by cases z) (fun ys z => by cases z) ht)
  have ho3 : Rd (upd H3 o (.tup (ol.map V.str))) o (.tup (ol.map V.str)) := Or.inl upd_same
  have hp3' := (hp3.ge g3o).mono (show a + 1 + fl.length ≤ a + 4 by omega)
  have g03 := (g02.trans g3).trans (GeP.of g3o)
  generalize upd H3 o (.tup (ol.map V.str)) = H4 at *
  clear g3 k3 hD2 hp2 g3o
  intro cd hcd
  have gcd := Ge.new (o := .dK []) hcd
  have fcd := hp3'.fresh hcd
  refine ⟨(by decide : 4 ≤ sizeLine), fun l5 hl5 => ?_⟩
  have gl5 := Ge.new (o := .lst (NAMES.map V.str)) hl5
  refine ⟨_, rfl, p, cc, 4, a + 4, rfl, (hp3'.ge gcd).ge gl5, by omega, by decide, by decide, fun H5 r g5 hp5 r0' r1' => ⟨_, _, rfl, rfl, 1 + r, rfl, l5, NAMES.map V.str, rfl, ?_, fun l6 hl6 => ?_⟩⟩
  · exact SqL.of (g5.1 l5 _ ((hp3'.ge gcd).fresh hl5).1 upd_same (fun ps z => by cases z))
  obtain ⟨m, hm⟩ : ∃ m : Nat, 1 + r = m := ⟨(1 + r).toNat, by omega⟩
  have m4 : m ≤ 4 := by omega
  rw [hm, cut_names m m4]
  have hns : (NAMES.take m).Sublist NAMES := List.take_sublist _ _
  have n4 : (NAMES.take m).length ≤ 4 := by rw [List.length_take]; omega
  have nnd : (NAMES.take m).Nodup := nd_names.sublist hns
  generalize NAMES.take m = ns at *
  have g46 : GeP p H4 (upd H5 l6 (.lst (ns.map V.str))) := (((GeP.of gcd).trans (GeP.of gl5)).trans g5).trans (GeP.of (Ge.new hl6))
  have ncd : cd ≠ p := fcd.1
  have hcd6 : upd H5 l6 (.lst (ns.map V.str)) cd = some (.dK []) := (Ge.new hl6).1 cd _ (g5.1 cd _ ncd (gl5.1 cd _ upd_same (fun ps z => by cases z)) (fun ps z => by cases z)) (fun ps z => by cases z)
  have hl66 : upd H5 l6 (.lst (ns.map V.str)) l6 = some (.lst (ns.map V.str)) := upd_same
  have hp6 := hp5.ge (Ge.new (o := .lst (ns.map V.str)) hl6)
  have w4 := hp3'.lst.choose_spec
  have ht6 := g46.rd w4 (fun ps z => by cases z) (fun ys z => by cases z) ht3
  have ho6 := g46.rd w4 (fun ps z => by cases z) (fun ys z => by cases z) ho3
  have nl6 : l6 ≠ p := (hp5.fresh hl6).1
  have fnd : fl.Nodup := nd_flags.sublist hfl
  have g06 := g03.trans g46
  have nwcd : Nw H cd := g03.nw hcd fcd.1
  generalize upd H5 l6 (.lst (ns.map V.str)) = H6 at *
  refine ⟨l6, rfl, ⟨_, SqL.of hl66⟩, for_list (K := K) (xs := ns.map V.str) (fun k σ H' => k ≤ ns.length ∧ GeP p H H' ∧ PenAt H' p cc (a + 5 + 4 * k) ∧ Rd H' t (.tup (fl.map V.str)) ∧ Rd H' o (.tup (ol.map V.str)) ∧ H' l6 = some (.lst (ns.map V.str)) ∧ (∃ kvs, H' cd = some (.dK kvs) ∧ kvs.map (·.1) = (ns.take k).map Sum.inr ∧ ∀ kv ∈ kvs, ∃ d, kv.2 = .ref d ∧ d ≠ cd ∧ Eff H' (.ref d) fl) ∧ ∃ x4, σ = [some (.ref p), some (.ref t), some (.ref o), some (.ref cd), x4, none])
    ⟨Nat.zero_le _, g06, hp6, ht6, ho6, hl66, ⟨[], hcd6, rfl, fun kv z => by cases z⟩, _, rfl⟩ (fun k σ H' _ z => SqL.of z.2.2.2.2.2.1) ?_ ?_⟩
  · rintro k x σ H7 hx ⟨hk, g7, hp7, ht7, ho7, hl7, ⟨kvs, k1, k2, k3⟩, x4, rfl⟩
    rw [List.getElem?_map] at hx
    cases ez : ns[k]? with
    | none => rw [ez] at hx; cases hx
    | some y =>
      rw [ez] at hx
      cases hx
      have hk' : k < ns.length := (List.getElem?_eq_some_iff.mp ez).1
      have w7 := hp7.lst.choose_spec
      refine ⟨_, rfl, _, rfl, p, cc, t, _, fl, rfl, hp7, by omega, ht7, fnd, l3, fun H8 d g8 hp8 ef nwd => ?_⟩
      have k8 := g8.1 cd _ ncd k1 (fun ps z => by cases z)
      have dcd : d ≠ cd := nwd.ne k1 (fun ps z => by cases z)
      have kl : kvs.length = k := by
        have := congrArg List.length k2
        rw [List.length_map, List.length_map, List.length_take] at this
        omega
      have fresh : (Sum.inr y : Key) ∉ kvs.map (·.1) := fun z => by
        rw [k2] at z
        obtain ⟨y', hy', e⟩ := List.mem_map.mp z
        cases e
        exact take_fresh nnd ez hy'
      refine ⟨_, rfl, _, rfl, cd, _, rfl, DPut.k (k := Sum.inr y) k8 (by rw [kl]; exact Nat.lt_of_lt_of_le hk' (Nat.le_trans n4 (by decide))), hk', (g7.trans g8).upd nwcd, (hp8.upd ncd fcd.2).mono (by omega), rd_updT (g8.rd w7 (fun ps z => by cases z) (fun ys z => by cases z) ht7) k8, rd_updT (g8.rd w7 (fun ps z => by cases z) (fun ys z => by cases z) ho7) k8, ?_, ⟨_, upd_same, ?_, fun kv hkv => ?_⟩, _, rfl⟩
      · have e7 := g8.1 l6 _ nl6 hl7 (fun ps z => by cases z)
        rw [upd_ne (fun z => by rw [z, k8] at e7; cases e7)]
        exact e7
      · rw [putK_app fresh, List.map_append, k2, List.take_succ, ez, List.map_append]
        rfl
      · rw [putK_app fresh] at hkv
        rcases List.mem_append.mp hkv with hkv | hkv
        · obtain ⟨d', e1, e2, e3⟩ := k3 kv hkv
          exact ⟨d', e1, e2, (e3.gp g8 w7).updD e2⟩
        · rw [List.mem_singleton.mp hkv]
          exact ⟨d, rfl, dcd, ef.updD dcd⟩
  · rintro σ H7 ⟨hk, g7, hp7, ht7, ho7, hl7, ⟨kvs, k1, k2, k3⟩, x4, rfl⟩
    rw [List.length_map, List.take_length] at k2
    rw [List.length_map] at hp7
    have gF := fun (F : Addr) (h : H7 F = none) => Ge.new (o := .tup [.ref t, .ref o, .ref cd]) h
    have keyn : ∀ kv ∈ kvs, ∃ n, kv.1 = Sum.inr n ∧ n ∈ ns := fun kv hkv => by
      have : kv.1 ∈ kvs.map (·.1) := List.mem_map.mpr ⟨kv, hkv, rfl⟩
      rw [k2] at this
      obtain ⟨n, hn, e⟩ := List.mem_map.mp this
      exact ⟨n, e.symm, hn⟩
    refine ⟨_, rfl, _, rfl, _, rfl, (by decide : 3 ≤ sizeLine), fun F hF => q _ F t o cd fl ol ns (g7.trans (GeP.of (gF F hF))) ((hp7.mono (by omega)).ge (gF F hF)) ⟨upd_same, (gF F hF).rd (fun ps z => by cases z) ht7, (gF F hF).rd (fun ps z => by cases z) ho7, hfl, hol, hns, kvs, (gF F hF).dk k1, ?_, fun kv hkv => ?_, fun n hn => ?_, ?_⟩⟩
    · rw [k2]
      exact List.pairwise_map.mpr (nnd.imp fun h z => h (Sum.inr.inj z))
    · obtain ⟨n, e, hn⟩ := keyn kv hkv
      obtain ⟨d, e1, _, e3⟩ := k3 kv hkv
      exact ⟨n, kv.2, Prod.ext e rfl, hn, by rw [e1]; exact e3.ge (gF F hF)⟩
    · have : (Sum.inr n : Key) ∈ kvs.map (·.1) := by rw [k2]; exact List.mem_map.mpr ⟨n, hn, rfl⟩
      obtain ⟨kv, hkv, e⟩ := List.mem_map.mp this
      exact ⟨kv.2, by rw [← e]; exact hkv⟩
    · have := congrArg List.length k2
      rw [List.length_map, List.length_map] at this
      omega
end
end Pr
set_option maxRecDepth 100000
set_option maxHeartbeats 4000000
/-! kit any_: bindings -/
namespace Pr
open PySem PySem.Spec PyProof.Rows L2 GxR Gx Rp Dl Pd Tx Zq Zs Zt
section
variable {P : Program} {w : World} {K : PySem.W.Frag} {mg : Str → Option Value} {base : Heap} {T : List Addr}
def spBndB : Sp := fun vs H Q _ => ∃ (p cc F t o cd : Addr) (a : Nat) (fl ol ns : List Str) (z : Str), vs = [.ref p, .ref F, .str z] ∧ PenAt H p cc a ∧ a + 12 ≤ 100000 ∧ FormAt H F t o cd fl ol ns ∧ LetS z ∧ ∀ H' v, GeP p H H' → PenAt H' p cc (a + 12) → Bnd H' v fl ns → Q v H'
abbrev nABnd : List Str := ["_law_pen", "_law_form", "_law_letters", "_law_condition", "_law_names"]
theorem scABnd : FnScope nABnd ["_law_pen", "_law_form", "_law_letters"] (defScope s_law_any_binding) := ⟨rfl, rfl, rfl, by decide +kernel, rfl, by decide +kernel, by decide +kernel⟩
theorem ok_law_any_binding {f c : Addr} {fd : FuncData} (F : FunC K "_law_any_binding" s_law_any_binding f fd c) (B : Bn mg) (hso : mg "sorted" = none) (D1 : DfP P w K mg base 3 "_law_any_keys" ["_law_pen", "_law_letters"] spKeys) (D2 : DfP P w K mg base 3 "_law_any_effect" ["_law_pen", "_law_flags"] (spEffB K)) (D3 : DfP P w K mg base 2 "_law_take" ["_law_pen", "_law_many"] spTake) (D4 : DfP P w K mg base 3 "_law_one_of" ["_law_pen", "_law_some"] spPick) : FnOk P w K mg base CX0 4 f fd ["_law_pen", "_law_form", "_law_letters"] spBndB := by
  refine F.ok scABnd (fun vs H Q E ⟨_, _, _, _, _, _, _, _, _, _, _, h, _⟩ => by rw [h]; rfl) (fun A outer s H vs Q E hr h => ?_)
  obtain ⟨p, cc, F, t, o, cd, a, fl, ol, ns, z, rfl, hp, ha, fm, hz, q⟩ := h
  refine ⟨_, pss_cons (ps_asg (pe_ifExp (pt_cmpR op_eq (pcall D3 (hr.mono (by decide)) pass0 rfl (pa_cons (pv 0) (pa_cons pe_int pa_nil))) pe_int (nomark _)) (pcall D2 (hr.mono (by decide)) pass0 rfl (pa_cons (pv 0) (pa_cons (pe_ix ix_tup (pv 1) pe_int (fun _ _ => rfl)) pa_nil))) pe_dnewK) (pg_name (i := 3) scABnd.nd rfl (Or.inl rfl)))
    (pss_cons (ps_asg (pe_op op_cat (pe_op op_rep (pe_callB (call_sortedD rfl) rfl hso (by decide +kernel) (pa_cons (pe_ix ix_tup (pv 1) pe_int (fun _ _ => rfl)) pa_nil)) pe_int) (pe_lst (pa_cons pe_non pa_nil))) (pg_name (i := 4) scABnd.nd rfl (Or.inl rfl)))
    (pss_one (ps_ret (pe_tup (pa_cons (pcall D1 (hr.mono (by decide)) pass0 rfl (pa_cons (pv 0) (pa_cons (pv 2) pa_nil))) (pa_cons (pv 3) (pa_cons (pcall D4 (hr.mono (by decide)) pass0 rfl (pa_cons (pv 0) (pa_cons (pv 4) pa_nil))) pa_nil))))))), ?_⟩
  have fnd : fl.Nodup := nd_flags.sublist fm.2.2.2.1
  have l3 : fl.length ≤ 3 := fm.2.2.2.1.length_le
  dsimp only [gName]
  refine seq_of (fun σ' H' => GeP p H H' ∧ PenAt H' p cc (a + 5) ∧ FormAt H' F t o cd fl ol ns ∧ ∃ v, Eff H' v fl ∧ σ' = [some (.ref p), some (.ref F), some (.str z), some v, none]) (fun D' hD' => ?_) ?_
  · refine ⟨_, rfl, p, cc, 2, a, rfl, hp, by omega, by decide, by decide, fun H1 r g1 hp1 _ _ => ⟨rfl, _, rfl, ?_⟩⟩
    have w0 := hp.lst.choose_spec
    have fm1 := fm.gp g1 w0
    refine ite2 (fun _ => ?_) fun _ => ?_
    · refine ⟨_, rfl, _, rfl, F, _, _, _, rfl, rfl, SqT.of fm1.1, atI_nat (j := 0) rfl, p, cc, t, _, fl, rfl, hp1, by omega, fm1.2.1, fnd, l3, fun H2 d g2 hp2 ef _ => hD' _ _ ⟨g1.trans g2, hp2.mono (by omega), fm1.gp g2 hp1.lst.choose_spec, _, ef, rfl⟩⟩
    · intro d hd
      have gd := Ge.new (o := .dK []) hd
      exact hD' _ _ ⟨g1.trans (GeP.of gd), (hp1.ge gd).mono (by omega), fm1.gp (GeP.of gd) hp1.lst.choose_spec, _, ⟨d, [], rfl, upd_same, List.nodup_nil, (fun kv z => by cases z), Nat.zero_le _⟩, rfl⟩
  · rintro σ' H1 ⟨g1, hp1, fm1, v, ef, rfl⟩
    obtain ⟨kvs, c1, c2, c3, c4, c5⟩ := fm1.2.2.2.2.2.2
    obtain ⟨ks, k1, k2⟩ : ∃ ks : List Str, kvs.map (·.1) = ks.map Sum.inr ∧ ∀ n ∈ ks, n ∈ ns := by
      clear c1 c2 c4 c5
      induction kvs with
      | nil => exact ⟨[], rfl, fun n h => by cases h⟩
      | cons kv r ih =>
        obtain ⟨ks, h1, h2⟩ := ih fun kv' h' => c3 kv' (List.mem_cons_of_mem _ h')
        obtain ⟨n, v, e, hn, _⟩ := c3 kv List.mem_cons_self
        refine ⟨n :: ks, by rw [List.map_cons, List.map_cons, h1, e], fun m hm => ?_⟩
        rcases List.mem_cons.mp hm with rfl | hm
        · exact hn
        · exact h2 m hm
    have kl : ks.length ≤ 5 := by
      have := congrArg List.length k1
      rw [List.length_map, List.length_map] at this
      omega
    refine ⟨_, rfl, F, _, _, _, rfl, rfl, SqT.of fm1.1, atI_nat (j := 2) rfl, cd, kvs, ks, rfl, Or.inl c1, k1, by omega, fun ys y0 hperm _ hy0 => ?_⟩
    have yl : ys.length ≤ 5 := by rw [hperm.length_eq]; exact kl
    have g0 := Ge.new (o := .lst (ys.map V.str)) hy0
    refine ⟨y0, 3, _, rfl, rfl, upd_same, by decide, by decide, by rw [List.length_map]; exact Nat.le_trans (Nat.mul_le_mul yl (by decide : (3 : Int).toNat ≤ 3)) (by decide), fun y1 hy1 => ?_⟩
    have g01 := g0.trans (Ge.new (o := .lst (List.replicate (3 : Int).toNat (ys.map V.str)).flatten) hy1)
    refine ⟨(by decide : 1 ≤ sizeLine), fun y2 hy2 => ?_⟩
    have g02 := g01.trans (Ge.new (o := .lst [.non]) hy2)
    have e1 := (Ge.new (o := .lst [.non]) hy2).1 y1 _ (upd_same (H := upd H1 y0 (.lst (ys.map V.str)))) (fun ps z => by cases z)
    have len3 : (List.replicate (3 : Int).toNat (ys.map V.str)).flatten.length = 3 * ys.length := by
      show (ys.map V.str ++ (ys.map V.str ++ (ys.map V.str ++ []))).length = _
      simp only [List.length_append, List.length_map, List.length_nil]
      omega
    refine ⟨y1, y2, _, [.non], rfl, rfl, e1, upd_same, by rw [len3]; show 3 * ys.length + 1 ≤ sizeLine; exact Nat.le_trans (show _ ≤ 16 by omega) (by decide), fun y3 hy3 => ?_⟩
    have g03 := g02.trans (Ge.new (o := .lst ((List.replicate (3 : Int).toNat (ys.map V.str)).flatten ++ [.non])) hy3)
    have hp3 := hp1.ge g03
    have w1 := hp1.lst.choose_spec
    have y3p : y3 ≠ p := ((hp1.ge g02).fresh hy3).1
    have mem : ∀ v ∈ (List.replicate (3 : Int).toNat (ys.map V.str)).flatten ++ [V.non], v = .non ∨ ∃ n ∈ ns, v = .str n := fun v hv => by
      rcases List.mem_append.mp hv with hv | hv
      · obtain ⟨l, hl, hv⟩ := List.mem_flatten.mp hv
        rw [(List.mem_replicate.mp hl).2] at hv
        obtain ⟨n, hn, rfl⟩ := List.mem_map.mp hv
        exact Or.inr ⟨n, k2 n (hperm.mem_iff.mp hn), rfl⟩
      · exact Or.inl (List.mem_singleton.mp hv)
    have e3 : upd (upd (upd (upd H1 y0 (.lst (ys.map V.str))) y1 (.lst (List.replicate (3 : Int).toNat (ys.map V.str)).flatten)) y2 (.lst [.non])) y3 (.lst ((List.replicate (3 : Int).toNat (ys.map V.str)).flatten ++ [.non])) y3 = some (.lst ((List.replicate (3 : Int).toNat (ys.map V.str)).flatten ++ [.non])) := upd_same
    have ef3 := ef.ge g03
    generalize upd (upd (upd (upd H1 y0 (.lst (ys.map V.str))) y1 (.lst (List.replicate (3 : Int).toNat (ys.map V.str)).flatten)) y2 (.lst [.non])) y3 (.lst ((List.replicate (3 : Int).toNat (ys.map V.str)).flatten ++ [.non])) = H3 at *
    refine ⟨_, rfl, _, rfl, p, cc, _, z, rfl, hp3, by omega, hz, fun H4 x g4 hp4 x1 x4 xl => ⟨_, rfl, _, rfl, _, rfl, p, cc, _, _, fun v => v = .non ∨ ∃ n ∈ ns, v = .str n, rfl, hp4, by omega, Or.inl ⟨y3, _, rfl, y3p, g4.1 y3 _ y3p e3 (fun ps z => by cases z), by rw [List.length_append]; exact Nat.succ_pos _, by rw [List.length_append, len3]; show 3 * ys.length + 1 ≤ _; omega, mem⟩, fun H5 m g5 hp5 hm => ⟨(by decide : 3 ≤ sizeLine), fun b hb => ?_⟩⟩⟩
    have g35 := g4.trans g5
    exact q _ _ (((g1.trans (GeP.of g03)).trans g35).trans (GeP.of (Ge.new hb))) ((hp5.mono (by omega)).ge (Ge.new hb)) ⟨b, x, v, m, rfl, upd_same, x1, x4, xl, (ef3.gp g35 hp3.lst.choose_spec).ge (Ge.new hb), hm⟩
end
end Pr
set_option maxRecDepth 100000
set_option maxHeartbeats 4000000
/-! kit any_: keymaps -/
namespace Pr
open PySem PySem.Spec PyProof.Rows L2 GxR Gx Rp Dl Pd Tx Zq Zs Zt
section
variable {P : Program} {w : World} {K : PySem.W.Frag} {mg : Str → Option Value} {base : Heap} {T : List Addr}
/-- a keymap under way -/
structure StB (H0 H : Hp) (p cc : Addr) (a : Nat) (F t o cd : Addr) (fl ol ns : List Str) : Prop where
  g : GeP p H0 H
  pen : PenAt H p cc a
  fm : FormAt H F t o cd fl ol ns
variable {H0 H H' : Hp} {p cc D F t o cd : Addr} {a b : Nat} {fl ol ns : List Str} {ys zs : List V}
theorem StB.gp (S : StB H0 H p cc a F t o cd fl ol ns) (g : GeP p H H') (hp : PenAt H' p cc b) : StB H0 H' p cc b F t o cd fl ol ns := ⟨S.g.trans g, hp, S.fm.gp g S.pen.lst.choose_spec⟩
theorem StB.ge (S : StB H0 H p cc a F t o cd fl ol ns) (g : Ge H H') : StB H0 H' p cc a F t o cd fl ol ns := S.gp (GeP.of g) (S.pen.ge g)
theorem StB.updL (S : StB H0 H p cc a F t o cd fl ol ns) (hD : H D = some (.lst ys)) (h1 : D ≠ p) (h2 : D ≠ cc) (h4 : Nw H0 D) : StB H0 (upd H D (.lst zs)) p cc a F t o cd fl ol ns := ⟨S.g.upd h4, S.pen.upd h1 h2, S.fm.gp (GeP.set (p := D) hD) hD⟩
theorem StB.mono (S : StB H0 H p cc a F t o cd fl ol ns) (h : a ≤ b) : StB H0 H p cc b F t o cd fl ol ns := ⟨S.g, S.pen.mono h, S.fm⟩
theorem StB.lst (S : StB H0 H p cc a F t o cd fl ol ns) : H p = some (.lst S.pen.lst.choose) := S.pen.lst.choose_spec
def spMapB : Sp := fun vs H Q _ => ∃ (p cc F t o cd : Addr) (a : Nat) (fl ol ns : List Str) (z : Str), vs = [.ref p, .ref F, .str z] ∧ PenAt H p cc a ∧ a + 300 ≤ 100000 ∧ FormAt H F t o cd fl ol ns ∧ LetS z ∧ ∀ H' v, GeP p H H' → PenAt H' p cc (a + 300) → MapH H' v → Q v H'
abbrev nAMap : List Str := ["_law_pen", "_law_form", "_law_letters", "_law_layers", "_law_most", "_law_turn", "_law_layer", "_law_wait"]
theorem scAMap : FnScope nAMap ["_law_pen", "_law_form", "_law_letters"] (defScope s_law_any_map) := ⟨rfl, rfl, rfl, by decide +kernel, rfl, by decide +kernel, by decide +kernel⟩
theorem ok_law_any_map {f c : Addr} {fd : FuncData} (F : FunC K "_law_any_map" s_law_any_map f fd c) (B : Bn mg) (D3 : DfP P w K mg base 2 "_law_take" ["_law_pen", "_law_many"] spTake) (D4 : DfP P w K mg base 3 "_law_one_of" ["_law_pen", "_law_some"] spPick) (D5 : DfP P w K mg base 4 "_law_any_binding" ["_law_pen", "_law_form", "_law_letters"] spBndB) : FnOk P w K mg base CX0 5 f fd ["_law_pen", "_law_form", "_law_letters"] spMapB := by
  refine F.ok scAMap (fun vs H Q E ⟨_, _, _, _, _, _, _, _, _, _, _, h, _⟩ => by rw [h]; rfl) (fun A outer s H vs Q E hr h => ?_)
  obtain ⟨p, cc, F, t, o, cd, a, fl, ol, ns, lt, rfl, hp, ha, fm, hlt, q⟩ := h
  refine ⟨_, pss_cons (ps_par (i := 3) (j := 4) rfl scAMap.nd rfl rfl (by decide) rfl rfl (pa_cons (pe_lst pa_nil) (pa_cons (pe_ix ix_list (pe_lst (pa_cons pe_int (pa_cons pe_int (pa_cons pe_int (pa_cons pe_int (pa_cons pe_int (pa_cons pe_int pa_nil))))))) (pcall D3 (hr.mono (by decide)) pass0 rfl (pa_cons (pv 0) (pa_cons pe_int pa_nil))) (fun _ _ => rfl)) pa_nil)) rfl)
    (pss_cons (ps_for PassesOwn.never rfl (pi_range1 rfl B.range (pa_cons (pe_op op_add pe_int (pcall D3 (hr.mono (by decide)) pass0 rfl (pa_cons (pv 0) (pa_cons pe_int pa_nil)))) pa_nil)) (pg_name (i := 5) scAMap.nd rfl (Or.inl rfl))
      (pss_one (ps_expr (pe_bm PySem.F.plainAttrs_list PySem.F.slot_list_append PySem.F.type_list_append mt_append (pv 3) (pa_cons (pe_lst pa_nil) pa_nil)))))
    (pss_cons (ps_for PassesOwn.never rfl (pi_range1 rfl B.range (pa_cons (pcall D3 (hr.mono (by decide)) pass0 rfl (pa_cons (pv 0) (pa_cons (pv 4) pa_nil))) pa_nil)) (pg_name (i := 5) scAMap.nd rfl (Or.inl rfl))
      (pss_cons (ps_asg (pcall D4 (hr.mono (by decide)) pass0 rfl (pa_cons (pv 0) (pa_cons (pv 3) pa_nil))) (pg_name (i := 6) scAMap.nd rfl (Or.inl rfl)))
      (pss_one (ps_expr (pe_bm PySem.F.plainAttrs_list PySem.F.slot_list_append PySem.F.type_list_append mt_append (pv 6) (pa_cons (pcall D5 (hr.mono (by decide)) pass0 rfl (pa_cons (pv 0) (pa_cons (pv 1) (pa_cons (pv 2) pa_nil)))) pa_nil))))))
    (pss_cons (ps_asg (pe_ix ix_list (pe_lst (pa_cons pe_int (pa_cons pe_int (pa_cons pe_int (pa_cons pe_int (pa_cons pe_int (pa_cons pe_int (pa_cons pe_int pa_nil)))))))) (pcall D3 (hr.mono (by decide)) pass0 rfl (pa_cons (pv 0) (pa_cons pe_int pa_nil))) (fun _ _ => rfl)) (pg_name (i := 7) scAMap.nd rfl (Or.inl rfl)))
    (pss_one (ps_ret (pe_op op_catA (pv 1) (pe_tup (pa_cons (pe_callTy call_tuple_of rfl B.tuple bt_tuple (pa_cons (pe_lc (own := [("_law_layer", 6)]) (g := gName 6) (tt := tYes) rfl scAMap.nd (pi_list (pv 3)) (blkOk_by (N := nAMap) (sc := defScope s_law_any_map) (by decide +kernel)) (fun _ _ _ _ _ => (pg_name (i := 6) scAMap.nd rfl (Or.inl rfl))) (fun _ _ _ _ _ => pts_nil) (fun _ _ _ _ _ => (pe_callTy (call_tupleK rfl) rfl B.tuple bt_tuple (pa_cons (pv 6) pa_nil)))) pa_nil)) (pa_cons (pv 7) pa_nil))))))))), ?_⟩
  refine ⟨by decide, fun L hL => ⟨(by decide : 6 ≤ sizeLine), fun l1 hl1 => ?_⟩⟩
  have gL := Ge.new (o := .lst []) hL
  have fL := hp.fresh hL
  have S0 : StB H (upd H L (.lst [])) p cc a F t o cd fl ol ns := ⟨GeP.of gL, hp.ge gL, fm.gp (GeP.of gL) hp.lst.choose_spec⟩
  have topL : upd H L (.lst []) L = some (.lst []) := upd_same
  have nwL : Nw H L := Nw.none hL
  generalize upd H L (.lst []) = H1 at *
  have g1 := Ge.new (o := .lst [.int 9, .int 9, .int 9, .int 9, .int 9, .int 17]) hl1
  refine ⟨_, rfl, p, cc, 6, a, rfl, S0.pen.ge g1, by omega, by decide, by decide, fun H2 r g2 hp2 r0 r1 => ?_⟩
  have nl1 : l1 ≠ p := (S0.pen.fresh hl1).1
  obtain ⟨v, hv, e⟩ := any_at (xs := [V.int 9, .int 9, .int 9, .int 9, .int 9, .int 17]) r0 r1
  obtain ⟨most, rfl, m0, m1⟩ : ∃ most : Int, v = .int most ∧ 9 ≤ most ∧ most ≤ 17 := by
    simp only [List.mem_cons, List.not_mem_nil, or_false] at hv
    rcases hv with rfl | rfl | rfl | rfl | rfl | rfl <;> exact ⟨_, rfl, by decide, by decide⟩
  refine ⟨l1, _, r, _, rfl, rfl, SqL.of (g2.1 l1 _ nl1 upd_same (fun ps z => by cases z)), e, _, _, rfl, ?_⟩
  have S2 := (S0.ge g1).gp g2 hp2
  have top2 := g2.1 L _ fL.1 (g1.1 L _ topL (fun ps z => by cases z)) (fun ps z => by cases z)
  clear topL S0 g1 hl1 e hv gL hL
  refine ⟨_, rfl, p, cc, 4, _, rfl, S2.pen, by omega, by decide, by decide, fun H3 n4 g3 hp3 n40 n44 => ⟨_, _, rfl, rfl, 1 + n4, rfl, by omega, by omega, ?_⟩⟩
  have S3 := S2.gp g3 hp3
  have top3 := g3.1 L _ fL.1 top2 (fun ps z => by cases z)
  refine for_range (lo := 0) (n := (1 + n4).toNat) (fun k σ H' => k ≤ (1 + n4).toNat ∧ StB H H' p cc (a + 2) F t o cd fl ol ns ∧ (∃ lay : List (Addr × List V), Lay H H' p cc cc L fl ns lay ∧ lay.length = k ∧ cnt lay = 0) ∧ ∃ x5 x6 x7, σ = [some (.ref p), some (.ref F), some (.str lt), some (.ref L), some (.int most), x5, x6, x7])
    ⟨Nat.zero_le _, S3.mono (by omega), ⟨[], ⟨top3, List.nodup_nil, fL.1, fun e he => by cases he⟩, rfl, rfl⟩, _, _, _, rfl⟩ ?_ ?_
  · rintro k σ H5 hk ⟨_, S5, ⟨lay, Y5, yl, yc⟩, x5, x6, x7, rfl⟩
    refine ⟨_, rfl, .inl ⟨rfl, _, SqL.of Y5.top⟩, by decide, fun b hb => ?_⟩
    have gb := Ge.new (o := .lst []) hb
    have fb := S5.pen.fresh hb
    refine ⟨L, _, .ref b, rfl, rfl, gb.1 L _ Y5.top (fun ps z => by cases z), ?_, hk, ?_, ⟨lay ++ [(b, [])], ?_, ?_, ?_⟩, _, _, _, rfl⟩
    · rw [List.length_map, yl]
      exact Nat.lt_of_lt_of_le hk (Nat.le_trans (show (1 + n4).toNat ≤ 4 by omega) (by decide))
    · exact (S5.ge gb).updL (gb.1 L _ Y5.top (fun ps z => by cases z)) fL.1 fL.2 nwL
    · exact Y5.add hb fb.1 fb.2 fb.2 (S5.g.nw hb fb.1)
    · rw [List.length_append, yl]
      rfl
    · unfold cnt at yc ⊢
      rw [List.map_append, List.sum_append, yc]
      rfl
  · rintro σ H5 ⟨_, S5, ⟨lay, Y5, yl, yc⟩, x5, x6, x7, rfl⟩
    clear S3 top3 S2 top2
    have yl1 : 1 ≤ lay.length := by omega
    have yl4 : lay.length ≤ 4 := by omega
    refine ⟨_, rfl, _, rfl, p, cc, most, a + 2, rfl, S5.pen, by omega, by omega, by omega, fun H6 r6 g6 hp6 r60 r61 => ⟨r6, rfl, by omega, by omega, ?_⟩⟩
    have S6 := S5.gp g6 hp6
    have Y6 := Y5.gp g6 S5.lst
    refine for_range (lo := 0) (n := r6.toNat) (fun k σ H' => k ≤ r6.toNat ∧ StB H H' p cc (a + 3 + 13 * k) F t o cd fl ol ns ∧ (∃ lay, Lay H H' p cc cc L fl ns lay ∧ 1 ≤ lay.length ∧ lay.length ≤ 4 ∧ cnt lay ≤ k) ∧ ∃ x5 x6 x7, σ = [some (.ref p), some (.ref F), some (.str lt), some (.ref L), some (.int most), x5, x6, x7])
      ⟨Nat.zero_le _, S6, ⟨lay, Y6, yl1, yl4, by omega⟩, _, _, _, rfl⟩ ?_ ?_
    · rintro k σ H7 hk ⟨_, S7, ⟨lay, Y7, y1, y4, yc⟩, x5, x6, x7, rfl⟩
      have nn : lay ≠ [] := fun z => by rw [z] at y1; exact absurd y1 (by decide)
      refine ⟨_, rfl, _, rfl, p, cc, _, a + 3 + 13 * k, fun v => ∃ e ∈ lay, v = .ref e.1, rfl, S7.pen, by omega, Or.inl ⟨L, _, rfl, Y7.Lp, Y7.top, by rw [List.length_map]; omega, by rw [List.length_map]; omega, fun v hv => ?_⟩, fun H8 v g8 hp8 hv => ?_⟩
      · obtain ⟨e, he, z⟩ := List.mem_map.mp hv
        exact ⟨e, he, z.symm⟩
      obtain ⟨e, he, rfl⟩ := hv
      have S8 := S7.gp g8 hp8
      have Y8 := Y7.gp g8 S7.lst
      refine ⟨_, rfl, .inl ⟨rfl, _, SqL.of (Y8.ok e he).2.2.2.2.2.1⟩, _, rfl, _, rfl, _, rfl, p, cc, F, t, o, cd, a + 3 + 13 * k + 1, fl, ol, ns, lt, rfl, S8.pen, by omega, S8.fm, hlt, fun H9 v g9 hp9 bd => ?_⟩
      have S9 := S8.gp g9 hp9
      have Y9 := Y8.gp g9 S8.lst
      obtain ⟨k1, k2, k3, k4, k5, k6, k7⟩ := Y9.ok e he
      refine ⟨e.1, e.2, v, rfl, rfl, k6, ?_, hk, ?_, ⟨bump lay e.1 v, Y9.bump he bd, by rw [bump_len]; exact y1, by rw [bump_len]; exact y4, Nat.le_trans (cnt_bump Y9.nd) (by omega)⟩, _, _, _, rfl⟩
      · exact Nat.lt_of_le_of_lt (Nat.le_trans (mem_cnt he) yc) (Nat.lt_of_lt_of_le hk (Nat.le_trans (show r6.toNat ≤ 16 by omega) (by decide)))
      · exact (S9.updL k6 k1 k2 k5).mono (by omega)
    · rintro σ H7 ⟨_, S7, ⟨lay, Y7, y1, y4, yc⟩, x5, x6, x7, rfl⟩
      have yc16 : cnt lay ≤ 16 := by omega
      refine ⟨(by decide : 7 ≤ sizeLine), fun l hl => ⟨_, rfl, p, cc, 7, a + 3 + 13 * r6.toNat, rfl, S7.pen.ge (Ge.new hl), by omega, by decide, by decide, fun H8 r8 g8 hp8 r80 r81 => ?_⟩⟩
      have gl := Ge.new (o := .lst [.int 1, .int 2, .int 3, .int 4, .int 5, .int 6, .int 999]) hl
      have nlp : l ≠ p := (S7.pen.fresh hl).1
      obtain ⟨v, hv, e⟩ := any_at (xs := [V.int 1, .int 2, .int 3, .int 4, .int 5, .int 6, .int 999]) r80 r81
      obtain ⟨wt, rfl, w1, w2⟩ : ∃ wt : Int, v = .int wt ∧ 1 ≤ wt ∧ wt ≤ 1000 := by
        simp only [List.mem_cons, List.not_mem_nil, or_false] at hv
        rcases hv with rfl | rfl | rfl | rfl | rfl | rfl | rfl <;> exact ⟨_, rfl, by decide, by decide⟩
      refine ⟨l, _, r8, _, rfl, rfl, SqL.of (g8.1 l _ nlp upd_same (fun ps z => by cases z)), e, ?_⟩
      have S9 := ((S7.ge gl).gp g8 hp8).mono (show a + 3 + 13 * r6.toNat + 1 ≤ a + 300 by omega)
      have Y9 := (Y7.gp (GeP.of (p := p) gl) S7.lst).gp g8 (S7.ge gl).lst
      clear S7 Y7 g8 hp8 gl hl e hv
      refine ⟨_, rfl, _, rfl, L, rfl, ⟨_, SqL.of Y9.top⟩, fun D5 hD5 => ?_⟩
      have fD := S9.pen.fresh hD5
      have dL : D5 ≠ L := fun z => by rw [z, Y9.top] at hD5; cases hD5
      have dlay : ∀ e ∈ lay, e.1 ≠ D5 := fun e he z => by
        have := (Y9.ok e he).2.2.2.2.2.1
        rw [z, hD5] at this
        cases this
      have nwD := S9.g.nw hD5 fD.1
      refine lc_list (xs := lay.map fun e => V.ref e.1) (fun k H' => k ≤ lay.length ∧ StB H H' p cc (a + 300) F t o cd fl ol ns ∧ Lay H H' p cc cc L fl ns lay ∧ ∃ ks : List (Addr × List V), H' D5 = some (.lst (ks.map fun e => .ref e.1)) ∧ ks.map (·.2) = (lay.take k).map (·.2) ∧ ∀ e ∈ ks, H' e.1 = some (.tup e.2))
        ⟨Nat.zero_le _, S9.ge (Ge.new hD5), Y9.gp (GeP.of (p := p) (Ge.new hD5)) S9.lst, [], upd_same, rfl, fun e he => by cases he⟩ (fun k H' _ z => SqL.of z.2.2.1.top) ?_ ?_
      · rintro k x H10 hx ⟨hk, S10, Y10, ks, k1, k2, k3⟩
        rw [List.getElem?_map] at hx
        cases ez : lay[k]? with
        | none => rw [ez] at hx; cases hx
        | some y =>
          rw [ez] at hx
          cases hx
          have hk' : k < lay.length := (List.getElem?_eq_some_iff.mp ez).1
          have hy := List.mem_of_getElem? ez
          have ky := (Y10.ok y hy).2.2.2.2.2
          refine ⟨rfl, _, rfl, y.1, y.2, rfl, Or.inl ⟨SqL.of ky.1, fun b hb => ?_⟩⟩
          have kD := (Ge.new (o := .tup y.2) hb).1 D5 _ k1 (fun ps z => by cases z)
          have kl : ks.length = k := by
            have := congrArg List.length k2
            rw [List.length_map, List.length_map, List.length_take] at this
            omega
          refine ⟨_, kD, ?_, hk', ?_, ?_, ks ++ [(b, y.2)], ?_, ?_, ?_⟩
          · rw [List.length_map, kl]
            exact Nat.lt_of_lt_of_le hk' (Nat.le_trans y4 (by decide))
          · exact (S10.ge (Ge.new hb)).updL kD fD.1 fD.2 nwD
          · exact (Y10.gp (GeP.of (p := p) (Ge.new hb)) S10.lst).updO kD dL dlay
          · rw [upd_same, List.map_append]
            rfl
          · rw [List.map_append, k2, List.take_succ, ez, List.map_append]
            rfl
          · intro e he
            rcases List.mem_append.mp he with he | he
            · have q1 := (Ge.new (o := .tup y.2) hb).1 e.1 _ (k3 e he) (fun ps z => by cases z)
              rw [upd_ne (fun z => by rw [z, kD] at q1; cases q1)]
              exact q1
            · rw [List.mem_singleton.mp he, upd_ne (ne_of_none k1 hb).symm]
              exact upd_same
      · rintro H10 ⟨hk, S10, Y10, ks, k1, k2, k3⟩
        rw [List.length_map, List.take_length] at k2
        have kl : ks.length = lay.length := by
          have := congrArg List.length k2
          rw [List.length_map, List.length_map] at this
          exact this
        refine ⟨D5, _, rfl, Or.inl ⟨SqL.of k1, fun ly hly => ⟨_, rfl, (by decide : 2 ≤ sizeLine), fun m0 hm0 => ?_⟩⟩⟩
        have g1 := Ge.new (o := .tup (ks.map fun e => V.ref e.1)) hly
        have g2 := g1.trans (Ge.new (o := .tup [.ref ly, .int wt]) hm0)
        have S11 := S10.ge g2
        refine ⟨F, m0, _, _, rfl, rfl, SqT.of S11.fm.1, SqT.of upd_same, (show 3 + 2 ≤ sizeLine by decide), (fun e => by cases e), (fun _ e => by cases e), fun _ _ m hm => ?_⟩
        have g3 := Ge.new (o := .tup ([.ref t, .ref o, .ref cd] ++ [.ref ly, .int wt])) hm
        have S12 := S11.ge g3
        have g13 := g2.trans g3
        refine q _ _ S12.g S12.pen ⟨m, t, o, cd, ly, fl, ol, ns, ks, wt, rfl, upd_same, S12.fm.2.1, S12.fm.2.2.1, S12.fm.2.2.2.1, S12.fm.2.2.2.2.1, S12.fm.2.2.2.2.2.1, S12.fm.2.2.2.2.2.2, w1, w2, g3.1 _ _ ((Ge.new hm0).1 _ _ upd_same (fun ps z => by cases z)) (fun ps z => by cases z), by omega, by omega, ?_, fun e he => ⟨g13.1 _ _ (k3 e he) (fun ps z => by cases z), fun b hb => ?_⟩⟩
        · have e1 : cnt ks = cnt lay := by
            have z : ∀ l : List (Addr × List V), cnt l = ((l.map (·.2)).map List.length).sum := fun l => by unfold cnt; rw [List.map_map]; rfl
            rw [z, z, k2]
          omega
        · have h2 : e.2 ∈ lay.map (·.2) := by
            rw [← k2]
            exact List.mem_map.mpr ⟨e, he, rfl⟩
          obtain ⟨y, hy, e2⟩ := List.mem_map.mp h2
          rw [← e2] at hb
          exact ((Y10.ok y hy).2.2.2.2.2.2 b hb).ge g13
end
end Pr
set_option maxRecDepth 100000
set_option maxHeartbeats 4000000
/-! kit any_: texts -/
namespace Pr
open PySem PySem.Spec PyProof.Rows L2 GxR Gx Rp Dl Pd Tx Zq Zs Zt
def rMulS : R2 := fun x y H Q => ∃ (z : Str) (k : Nat), x = .str z ∧ y = .int k ∧ 1 ≤ k ∧ k ≤ 1000 ∧ z.length ≤ 1000 ∧ Q (.str (PySem.Txt.mul z k)) H
theorem op_mulS {X : Cx} : OpR X (binaryOp .Mult) rMulS := by
  intro pins s σ H x y v u Q I rx ry h
  obtain ⟨z, k, rfl, rfl, k1, k2, hz, q⟩ := h
  obtain ⟨t1, rfl⟩ := rx
  obtain ⟨t2, rfl⟩ := ry
  have hb : z.length * k ≤ 1000 * 1000 := Nat.mul_le_mul hz k2
  refine PySem.SB.mul ⟨?_, fun _ _ => ?_, fun _ _ => ?_⟩ fun t' k' => ⟨.str _, H, I.tok _, ⟨_, rfl⟩, q⟩
  · rw [decide_eq_false (by omega), decide_eq_false (by omega)]
    rfl
  · intro h
    have e : (2 ^ 63 - 1 : Int) / (k : Int) ≥ 1000 := by
      have : (1000 : Int) * (k : Int) ≤ 2 ^ 63 - 1 := by omega
      exact Int.le_ediv_of_mul_le (by omega) this
    omega
  · have : (k : Int).toNat = k := rfl
    rw [this]
    exact decide_eq_false (fun h => by have : sizeLine = 16777216 := by decide
                                       omega)
theorem mul_cps (z : Str) : (PySem.Txt.mul z ((3 : Nat) : Int)).cps.toList = z.cps.toList ++ z.cps.toList ++ z.cps.toList := by
  unfold PySem.Txt.mul
  rw [if_neg (by decide)]
  by_cases h : z.length = 0
  · have e : z.cps.toList = [] := List.length_eq_zero_iff.mp (by rw [Array.length_toList]; exact h)
    rw [if_pos (by simp [h]), e]
    rfl
  · rw [if_neg (by simp [h])]
    show ((List.replicate 3 z.cps).foldl (· ++ ·) #[]).toList = _
    simp [List.replicate]
def ABCt : Str := "abcdefghijklmnopqrstuvwxyz"
section
variable {P : Program} {w : World} {K : PySem.W.Frag} {mg : Str → Option Value} {base : Heap} {T : List Addr}
def spText : Sp := fun vs H Q _ => ∃ (p cc : Addr) (a : Nat) (z : Str) (most : Int), vs = [.ref p, .str z, .int most] ∧ PenAt H p cc a ∧ a + 50 ≤ 100000 ∧ LetS z ∧ z.length ≤ 10 ∧ 1 ≤ most ∧ most ≤ 40 ∧ ∀ H' x, GeP p H H' → PenAt H' p cc (a + 50) → 1 ≤ x.length → x.length ≤ 40 → letters x = true → Q (.str x) H'
abbrev nATxt : List Str := ["_law_pen", "_law_letters", "_law_most", "_law_some", "_law_turn"]
theorem scATxt : FnScope nATxt ["_law_pen", "_law_letters", "_law_most"] (defScope s_law_any_text) := ⟨rfl, rfl, rfl, by decide +kernel, rfl, by decide +kernel, by decide +kernel⟩
theorem ok_law_any_text {f c : Addr} {fd : FuncData} (F : FunC K "_law_any_text" s_law_any_text f fd c) (B : Bn mg) (D3 : DfP P w K mg base 2 "_law_take" ["_law_pen", "_law_many"] spTake) : FnOk P w K mg base CX0 3 f fd ["_law_pen", "_law_letters", "_law_most"] spText := by
  refine F.ok scATxt (fun vs H Q E ⟨_, _, _, _, _, h, _⟩ => by rw [h]; rfl) (fun A outer s H vs Q E hr h => ?_)
  obtain ⟨p, cc, a, z, most, rfl, hp, ha, ⟨hz1, hz2, hz3⟩, hz10, m1, m40, q⟩ := h
  refine ⟨_, pss_cons (ps_asg (pe_op op_add_str (pe_op op_mulS (pv 1) pe_int) (pe_ix ix_str pe_str (pcall D3 (hr.mono (by decide)) pass0 rfl (pa_cons (pv 0) (pa_cons pe_int pa_nil))) (fun _ _ => rfl))) (pg_name (i := 3) scATxt.nd rfl (Or.inr rfl)))
    (pss_one (ps_ret (pe_join pe_str (pe_lc (own := [("_law_turn", 4)]) (g := gName 4) (tt := tYes) rfl scATxt.nd (pi_range1 rfl B.range (pa_cons (pe_op op_add pe_int (pcall D3 (hr.mono (by decide)) pass0 rfl (pa_cons (pv 0) (pa_cons (pv 2) pa_nil)))) pa_nil)) (blkOk_by (N := nATxt) (sc := defScope s_law_any_text) (by decide +kernel)) (fun _ _ _ _ _ => (pg_name (i := 4) scATxt.nd rfl (Or.inl rfl))) (fun _ _ _ _ _ => pts_nil) (fun _ _ _ _ _ => (pe_ix ix_str (pv 3) (pcall D3 (hr.mono (by decide)) pass0 rfl (pa_cons (pv 0) (pa_cons (pe_callB call_len_str rfl B.len PySem.boot_len (pa_cons (pv 3) pa_nil)) pa_nil))) (fun _ _ => rfl))))))), ?_⟩
  have abcL : (ABCt : Str).length = 26 ∧ letters ABCt = true := by decide +kernel
  refine ⟨_, rfl, z, 3, rfl, rfl, by decide, by decide, by omega, ?_⟩
  refine ⟨_, rfl, p, cc, 26, a, rfl, hp, by omega, by decide, by decide, fun H1 r g1 hp1 r0 r1 => ?_⟩
  obtain ⟨c0, hc0, e0⟩ := any_at (xs := ABCt.cps.toList) r0 (by rw [Array.length_toList]; exact lt_of_lt_of_eq r1 (congrArg (fun n : Nat => (n : Int)) abcL.1.symm))
  have hc0' : isCh c0 = true := List.all_eq_true.mp abcL.2 c0 hc0
  refine ⟨ABCt, r, c0, rfl, rfl, by rw [abcL.1]; decide, e0, ?_⟩
  have ml : (PySem.Txt.mul z ((3 : Nat) : Int)).length = 3 * z.length := by
    show (PySem.Txt.mul z ((3 : Nat) : Int)).cps.size = 3 * z.cps.size
    rw [← Array.length_toList, mul_cps, List.length_append, List.length_append, Array.length_toList]
    omega
  have sl : (PySem.Txt.mul z ((3 : Nat) : Int) ++ (⟨#[c0]⟩ : Str)).length = 3 * z.length + 1 := by
    rw [Str.length_append, ml]
    rfl
  have sc : ∀ c ∈ (PySem.Txt.mul z ((3 : Nat) : Int) ++ (⟨#[c0]⟩ : Str)).cps.toList, isCh c = true := fun c hc => by
    have e : (PySem.Txt.mul z ((3 : Nat) : Int) ++ (⟨#[c0]⟩ : Str)).cps = (PySem.Txt.mul z ((3 : Nat) : Int)).cps ++ #[c0] := rfl
    rw [e, Array.toList_append, mul_cps] at hc
    have z3 : ∀ c ∈ z.cps.toList, isCh c = true := fun c hc => List.all_eq_true.mp hz3 c hc
    rcases List.mem_append.mp hc with hc | hc
    · rcases List.mem_append.mp hc with hc | hc
      · rcases List.mem_append.mp hc with hc | hc
        · exact z3 c hc
        · exact z3 c hc
      · exact z3 c hc
    · rw [List.mem_singleton.mp hc]
      exact hc0'
  refine ⟨_, _, rfl, rfl, (by show (PySem.Txt.mul z ((3 : Nat) : Int)).length + 1 ≤ sizeLine; rw [ml]; exact Nat.le_trans (show _ ≤ 100 by omega) (by decide)), ?_⟩
  generalize PySem.Txt.mul z ((3 : Nat) : Int) ++ (⟨#[c0]⟩ : Str) = x at *
  have hs : x.length ≤ sizeLine := by rw [sl]; exact Nat.le_trans (show _ ≤ 100 by omega) (by decide)
  refine ⟨⟨_, rfl⟩, _, rfl, _, rfl, p, cc, most, _, rfl, hp1, by omega, by omega, by omega, fun H2 r2 g2 hp2 r20 r21 => ⟨_, _, rfl, rfl, 1 + r2, rfl, by omega, by omega, fun L hL => ?_⟩⟩
  obtain ⟨n, hn, n1, n40⟩ : ∃ n : Nat, (1 + r2).toNat = n ∧ 1 ≤ n ∧ n ≤ 40 := ⟨_, rfl, by omega, by omega⟩
  rw [hn]
  have g1' := g1.trans g2
  have hLp := hp2.fresh hL
  have hnw := g1'.nw hL hLp.1
  refine lc_range (lo := 0) (n := n) (fun i H' => i ≤ n ∧ GeP p H H' ∧ PenAt H' p cc (a + 2 + i) ∧ ∃ cs : List Nat, H' L = some (.lst ((cs.map fun c => (⟨#[c]⟩ : Str)).map V.str)) ∧ cs.length = i ∧ ∀ c ∈ cs, isCh c = true)
    ⟨Nat.zero_le _, g1'.upd hnw, hp2.upd hLp.1 hLp.2, [], upd_same, rfl, fun c hc => by cases hc⟩ ?_ ?_
  · rintro i H2 hi ⟨_, g2, hp2, cs, k1, k2, k3⟩
    refine ⟨rfl, _, rfl, _, rfl, _, rfl, x, rfl, hs, p, cc, _, a + 2 + i, rfl, hp2, by omega, by omega, by omega, fun H3 r g3 hp3 r0 r1 => ?_⟩
    obtain ⟨c, hc0, e⟩ := any_at (xs := x.cps.toList) r0 (by simpa [Str.length] using r1)
    have k1' := g3.1 L _ hLp.1 k1 (fun ps z => by cases z)
    refine ⟨x, r, c, rfl, rfl, hs, e, _, k1', ?_, hi, (g2.trans g3).upd hnw, hp3.upd hLp.1 hLp.2, cs ++ [c], ?_, ?_, ?_⟩
    · rw [List.length_map, List.length_map, k2]
      exact Nat.lt_of_lt_of_le hi (Nat.le_trans n40 (by decide))
    · rw [upd_same, List.map_append, List.map_append]
      rfl
    · rw [List.length_append, k2]
      rfl
    · intro e he
      rcases List.mem_append.mp he with he | he
      · exact k3 e he
      · rw [List.mem_singleton.mp he]
        exact sc c hc0
  · rintro H2 ⟨_, g2, hp2, cs, k1, k2, k3⟩
    have el : (Txt.join (Str.ofString "") (cs.map fun c => (⟨#[c]⟩ : Str))).length = n := by
      rw [← k2]
      show (Txt.join (Str.ofString "") (cs.map fun c => (⟨#[c]⟩ : Str))).cps.size = cs.length
      rw [← Array.length_toList, join_signs]
    refine ⟨Str.ofString "", L, cs.map fun c => (⟨#[c]⟩ : Str), rfl, rfl, Or.inl (SqL.of k1), ?_, q H2 _ g2 (hp2.mono (by omega)) (by omega) (by omega) ?_⟩
    · have e1 : ((cs.map fun c => (⟨#[c]⟩ : Str)).map (·.length)).sum = cs.length := by
        rw [List.map_map]
        have : ((fun x : Str => x.length) ∘ fun c : Nat => (⟨#[c]⟩ : Str)) = fun _ => 1 := rfl
        rw [this, List.map_const', List.sum_replicate_nat]
        simp
      have e2 : (Str.ofString "").length = 0 := rfl
      rw [e1, e2]
      omega
    · unfold letters
      rw [join_signs]
      exact List.all_eq_true.mpr k3
end
end Pr
set_option maxRecDepth 100000
set_option maxHeartbeats 4000000
/-! kit any_: the table of what is bound -/
namespace Pr
open PySem PySem.Spec PyProof.Rows L2 GxR Gx Rp Dl Pd Tx Zq Zs Zt
section
variable {P : Program} {w : World} {K : PySem.W.Frag} {mg : Str → Option Value} {base : Heap} {T : List Addr}
theorem filt_all {F : List (Key × V)} (ck : List (Key × V)) : decide (((ck.filter fun q => decide (valV F q.1 = some q.2)).length : Int) = (ck.length : Int)) = holdsK F ck := by
  rw [Bool.eq_iff_iff, decide_eq_true_eq]
  unfold holdsK
  rw [List.all_eq_true]
  constructor
  · intro h
    have h' : (ck.filter fun q => decide (valV F q.1 = some q.2)).length = ck.length := by omega
    exact List.length_filter_eq_length_iff.mp h'
  · intro h
    rw [List.length_filter_eq_length_iff.mpr h]
theorem paired_ks {K : PySem.W.Frag} {H : Hp} : ∀ ps : List (Addr × Key × V), (∀ e ∈ ps, H e.1 = some (.tup [kV e.2.1, e.2.2])) → Paired (fun p (kv : Key × V) => SqT K H p [kV kv.1, kv.2]) (ps.map (·.1)) (ps.map (·.2))
  | [], _ => .nil
  | e :: r, h => .cons (SqT.of (h e List.mem_cons_self)) (paired_ks r fun x hx => h x (List.mem_cons_of_mem _ hx))
def spTabL (K : PySem.W.Frag) (T : List Addr) : Sp := fun vs H Q _ => ∃ u v m t o cd ly s fl bss bs wt, vs = [u, v] ∧ KS K T H u v m t o cd ly s fl bss bs wt ∧ bss.flatten.length ≤ 100 ∧ (∀ l ∈ bss, ∀ b ∈ l, b.ck.length ≤ 3) ∧ ∀ H' a, Ge H H' → Nw H a → H' a = some (.dK (boundK (factsK fl bs) bss)) → Q (.ref a) H'
abbrev nTabL : List Str := ["_law_keymap", "_law_state", "_law_values", "_law_seen", "_law_layer", "_law_keys", "_law_condition", "_law_command", "_law_fitting", "_law_flag"]
end
end Pr
set_option maxRecDepth 100000
set_option maxHeartbeats 2000000
/-! order of data; sorted of data; all(.. for x in a list) -/
namespace Zd
open PySem PySem.Spec PyProof.Rows L2 GxR Gx Rp Dl
section
variable {X : Cx}
def rLtDa (K : PySem.W.Frag) : R2 := fun x y H Q => ∃ d e, Da K H x d ∧ Da K H y e ∧ PySem.W.alike d e = true ∧ d ≠ .none ∧ min d.depth e.depth ≤ 60 ∧ Q (.bl (PySem.W.dataLt d e)) H
theorem op_ltDa (hu : X.A.units + 64 < cLine) : OpR X (compareOp .Lt) (rLtDa X.K) := by
  intro pins s σ H x y v u Q I rx ry h
  obtain ⟨d, e, hd, he, ha, hn, hz, q⟩ := h
  obtain ⟨as, r1, _⟩ := Da.reads I d x v hd rx
  obtain ⟨bs, r2, _⟩ := Da.reads I e y u he ry
  exact PySem.W.lt_data r1 r2 ha hn (by omega) ⟨.bl _, H, I, rfl, q⟩
def rGeDa (K : PySem.W.Frag) : R2 := fun x y H Q => ∃ d e, Da K H x d ∧ Da K H y e ∧ PySem.W.alike d e = true ∧ d ≠ .none ∧ min d.depth e.depth ≤ 60 ∧ Q (.bl (!PySem.W.dataLt d e)) H
theorem op_geDa (hu : X.A.units + 64 < cLine) : OpR X (compareOp .GtE) (rGeDa X.K) := by
  intro pins s σ H x y v u Q I rx ry h
  obtain ⟨d, e, hd, he, ha, hn, hz, q⟩ := h
  obtain ⟨as, r1, _⟩ := Da.reads I d x v hd rx
  obtain ⟨bs, r2, _⟩ := Da.reads I e y u he ry
  exact PySem.W.ge_data r1 r2 ha hn (by omega) ⟨.bl _, H, I, rfl, q⟩
/-- what a value is, beside its data -/
abbrev RV (v : Value) (b : V × PyData) : Prop := RelV b.1 v
theorem each_rv : ∀ {bs : List (V × PyData)} {its : List Value}, Vals (bs.map (·.1)) its → PySem.W.EachIs RV its bs
  | [], _, r => by
    cases r
    exact .nil
  | b :: bs, _, r => by
    rw [List.map_cons] at r
    cases r with
    | cons r1 r2 => exact .cons r1 (each_rv r2)
theorem vals_rv : ∀ {its : List Value} {bs : List (V × PyData)}, PySem.W.EachIs RV its bs → Vals (bs.map (·.1)) its
  | _, _, .nil => .nil
  | _, _, .cons e r => .cons e (vals_rv r)
theorem zip_da {K : PySem.W.Frag} {H : Hp} : ∀ {vs : List V} {ds : List PyData}, DaAll K H vs ds → (vs.zip ds).map (·.1) = vs ∧ (vs.zip ds).map (·.2) = ds ∧ ∀ b ∈ vs.zip ds, Da K H b.1 b.2
  | _, _, .nil => ⟨rfl, rfl, fun b h => by cases h⟩
  | v :: vs, d :: ds, .cons a r => by
    obtain ⟨h1, h2, h3⟩ := zip_da r
    refine ⟨by rw [List.zip_cons_cons, List.map_cons, h1], by rw [List.zip_cons_cons, List.map_cons, h2], fun b hb => ?_⟩
    rw [List.zip_cons_cons] at hb
    rcases List.mem_cons.mp hb with rfl | hb
    · exact a
    · exact h3 b hb
theorem each_reads {pins : List (Addr × Obj)} {σ : L2.St} {H : Hp} {s : Shared} (I : Inv X pins σ H s) : ∀ {bs : List (V × PyData)} {its : List Value}, Vals (bs.map (·.1)) its → (∀ b ∈ bs, Da X.K H b.1 b.2) → PySem.W.EachIs (fun v b => ∃ as, Reads s.heap v b.2 as) its bs
  | [], _, r, _ => by
    cases r
    exact .nil
  | b :: bs, _, r, h => by
    rw [List.map_cons] at r
    cases r with
    | cons r1 r2 =>
      obtain ⟨as, q, _⟩ := Da.reads I b.2 b.1 _ (h b List.mem_cons_self) r1
      exact .cons ⟨as, q⟩ (each_reads I r2 fun c hc => h c (List.mem_cons_of_mem _ hc))
/-- sorted(xs), tuples that are alike: some arrangement -/
theorem cr_sortedDa (hu : X.A.units + 64 < cLine) : CallR X (.builtin "sorted") (fun xs H Q => ∃ (a : Addr) (vs : List V) (ds : List PyData), xs = [.ref a] ∧ SqL X.K H a vs ∧ DaAll X.K H vs ds ∧ PySem.W.AllAlike ds ∧ (∀ d ∈ ds, ∃ x r, d = .tuple (x :: r)) ∧ (∀ d ∈ ds, d.depth ≤ 60) ∧
    ∀ (vs' : List V) (p : Addr), vs'.Perm vs → H p = none → Q (.ref p) (upd H p (.lst vs'))) := by
  intro pins s σ H xs us Q I r h
  obtain ⟨a, vs, ds, rfl, hs, hda, hal, htp, hdp, q⟩ := h
  obtain ⟨its, rv, hl, hz⟩ := I.list hs
  rw [Vals.ref1 r]
  obtain ⟨z1, z2, z3⟩ := zip_da hda
  generalize vs.zip ds = bs at *
  subst z1 z2
  have e := each_rv rv
  rw [List.length_map] at hz
  refine PySem.W.sorted_data (enc := fun b : V × PyData => b.2) (bs := bs) (R := RV) hl.isList e (each_reads I rv z3) hal (.inl fun d hd => htp d hd) hz (fun b hb => by have := hdp b.2 (List.mem_map.mpr ⟨b, hb, rfl⟩); show X.A.units + 2 + b.2.depth < cLine; omega) fun out ho eo => ?_
  obtain ⟨ep, he'⟩ := PyProof.Rows.sortedAll_at s.heap its out.toArray
  have perm : (bs.mergeSort (PySem.W.dataLe false fun b : V × PyData => b.2)).Perm bs := List.mergeSort_perm bs _
  have hlen : ((bs.mergeSort (PySem.W.dataLe false fun b : V × PyData => b.2)).map (·.1)).length ≤ sizeLine := by
    rw [List.length_map, perm.length_eq]
    exact hz
  exact ⟨.ref _, upd H (s.heap.objs.size + 1) (.lst ((bs.mergeSort (PySem.W.dataLe false fun b : V × PyData => b.2)).map (·.1))), I.laid (t' := s.toks) (fun _ _ => PyProof.Rows.sortedAll_old) (Nat.le_succ _) (show ObjOk X.prog X.w _ _ _ (.lst _) from ⟨hlen, out, ep, vals_rv eo, he'⟩), rfl, q _ _ (perm.map _) (I.hok.fresh (Nat.le_succ _))⟩
end
section
variable {K : PySem.W.Frag} {P a : Addr} {σ : L2.St} {H : Hp} {vs : List Nat} {i j : Nat} {te : TE} {Q : VK}
theorem rd_allL {xs : List V} {ds : List PyData} (p : PyData → Bool) (hi : σ[i]? = some (some (.ref a))) (hx : Rd H a (.lst xs)) (hd : DaAll K H xs ds) (ht : TabG H P) (hw : ∀ x, wipe ((wipe σ vs).set j (some x)) vs = wipe σ vs)
    (he : ∀ x d H', d ∈ ds → Ge H H' → Da K H' x d → ∀ R : VK, (∀ H4, Ge H' H4 → R (.bl (p d)) H4) → te ((wipe σ vs).set j (some x)) H' R)
    (hQ : ∀ H', Ge H H' → Q (.bl (ds.all p)) H') : tAllX P (iList K (tVar i)) (gName j) tYes te vs σ H Q := by
  refine ⟨.ref a, hi, a, rfl, ⟨xs, Or.inl hx⟩, ht, fun H2 t2 => ?_⟩
  have g2 := Ge.tab ht t2
  have hl := daAll_len hd
  refine turns_all (n := ds.length) (Y := YAt xs) (Walk.mono (hl ▸ walk_list (K := K) (a := a) (xs := xs)) (fun H' g => (g2.trans g).sqL (Or.inl hx)) fun _ _ _ _ _ _ y => y) (atD p ds) (fun k x H' H'' hk _ g y R hR => ?_) gName_mono fun H' g => by rw [all_atD]; exact hQ H' (g2.trans g)
  obtain ⟨rfl, hx'⟩ := y
  obtain ⟨d, e1, e2⟩ := daAll_get hd hx'
  refine ⟨hw x, he x d H'' (List.mem_of_getElem? e1) (g2.trans g) ((g2.trans g).da e2) R fun H4 g4 => ?_⟩
  have e3 : atD p ds k = p d := by
    unfold atD
    rw [e1]
  rw [← e3]
  exact hR H4 (g.trans g4)
end
end Zd
set_option maxRecDepth 100000
set_option maxHeartbeats 4000000
/-! the program: is_apart -/
namespace Pr
open PySem PySem.Spec PyProof.Rows L2 GxR Gx Rp Dl Pd Tx Zq Zs Zt Zd
theorem shape2 {K : PySem.W.Frag} {H : Hp} {xs : List V} {ds : List PyData} (hda : DaAll K H xs ds) (h : ds.length = 2) : ∃ v1 v2 d1 d2, xs = [v1, v2] ∧ ds = [d1, d2] ∧ Da K H v1 d1 ∧ Da K H v2 d2 := by
  cases hda with
  | nil => cases h
  | @cons v1 _ d1 _ a1 r1 => cases r1 with
    | nil => cases h
    | @cons v2 _ d2 _ a2 r2 =>
      cases r2 with
      | nil => exact ⟨_, _, _, _, rfl, rfl, a1, a2⟩
      | cons a3 r3 =>
        simp only [List.length_cons] at h
        omega
theorem keys_str {d : PyData} (h : isKeys d = true) : ∃ x, d = .str x := by
  cases d with
  | str x => exact ⟨x, rfl⟩
  | _ => cases h
theorem keys_len {x : Str} (h : isKeys (.str x) = true) : x.length ≤ 4 := by
  have h : (decide (1 ≤ (x.length : Int)) && decide ((x.length : Int) ≤ 4) && letters x) = true := h
  rw [Bool.and_eq_true, Bool.and_eq_true] at h
  have := of_decide_eq_true h.1.2
  omega
/-- an occurrence, as data -/
def occD (o : Int × Str) : PyData := .tuple [.int o.1, .str o.2]
def toOcc : PyData → Int × Str
  | .tuple [.int s, .str x] => (s, x)
  | _ => (0, "")
def occB (kvs : List (Key × V)) (text : Str) : PyData → Bool
  | .tuple [s, .str x] => isWithin 0 ((text.length : Int) - 1) s && (isKeys (.str x) && ((valV kvs (Sum.inr x : Key)).isSome && match s with | .int i => decide (cutS text (some i) (some (i + (x.length : Int))) = x) | _ => false))
  | _ => false
theorem occ_shape {kvs : List (Key × V)} {text : Str} {d : PyData} (h : occB kvs text d = true) : ∃ (i : Int) (x : Str), d = .tuple [.int i, .str x] ∧ 0 ≤ i ∧ i ≤ (text.length : Int) - 1 ∧ isKeys (.str x) = true ∧ (valV kvs (Sum.inr x : Key)).isSome = true ∧ cutS text (some i) (some (i + (x.length : Int))) = x := by
  unfold occB at h
  split at h
  · rename_i s x
    rw [Bool.and_eq_true, Bool.and_eq_true, Bool.and_eq_true] at h
    obtain ⟨h1, h2, h3, h4⟩ := h
    obtain ⟨i, rfl, i0, i1⟩ := within_int h1
    exact ⟨i, x, rfl, i0, i1, h2, h3, of_decide_eq_true h4⟩
  · cases h
def apartI : Int → List (Int × Str) → Bool
  | _, [] => true
  | e, o :: r => if 1 < o.2.length then (if o.1 < e then false else apartI (o.1 + (o.2.length : Int) - 1) r) else apartI e r
def ascO : List (Int × Str) → Bool
  | [] => true
  | [_] => true
  | p :: q :: r => PySem.W.dataLt (occD p) (occD q) && ascO (q :: r)
def apartB (kvs : List (Key × V)) (text : Str) : PyData → Bool
  | .list ds => ds.all (occB kvs text) && (ascO (ds.map toOcc) && apartI 0 (ds.map toOcc))
  | _ => false
theorem occ_to {kvs : List (Key × V)} {text : Str} {ds : List PyData} (h : ds.all (occB kvs text) = true) : ds = (ds.map toOcc).map occD := by
  induction ds with
  | nil => rfl
  | cons d r ih =>
    rw [List.all_cons, Bool.and_eq_true] at h
    rw [List.map_cons, List.map_cons, ← ih h.2]
    obtain ⟨i, x, rfl, _⟩ := occ_shape h.1
    rfl
theorem ascO_at : ∀ {os : List (Int × Str)}, ascO os = true ↔ ∀ k p q, os[k]? = some p → os[k + 1]? = some q → PySem.W.dataLt (occD p) (occD q) = true
  | [] => ⟨(fun _ k p q h => by simp at h), fun _ => rfl⟩
  | [_] => ⟨(fun _ k p q _ h => by simp at h), fun _ => rfl⟩
  | a :: b :: r => by
    have ih := ascO_at (os := b :: r)
    show (PySem.W.dataLt (occD a) (occD b) && ascO (b :: r)) = true ↔ _
    rw [Bool.and_eq_true, ih]
    constructor
    · rintro ⟨h1, h2⟩ k p q hp hq
      cases k with
      | zero =>
        simp at hp hq
        rw [← hp, ← hq]
        exact h1
      | succ k => exact h2 k p q (by simpa using hp) (by simpa using hq)
    · intro h
      exact ⟨h 0 a b rfl rfl, fun k p q hp hq => h (k + 1) p q (by simpa using hp) (by simpa using hq)⟩
theorem alike_occ (p q : Int × Str) : PySem.W.alike (occD p) (occD q) = true := by
  simp [occD, PySem.W.alike, PySem.W.alikeAll]
theorem depth_occ (p : Int × Str) : (occD p).depth = 1 := by
  simp [occD, PyData.depth, PyData.depthAll]
section
variable {P : Program} {w : World} {K : PySem.W.Frag} {mg : Str → Option Value} {base : Heap} {T : List Addr}
def spChTx (K : PySem.W.Frag) (T : List Addr) : Sp := fun vs H Q _ => ∃ u v m t o cd ly s fl bs wt x, vs = [u, v, .str x] ∧ KS0 K T H u v m t o cd ly s fl bs wt ∧ isWord 40 (.str x) = true ∧ x.length ≤ 100 ∧ ∀ H', Ge H H' → Q .non H'
abbrev nChTx : List Str := ["keymap", "state", "text"]
theorem scChTx : FnScope nChTx ["keymap", "state", "text"] (defScope s_check_text) := ⟨rfl, rfl, rfl, by decide +kernel, rfl, by decide +kernel, by decide +kernel⟩
theorem ok_check_text {f c : Addr} {fd : FuncData} (F : FunC K "check_text" s_check_text f fd c) (D1 : DfP P w K mg base 9 "check_state" ["keymap", "state"] (spCheckS K T)) (D2 : DfP P w K mg base 2 "is_word" ["thing", "most"] (spW K T)) {tk : Tok} (hc : mg "LONGEST_TEXT" = some (.int 40 tk)) : FnOk P w K mg base CX0 10 f fd ["keymap", "state", "text"] (spChTx K T) := by
  refine F.ok scChTx (fun vs H Q E ⟨_, _, _, _, _, _, _, _, _, _, _, _, h, _⟩ => by rw [h]; rfl) (fun A outer s0 H vs Q E hr h => ?_)
  obtain ⟨u, v, m, t, o, cd, ly, s, fl, bs, wt, x, rfl, k, hw, hx, q⟩ := h
  refine ⟨_, pss_cons (ps_expr (pcall D1 (hr.mono (by decide)) pass0 rfl (pa_cons (pv 0) (pa_cons (pv 1) pa_nil))))
    (pss_one (ps_if (pt_not (pt_val (pcall D2 (hr.mono (by decide)) pass0 rfl (pa_cons (pv 2) (pa_cons (pe_glob (v := .int 40) rfl hc ⟨_, rfl⟩) pa_nil))))) (pss_one ps_never) pss_nil)), ?_⟩
  refine ⟨u, rfl, v, rfl, u, v, m, t, o, cd, ly, s, fl, bs, wt, rfl, k, fun H1 g1 => ?_⟩
  have hs : small (.str x) = true := decide_eq_true (show x.length ≤ 100000 by omega)
  refine ⟨_, rfl, .str x, .str x, 40, rfl, .str x, hs, g1.tb k.tb, fun H2 g2 => ⟨_, rfl, ?_⟩⟩
  rw [hw]
  exact iteF (q H2 (g1.trans g2))
def spIsOc (K : PySem.W.Frag) (T : List Addr) : Sp := fun vs H Q _ => ∃ (tb : Addr) (x : Str) (v : V) (d : PyData) (kvs : List (Key × V)), vs = [.ref tb, .str x, v] ∧ H tb = some (.dK kvs) ∧ x.length ≤ 100 ∧ Da K H v d ∧ AskE d ∧ Tb T H ∧ ∀ H', Ge H H' → Q (.bl (occB kvs x d)) H'
abbrev nIsOc : List Str := ["table", "text", "thing", "start", "keys"]
theorem scIsOc : FnScope nIsOc ["table", "text", "thing"] (defScope s_is_occurrence) := ⟨rfl, rfl, rfl, by decide +kernel, rfl, by decide +kernel, by decide +kernel⟩
theorem ok_is_occurrence {f c : Addr} {fd : FuncData} (F : FunC K "is_occurrence" s_is_occurrence f fd c) (B : Bn mg) (Dw : DfP P w K mg base 2 "is_within" ["thing", "least", "most"] (spWi K T)) (Dk : DfP P w K mg base 3 "is_keys" ["thing"] (spD K T isKeys)) : FnOk P w K mg base CX0 4 f fd ["table", "text", "thing"] (spIsOc K T) := by
  refine F.ok scIsOc (fun vs H Q E ⟨_, _, _, _, _, h, _⟩ => by rw [h]; rfl) (fun A outer s0 H vs Q E hr h => ?_)
  have hu := hu_of hr
  obtain ⟨tb, x, v, d, kvs, rfl, htb, hx, hd, ask, hT, q⟩ := h
  refine ⟨_, pss_cons (ps_if (PW.pt (pw_or (pt_not (pt_val (pe_isi (pv 2) rfl B.isinstance rfl B.tuple bt_tuple))) (pw_or1 (pt_cmpR op_ne (pe_callB call_len_seq rfl B.len PySem.boot_len (pa_cons (pv 2) pa_nil)) pe_int (nomark _))))) (pss_one (ps_ret pe_bl)) pss_nil)
    (pss_cons (ps_asg (pv 2) (pg_tup rfl (pgs_cons (pg_name (i := 3) scIsOc.nd rfl (Or.inl rfl)) (pgs_cons (pg_name (i := 4) scIsOc.nd rfl (Or.inl rfl)) pgs_nil))))
    (pss_cons (ps_if (PW.pt (pw_or (pt_not (pt_val (pcall Dw (hr.mono (by decide)) pass0 rfl (pa_cons (pv 3) (pa_cons pe_int (pa_cons (pe_op op_sub (pe_callB call_len_str rfl B.len PySem.boot_len (pa_cons (pv 1) pa_nil)) pe_int) pa_nil)))))) (pw_or (pt_not (pt_val (pcall Dk (hr.mono (by decide)) pass0 rfl (pa_cons (pv 4) pa_nil)))) (pw_or1 (pt_cmp (pc_dnotin hu (pv 4) (pv 0))))))) (pss_one (ps_ret pe_bl)) pss_nil)
    (pss_one (ps_ret (pe_cmpR op_eq (pe_slice sl_str (pv 1) (po_some (pv 3)) (po_some (pe_op op_add (pv 3) (pe_callB call_len_str rfl B.len PySem.boot_len (pa_cons (pv 4) pa_nil))))) (pv 4) (nomark _)))))), ?_⟩
  have hxs : x.length ≤ sizeLine := Nat.le_trans hx (by decide)
  refine rd_tIsi rfl hd ⟨_, rfl, ?_⟩
  cases ty : isTy "tuple" d with
  | false =>
    have z := q H (Ge.refl H)
    have e1 : occB kvs x d = false := by
      cases d <;> first | rfl | simp [isTy, tyName] at ty
    rw [e1] at z
    exact iteT (iteT z)
  | true =>
    obtain ⟨ds, rfl⟩ := isTy_tup ty
    cases hd with
    | @tup a xs _ ha hda =>
      obtain ⟨ask1, ask2⟩ := ask
      have hl := daAll_len hda
      refine iteF ⟨_, rfl, a, _, rfl, Or.inr (Or.inl ha), rfl, _, rfl, ?_⟩
      by_cases h2 : ds.length = 2
      · obtain ⟨v1, v2, d1, d2, rfl, rfl, a1, a2⟩ := shape2 hda h2
        have k1 := ask2 d1 (by simp)
        have k2 := ask2 d2 (by simp)
        refine iteF ?_
        refine ⟨_, rfl, a, _, rfl, Or.inl ha, rfl, _, _, rfl, _, _, rfl, rfl, ?_⟩
        refine ⟨_, rfl, _, rfl, x, rfl, hxs, _, _, rfl, rfl, v1, d1, 0, (x.length : Int) - 1, rfl, a1, k1.1, hT, fun H1 g1 => ⟨_, rfl, ?_⟩⟩
        cases e1 : isWithin 0 ((x.length : Int) - 1) d1 with
        | false =>
          have z := q H1 g1
          have e2 : occB kvs x (.tuple [d1, d2]) = false := by
            cases d2 with
            | str y =>
              show (isWithin 0 ((x.length : Int) - 1) d1 && _) = false
              rw [e1]
              rfl
            | _ => rfl
          rw [e2] at z
          exact iteT (iteT z)
        | true =>
          refine iteF ⟨_, rfl, v2, d2, rfl, g1.da a2, k2.1, g1.tb hT, fun H2 g2 => ⟨_, rfl, ?_⟩⟩
          cases e2 : isKeys d2 with
          | false =>
            have z := q H2 (g1.trans g2)
            have e3 : occB kvs x (.tuple [d1, d2]) = false := by
              cases d2 with
              | str y =>
                show (isWithin 0 ((x.length : Int) - 1) d1 && (isKeys (.str y) && _)) = false
                rw [e2, Bool.false_and, Bool.and_false]
              | _ => rfl
            rw [e3] at z
            exact iteT (iteT z)
          | true =>
            obtain ⟨i, rfl, i0, i1⟩ := within_int e1
            obtain ⟨y, rfl⟩ := keys_str e2
            cases a1
            cases a2
            have g12 := g1.trans g2
            have htb2 := g12.dk htb
            have ys : y.length ≤ 4 := keys_len e2
            have q' : ∀ H', Ge H H' → Q (.bl ((valV kvs (Sum.inr y : Key)).isSome && decide (cutS x (some i) (some (i + (y.length : Int))) = y))) H' := fun H' g => by
              have z : Q (.bl (isWithin 0 ((x.length : Int) - 1) (.int i) && (isKeys (.str y) && ((valV kvs (Sum.inr y : Key)).isSome && decide (cutS x (some i) (some (i + (y.length : Int))) = y))))) H' := q H' g
              rw [e1, e2, Bool.true_and, Bool.true_and] at z
              exact z
            refine iteF ⟨_, rfl, _, rfl, tb, _, rfl, DGet.k (k := Sum.inr y) htb2, _, rfl, ?_⟩
            cases e3 : valV kvs (Sum.inr y : Key) with
            | none =>
              have z := q' H2 g12
              rw [e3] at z
              exact iteT z
            | some w =>
              have z := q' H2 g12
              rw [e3] at z
              refine iteF ⟨_, rfl, _, rfl, _, rfl, _, rfl, _, rfl, y, rfl, Nat.le_trans ys (by decide), _, _, rfl, rfl, _, rfl, x, rfl, hxs, _, rfl, rfl, ?_⟩
              have e4 : decide (V.str (cutS x (some i) (some (i + (y.length : Int)))) = V.str y) = decide (cutS x (some i) (some (i + (y.length : Int))) = y) := decide_eq_decide.mpr ⟨fun z => V.str.inj z, fun z => by rw [z]⟩
              rw [e4]
              exact z
      · have e5 : decide (V.int ((xs.length : Nat) : Int) = V.int 2) = false := decide_eq_false fun z => h2 (by have := V.int.inj z; omega)
        have z := q H (Ge.refl H)
        have e6 : occB kvs x (.tuple ds) = false := by
          match ds, h2 with
          | [], _ => rfl
          | [_], _ => rfl
          | [_, _], h2 => exact absurd rfl h2
          | _ :: y :: _ :: _, _ => cases y <;> rfl
        rw [e6] at z
        rw [e5]
        exact iteT z
def spArAp (K : PySem.W.Frag) : Sp := fun vs H Q _ => ∃ (L : Addr) (xs : List V) (os : List (Int × Str)), vs = [.ref L] ∧ SqL K H L xs ∧ DaAll K H xs (os.map occD) ∧ (∀ o ∈ os, o.2.length ≤ 100) ∧ ∀ H', Ge H H' → Q (.bl (apartI 0 os)) H'
abbrev nArAp : List Str := ["occurrences", "last", "start", "keys"]
theorem scArAp : FnScope nArAp ["occurrences"] (defScope s_are_apart) := ⟨rfl, rfl, rfl, by decide +kernel, rfl, by decide +kernel, by decide +kernel⟩
theorem occ_at {H : Hp} {v : V} {o : Int × Str} (h : Da K H v (occD o)) : ∃ a, v = .ref a ∧ Rd H a (.tup [.int o.1, .str o.2]) := by
  cases h with
  | tup ha hda =>
    cases hda with
    | cons a1 r1 =>
      cases a1
      cases r1 with
      | cons a2 r2 =>
        cases a2
        cases r2
        exact ⟨_, rfl, ha⟩
theorem ok_are_apart {f c : Addr} {fd : FuncData} (F : FunC K "are_apart" s_are_apart f fd c) (B : Bn mg) : FnOk P w K mg base CX0 1 f fd ["occurrences"] (spArAp K) := by
  refine F.ok scArAp (fun vs H Q E ⟨_, _, _, h, _⟩ => by rw [h]; rfl) (fun A outer s0 H vs Q E hr h => ?_)
  obtain ⟨L, xs, os, rfl, hL, hda, h100, q⟩ := h
  refine ⟨_, pss_cons (ps_asg pe_int (pg_name (i := 1) scArAp.nd rfl (Or.inl rfl)))
    (pss_cons (ps_for PassesOwn.never rfl (pi_list (pv 0)) (pg_tup rfl (pgs_cons (pg_name (i := 2) scArAp.nd rfl (Or.inl rfl)) (pgs_cons (pg_name (i := 3) scArAp.nd rfl (Or.inl rfl)) pgs_nil)))
      (pss_one (ps_if (pt_cmpR op_gt (pe_callB call_len_str rfl B.len PySem.boot_len (pa_cons (pv 3) pa_nil)) pe_int (nomark _)) (pss_cons (ps_if (pt_cmpR op_lt (pv 2) (pv 1) (nomark _)) (pss_one (ps_ret pe_bl)) pss_nil)
        (pss_one (ps_asg (pe_op op_sub (pe_op op_add (pv 2) (pe_callB call_len_str rfl B.len PySem.boot_len (pa_cons (pv 3) pa_nil))) pe_int) (pg_name (i := 1) scArAp.nd rfl (Or.inl rfl))))) pss_nil)))
    (pss_one (ps_ret pe_bl))), ?_⟩
  have hl := daAll_len hda
  rw [List.length_map] at hl
  dsimp only [gName]
  refine ⟨_, rfl, L, rfl, ⟨_, hL⟩, for_list (K := K) (xs := xs) (fun i σ H' => i ≤ xs.length ∧ Ge H H' ∧ ∃ (e : Int) (x2 x3 : Option V), apartI e (os.drop i) = apartI 0 os ∧ σ = [some (.ref L), some (.int e), x2, x3])
    ⟨Nat.zero_le _, Ge.refl _, 0, _, _, rfl, rfl⟩ (fun i σ H' _ z => z.2.1.sqL hL) ?_ ?_⟩
  · rintro i x σ H1 hx ⟨_, g1, e, x2, x3, h0, rfl⟩
    have hi : i < xs.length := (List.getElem?_eq_some_iff.mp hx).1
    obtain ⟨d, ed, hd⟩ := daAll_get hda hx
    rw [List.getElem?_map] at ed
    obtain ⟨o, eo, rfl⟩ := Option.map_eq_some_iff.mp ed
    obtain ⟨a, rfl, ha⟩ := occ_at (g1.da hd)
    have hdr : os.drop i = o :: os.drop (i + 1) := by rw [List.drop_eq_getElem_cons (by omega), (List.getElem?_eq_some_iff.mp eo).2]
    have ho := h100 o (List.mem_of_getElem? eo)
    have h0' : (if 1 < o.2.length then (if o.1 < e then false else apartI (o.1 + (o.2.length : Int) - 1) (os.drop (i + 1))) else apartI e (os.drop (i + 1))) = apartI 0 os := by
      rw [← h0, hdr]
      rfl
    refine ⟨a, _, rfl, Or.inl ha, rfl, _, _, rfl, _, _, rfl, rfl, ?_⟩
    refine ⟨_, rfl, o.2, rfl, Nat.le_trans ho (by decide), _, _, rfl, rfl, _, rfl, ?_⟩
    by_cases h1 : 1 < o.2.length
    · rw [decide_eq_true (show (1 : Int) < (o.2.length : Int) by omega)]
      rw [if_pos h1] at h0'
      refine iteT ⟨_, rfl, _, rfl, _, _, rfl, rfl, _, rfl, ?_⟩
      by_cases h2 : o.1 < e
      · rw [decide_eq_true h2]
        rw [if_pos h2] at h0'
        have z := q H1 g1
        rw [← h0'] at z
        exact iteT z
      · rw [decide_eq_false h2]
        rw [if_neg h2] at h0'
        exact iteF ⟨_, rfl, _, rfl, o.2, rfl, Nat.le_trans ho (by decide), _, _, rfl, rfl, _, _, rfl, rfl, hi, g1, _, _, _, h0', rfl⟩
    · rw [decide_eq_false (show ¬ (1 : Int) < (o.2.length : Int) by omega)]
      rw [if_neg h1] at h0'
      exact iteF ⟨hi, g1, e, _, _, h0', rfl⟩
  · rintro σ H1 ⟨_, g1, e, x2, x3, h0, rfl⟩
    rw [← hl, List.drop_length] at h0
    have z := q H1 g1
    rw [← h0] at z
    exact z
def spIsAs (K : PySem.W.Frag) : Sp := fun vs H Q _ => ∃ (L : Addr) (xs : List V) (os : List (Int × Str)), vs = [.ref L] ∧ SqL K H L xs ∧ DaAll K H xs (os.map occD) ∧ ∀ H', Ge H H' → Q (.bl (ascO os)) H'
abbrev nIsAs : List Str := ["things", "low", "high"]
theorem scIsAs : FnScope nIsAs ["things"] (defScope s_is_ascending) := ⟨rfl, rfl, rfl, by decide +kernel, rfl, by decide +kernel, by decide +kernel⟩
theorem ok_is_ascendingL {f c : Addr} {fd : FuncData} (F : FunC K "is_ascending" s_is_ascending f fd c) (B : Bn mg) : FnOk P w K mg base CX0 1 f fd ["things"] (spIsAs K) := by
  refine F.ok scIsAs (fun vs H Q E ⟨_, _, _, h, _⟩ => by rw [h]; rfl) (fun A outer s0 H vs Q E hr h => ?_)
  have hu2 := hr.units
  obtain ⟨L, xs, os, rfl, hL, hda, q⟩ := h
  refine ⟨_, pss_cons (ps_for PassesOwn.never rfl (pi_zip rfl B.zip (pa_cons (pv 0) (pa_cons (pe_slice sl_list (pv 0) (po_some pe_int) po_none) pa_nil))) (pg_tup rfl (pgs_cons (pg_name (i := 1) scIsAs.nd rfl (Or.inl rfl)) (pgs_cons (pg_name (i := 2) scIsAs.nd rfl (Or.inl rfl)) pgs_nil)))
      (pss_one (ps_if (pt_cmpR (op_geDa hu2) (pv 1) (pv 2) (nomark _)) (pss_one (ps_ret pe_bl)) pss_nil)))
    (pss_one (ps_ret pe_bl)), ?_⟩
  have hl := daAll_len hda
  rw [List.length_map] at hl
  refine ⟨_, rfl, _, rfl, 1, rfl, ?_⟩
  dsimp only [tNoPart]
  refine ⟨L, xs, rfl, hL, fun b hb => ?_⟩
  have gb := Ge.new (o := .lst (cutV xs (some 1) none)) hb
  have ec : cutV xs (some 1) none = xs.drop 1 := by
    unfold cutV
    have e1 : HT.sIx xs.length 0 (some 1) = min 1 xs.length := HT.sIx_nat xs.length 0 1
    have e2 : HT.sIx xs.length xs.length none = xs.length := rfl
    rw [e1, e2]
    cases xs with
    | nil => rfl
    | cons x r =>
      have : min 1 (x :: r).length = 1 := by rw [List.length_cons]; omega
      rw [this]
      exact List.take_of_length_le (by rw [List.length_drop]; omega)
  refine ⟨L, b, xs, xs.drop 1, rfl, gb.sqL hL, by rw [← ec]; exact SqL.of upd_same, ?_⟩
  have hb2 : SqL K (upd H b (.lst (cutV xs (some 1) none))) b (xs.drop 1) := by rw [← ec]; exact SqL.of upd_same
  generalize upd H b (.lst (cutV xs (some 1) none)) = H2 at *
  refine for_it (D := { nx := fun σ H' => Q (.bl true) H', rt := Q }) (g := gTup K 2 (gCons (gName 1) (gCons (gName 2) gNil))) (tb := tIfS (tTest (tOp (rGeDa K) (tVar 1) (tVar 2))) (tRet (tC (.bl false))) tNext) (walk_zip (K := K) (a := L) (b := b) (xs := xs) (ys := xs.drop 1) rfl) (fun i σ' H' => Ge H2 H' ∧ (∃ l h, σ' = [some (.ref L), l, h]) ∧ ∀ k, k < i → ∀ p q, os[k]? = some p → os[k + 1]? = some q → PySem.W.dataLt (occD p) (occD q) = true)
    ⟨Ge.refl _, ⟨none, none, rfl⟩, fun k hk => absurd hk (Nat.not_lt_zero k)⟩ (fun i σ' H' _ p => ⟨(gb.trans p.1).sqL hL, p.1.sqL hb2⟩) ?_ ?_
  · rintro i x σ' H' H'' hi ⟨p1, ⟨l, h, rfl⟩, p3⟩ ⟨Tn, u, v, rfl, hTn, rfl, hu, hv⟩
    obtain ⟨du, eu, hdu⟩ := daAll_get hda hu
    obtain ⟨dv, ev, hdv⟩ := daAll_get hda (show xs[i + 1]? = some v by have hv' : (xs.drop 1)[i]? = some v := hv; rw [List.getElem?_drop, Nat.add_comm] at hv'; exact hv')
    rw [List.getElem?_map] at eu ev
    obtain ⟨pu, epu, rfl⟩ := Option.map_eq_some_iff.mp eu
    obtain ⟨pv', epv, rfl⟩ := Option.map_eq_some_iff.mp ev
    have g3 : Ge H2 (upd H' Tn (.tup [u, v])) := p1.trans (Ge.new hTn)
    refine ⟨Tn, [u, v], rfl, SqT.of upd_same, rfl, _, _, rfl, _, _, rfl, rfl, _, rfl, _, rfl, occD pu, occD pv', (gb.trans g3).da hdu, (gb.trans g3).da hdv, alike_occ _ _, (fun z => by cases z), by rw [depth_occ, depth_occ]; decide, _, rfl, ?_⟩
    cases e2 : PySem.W.dataLt (occD pu) (occD pv') with
    | true =>
      refine iteF ⟨g3, ⟨_, _, rfl⟩, fun k hk p q h1 h2 => ?_⟩
      by_cases hki : k = i
      · subst hki
        rw [epu] at h1
        rw [epv] at h2
        cases h1
        cases h2
        exact e2
      · exact p3 k (by omega) p q h1 h2
    | false =>
      have z := q _ (gb.trans g3)
      have e5 : ascO os = false := by
        cases e6 : ascO os with
        | false => rfl
        | true =>
          have := (ascO_at.mp e6) i pu pv' epu epv
          rw [e2] at this
          cases this
      rw [e5] at z
      exact iteT z
  · rintro σ' H' ⟨p1, ⟨l, h, rfl⟩, p3⟩
    have e6 : ascO os = true := ascO_at.mpr fun k p q h1 h2 => p3 k (by
      have := (List.getElem?_eq_some_iff.mp h2).1
      rw [List.length_drop]
      omega) p q h1 h2
    have z := q H' (gb.trans p1)
    rw [e6] at z
    exact z
def AskL : PyData → Prop
  | .list ds => ds.length ≤ 100000 ∧ ∀ x ∈ ds, AskE x
  | _ => True
def spIsAp (K : PySem.W.Frag) (T : List Addr) : Sp := fun vs H Q _ => ∃ u v m t o cd ly s fl bss bs wt x w d, vs = [u, v, .str x, w] ∧ KS K T H u v m t o cd ly s fl bss bs wt ∧ bss.flatten.length ≤ 100 ∧ isWord 40 (.str x) = true ∧ x.length ≤ 100 ∧ Da K H w d ∧ AskL d ∧ ∀ H', Ge H H' → Q (.bl (apartB (boundK (factsK fl bs) bss) x d)) H'
abbrev nIsAp : List Str := ["keymap", "state", "text", "thing", "table", "one"]
theorem scIsAp : FnScope nIsAp ["keymap", "state", "text", "thing"] (defScope s_is_apart) := ⟨rfl, rfl, rfl, by decide +kernel, rfl, by decide +kernel, by decide +kernel⟩
theorem ok_is_apart {f c Pt : Addr} {fd : FuncData} (F : FunC K "is_apart" s_is_apart f fd c) (B : Bn mg) (TB : TabB base mg c Pt) (hPt : Pt ∈ T) (D1 : DfP P w K mg base 10 "check_text" ["keymap", "state", "text"] (spChTx K T)) (D2 : DfP P w K mg base 3 "bound_in" ["keymap", "state"] (spBoundIn K T)) (D3 : DfP P w K mg base 4 "is_occurrence" ["table", "text", "thing"] (spIsOc K T)) (D4 : DfP P w K mg base 1 "is_ascending" ["things"] (spIsAs K)) (D5 : DfP P w K mg base 1 "are_apart" ["occurrences"] (spArAp K)) : FnOk P w K mg base CX0 12 f fd ["keymap", "state", "text", "thing"] (spIsAp K T) := by
  refine F.ok scIsAp (fun vs H Q E ⟨_, _, _, _, _, _, _, _, _, _, _, _, _, _, _, h, _⟩ => by rw [h]; rfl) (fun A outer s0 H vs Q E hr h => ?_)
  obtain ⟨u, v, m, t, o, cd, ly, s, fl, bss, bs, wt, x, w, d, rfl, k, h100, hw, hx, hd, ask, q⟩ := h
  refine ⟨_, pss_cons (ps_expr (pcall D1 (hr.mono (by decide)) pass0 rfl (pa_cons (pv 0) (pa_cons (pv 1) (pa_cons (pv 2) pa_nil)))))
    (pss_cons (ps_asg (pcall D2 (hr.mono (by decide)) pass0 rfl (pa_cons (pv 0) (pa_cons (pv 1) pa_nil))) (pg_name (i := 4) scIsAp.nd rfl (Or.inr rfl)))
    (pss_cons (ps_if (PW.pt (pw_or (pt_not (pt_val (pe_isi (pv 3) rfl B.isinstance rfl B.list bt_list))) (pw_or1 (pt_not (pt_val (pe_allX (k := 10) (own := [("one", 5)]) hr rfl B.all TB rfl scIsAp.nd (gxs (N := nIsAp) (sc := defScope s_is_apart) (by decide +kernel) rfl (by decide +kernel) rfl) (pi_list (pv 3)) (fun _ _ _ _ _ _ _ _ _ => pg_name (i := 5) scIsAp.nd rfl (Or.inl rfl)) (fun _ _ _ _ _ _ _ _ _ => pts_nil) (fun _ _ _ _ _ _ _ _ r => pcall D3 (r.mono (by decide)) pass0 rfl (pa_cons (pv 4) (pa_cons (pv 2) (pa_cons (pv 5) pa_nil)))))))))) (pss_one (ps_ret pe_bl)) pss_nil)
    (pss_one (ps_ret (pe_and (pcall D4 (hr.mono (by decide)) pass0 rfl (pa_cons (pv 3) pa_nil)) (pe_one (pcall D5 (hr.mono (by decide)) pass0 rfl (pa_cons (pv 3) pa_nil)))))))), ?_⟩
  refine ⟨u, rfl, v, rfl, _, rfl, u, v, m, t, o, cd, ly, s, fl, bs, wt, x, rfl, k.toKS0, hw, hx, fun H1 g1 => ?_⟩
  refine ⟨u, rfl, v, rfl, u, v, m, t, o, cd, ly, s, fl, bss, bs, wt, rfl, k.ge g1, h100, fun H2 tb g2 _ htb => ?_⟩
  have g12 := g1.trans g2
  refine rd_tIsi rfl (g12.da hd) ⟨_, rfl, ?_⟩
  cases ty : isTy "list" d with
  | false =>
    have z := q H2 g12
    have e1 : apartB (boundK (factsK fl bs) bss) x d = false := by
      cases d <;> first | rfl | simp [isTy, tyName] at ty
    rw [e1] at z
    exact iteT (iteT z)
  | true =>
    obtain ⟨ds, rfl⟩ := isTy_list ty
    have hd2 := g12.da hd
    cases hd2 with
    | @lst a xs _ ha hda =>
      obtain ⟨ask1, ask2⟩ := ask
      have hT := g12.tb k.tb
      refine iteF ?_
      refine rd_allL (occB (boundK (factsK fl bs) bss) x) rfl ha hda (hT Pt hPt) (fun _ => rfl) (fun y d' H' hm g hd' R hR => ⟨_, rfl, _, rfl, _, rfl, tb, x, y, d', _, rfl, g.dk htb, hx, hd', ask2 d' hm, g.tb hT, hR⟩) fun H3 g3 => ⟨_, rfl, ?_⟩
      have q' : ∀ H', Ge H H' → Q (.bl (ds.all (occB (boundK (factsK fl bs) bss) x) && (ascO (ds.map toOcc) && apartI 0 (ds.map toOcc)))) H' := q
      cases e1 : ds.all (occB (boundK (factsK fl bs) bss) x) with
      | false =>
        have z := q' H3 (g12.trans g3)
        rw [e1] at z
        exact iteT z
      | true =>
        rw [e1, Bool.true_and] at q'
        have eo := occ_to e1
        have hda3 : DaAll K H3 xs ((ds.map toOcc).map occD) := by rw [← eo]; exact g3.daAll hda
        have l100 : ∀ o ∈ ds.map toOcc, o.2.length ≤ 100 := fun o ho => by
          obtain ⟨d', hd', rfl⟩ := List.mem_map.mp ho
          obtain ⟨i, y, rfl, _, _, hk, _⟩ := occ_shape (List.all_eq_true.mp e1 d' hd')
          exact Nat.le_trans (keys_len hk) (by decide)
        have hL3 : SqL K H3 a xs := Or.inl (g3.rd (fun ps z => by cases z) ha)
        refine iteF ⟨_, rfl, a, xs, ds.map toOcc, rfl, hL3, hda3, fun H4 g4 => ?_⟩
        cases e2 : ascO (ds.map toOcc) with
        | false =>
          have z := q' H4 ((g12.trans g3).trans g4)
          rw [e2] at z
          exact ⟨_, rfl, iteF z⟩
        | true =>
          rw [e2, Bool.true_and] at q'
          exact ⟨_, rfl, iteT ⟨_, rfl, a, xs, ds.map toOcc, rfl, g4.sqL hL3, g4.daAll hda3, l100, fun H5 g5 => q' H5 (((g12.trans g3).trans g4).trans g5)⟩⟩
end
end Pr
set_option maxRecDepth 100000
set_option maxHeartbeats 4000000
/-! the law: a value that is no keymap -/
namespace Pr
open PySem PySem.Spec PyProof.Rows L2 GxR Gx Rp Dl Pd Tx 
def PM (d : PyData) : Prop := Sw d 2001500 30 ∧ isMap d = false
def PW (d : PyData) : Prop := Sw d 200 5 ∧ isWithin 1 1000 d = false
def PL (fs : List PyData) (cs : List (PyData × PyData)) (n : Nat) (d : PyData) : Prop := Sw d (n + 1000) 20 ∧ areLayers fs cs d = false
def PB (fs : List PyData) (cs : List (PyData × PyData)) (d : PyData) : Prop := Sw d 300 6 ∧ isBinding fs cs d = false
def PF (d : PyData) : Prop := Sw d 300 6 ∧ areFlags d = false
def PO (fs : List PyData) (n : Nat) (d : PyData) : Prop := Sw d (n + 300) 12 ∧ areOutside fs d = false
def PC (fs : List PyData) (d : PyData) : Prop := Sw d 300 6 ∧ areCommands fs d = false
section
variable {p cc : Addr} {S : Addr → Prop} {K : PySem.W.Frag} {σ : L2.St} {k : Nat} {t : TE} {rest : TS} {D : Ends} {H : Hp} {a m i : Nat} {G : PyData → Prop} {d : PyData}
theorem co_asgn (h : CO K p S cc H σ k m t G) (w : Wd p cc S H a) (ha : a + k ≤ 90000) (q : ∀ l H', GeP p H H' → Wd p cc S H' (a + k) → CandAt K S H' l m G → rest D (σ.set i (some (.ref l))) H') : tSeq (tAsg t (gName i)) rest D σ H := h H a _ GeP.refl w ha q
theorem dx_asgn (h : DX K p S cc H σ t d) (w : Wd p cc S H a) (ha : a ≤ 90000) (q : ∀ v H', GeP p H H' → Wd p cc S H' a → Da K (wos S H') v d → rest D (σ.set i (some v)) H') : tSeq (tAsg t (gName i)) rest D σ H := h H a _ GeP.refl w ha fun v e H' g w' h' z => q v H' g w' (by rw [← show e = d from z]; exact h')
theorem wos_add {S : Addr → Prop} {H : Hp} {r : Addr} {o : HO} (h : H r = none) : wos (fun b => S b ∨ b = r) (upd H r o) = wos S H := by
  funext b
  by_cases z : S b
  · rw [wos_in (Or.inl z : S b ∨ b = r), wos_in z]
  · by_cases y : b = r
    · rw [wos_in (Or.inr y : S b ∨ b = r), wos_ne z, y, h]
    · rw [wos_ne (fun q => q.elim z y), wos_ne z, upd_ne y]
theorem wd_add {S : Addr → Prop} {H : Hp} {p cc r : Addr} {a : Nat} {xs : List V} (w : Wd p cc S H a) (h : H r = none) : Wd p cc (fun b => S b ∨ b = r) (upd H r (.lst xs)) a :=
  ⟨w.pen.ge (Ge.new h), Or.inl w.sp, fun b hb => by
    by_cases y : b = r
    · exact ⟨xs, by rw [y]; exact upd_same⟩
    · obtain ⟨ys, e⟩ := w.al b (hb.resolve_right y)
      exact ⟨ys, by rw [upd_ne y]; exact e⟩⟩
theorem cand_add {S : Addr → Prop} {K : PySem.W.Frag} {H : Hp} {r l : Addr} {m : Nat} {G : PyData → Prop} {xs : List V} (c : CandAt K S H l m G) (h : H r = none) : CandAt K (fun b => S b ∨ b = r) (upd H r (.lst xs)) l m G := by
  obtain ⟨vs, ds, h1, h2, h3, h4, h5⟩ := c
  have n : l ≠ r := fun z => by rw [z, h] at h1; cases h1
  exact ⟨vs, ds, by rw [upd_ne n]; exact h1, fun z => z.elim h2 n, h3, by rw [wos_add h]; exact h4, h5⟩
theorem cat_asgnF {p cc : Addr} {S : Addr → Prop} {K : PySem.W.Frag} {σ : L2.St} {t : TE} {rest : TS} {D : Ends} {H : Hp} {a m1 m2 i j : Nat} {l1 : Addr} {G : PyData → Prop} (e : σ[j]? = some (some (.ref l1))) (c1 : CandAt K S H l1 m1 G) (h : CO K p S cc H σ 0 m2 t G) (w : Wd p cc S H a) (ha : a ≤ 90000) (hm : m1 + m2 ≤ 10000)
    (q : ∀ r H' vs ds, GeP p H H' → H' r = none → Wd p cc S H' a → vs.length = m1 + m2 → DaAll K (wos S H') vs ds → (∀ d ∈ ds, G d) → rest D (σ.set i (some (.ref r))) (upd H' r (.lst vs))) : tSeq (tAsg (tOp rCat (tVar j) t) (gName i)) rest D σ H :=
  ⟨_, e, h H a _ GeP.refl w ha fun l2 H2 g2 hp2 c2 => by
    obtain ⟨vs, ds, x1, x2, x3, x4, x5⟩ := c1.gp g2 w.sp
    obtain ⟨us, es, y1, y2, y3, y4, y5⟩ := c2
    refine ⟨l1, l2, vs, us, rfl, rfl, x1, y1, by rw [x3, y3]; exact Nat.le_trans hm (by decide), fun r hr => ?_⟩
    refine q r H2 _ (ds ++ es) g2 hr hp2 (by rw [List.length_append, x3, y3]) (daAll_appU x4 y4) fun d hd => ?_
    rcases List.mem_append.mp hd with hd | hd
    · exact x5 d hd
    · exact y5 d hd⟩
theorem wos_le {S S2 : Addr → Prop} {H : Hp} (h : ∀ b, S b → S2 b) : Ge (wos S2 H) (wos S H) := by
  refine ⟨fun b o e _ => ?_, fun b ⟨ps, e, t⟩ => ⟨ps, ?_, t⟩⟩ <;> by_cases z : S2 b
  · rw [wos_in z] at e; cases e
  · rw [wos_ne z] at e
    rw [wos_ne (fun y => z (h b y))]
    exact e
  · rw [wos_in z] at e; cases e
  · rw [wos_ne z] at e
    rw [wos_ne (fun y => z (h b y))]
    exact e
theorem gone_before {p r : Addr} {H H' : Hp} {px : List V} (g : GeP p H H') (h : H' r = none) (hp : H' p = some (.lst px)) (ht : ∀ ps, H r = some (.tbl ps) → False) : H r = none := by
  cases e : H r with
  | none => rfl
  | some o =>
    have np : r ≠ p := fun z => by rw [z, hp] at h; cases h
    have z := g.1 r o np e (fun ps z => ht ps (by rw [e, z]))
    rw [h] at z
    cases z
/-- all stays but the pen and one list -/
structure GeR (p r : Addr) (H H' : Hp) : Prop where
  o : ∀ b o, b ≠ p → b ≠ r → H b = some o → (∀ ps, o ≠ .tbl ps) → H' b = some o
  t : ∀ b, b ≠ r → TabG H b → TabG H' b
theorem GeR.refl {p r : Addr} {H : Hp} : GeR p r H H := ⟨fun _ _ _ _ e _ => e, fun _ _ t => t⟩
theorem GeR.put {p r : Addr} {H H' : Hp} {u : HO} (g : GeR p r H H') : GeR p r H (upd H' r u) := ⟨fun b o h1 h2 e n => by rw [upd_ne h2]; exact g.o b o h1 h2 e n, fun b h t => by
  obtain ⟨ps, e, z⟩ := g.t b h t
  exact ⟨ps, by rw [upd_ne h]; exact e, z⟩⟩
theorem GeR.trans {p r : Addr} {H H' H2 : Hp} (g : GeR p r H H') (h : GeP p H' H2) : GeR p r H H2 := ⟨fun b o h1 h2 e n => h.1 b o h1 (g.o b o h1 h2 e n) n, fun b n t => h.2 b (g.t b n t)⟩
theorem GeR.out {p r : Addr} {H H' H2 : Hp} (g : GeP p H H') (n : H' r = none) (h : GeR p r H' H2) : GeP p H H2 := by
  refine ⟨fun b o h1 e n2 => ?_, fun b t => ?_⟩
  · have z := g.1 b o h1 e n2
    exact h.o b o h1 (fun y => by rw [y, n] at z; cases z) z n2
  · have z := g.2 b t
    exact h.t b (fun y => by
      obtain ⟨ps, e, _⟩ := z
      rw [y, n] at e
      cases e) z
theorem loop_cand {p cc : Addr} {S : Addr → Prop} {K : PySem.W.Frag} {σ : L2.St} {t : TE} {body : TS} {rest : TS} {D : Ends} {H : Hp} {a m : Nat} {g : TG} {G : PyData → Prop} (h : CO K p S cc H σ 0 m t G) (w : Wd p cc S H a) (ha : a ≤ 90000)
    (q : ∀ l H' vs ds, GeP p H H' → Wd p cc S H' a → H' l = some (.lst vs) → ¬ S l → vs.length = m → DaAll K (wos S H') vs ds → (∀ d ∈ ds, G d) → tFor (fun _ H1 R => R (Itl K l) H1) g body { D with nx := rest D } σ H') : tSeq (tFor (iList K t) g body) rest D σ H :=
  h H a _ GeP.refl w ha fun l H' g' w' ⟨vs, ds, h1, h2, h3, h4, h5⟩ => ⟨l, rfl, ⟨vs, SqL.of h1⟩, q l H' vs ds g' w' h1 h2 h3 h4 h5⟩
theorem swA_app {as bs : List PyData} {n m a b : Nat} (h : SwA as n a) (h' : SwA bs m b) : SwA (as ++ bs) (n + m) (max a b) := by
  induction as generalizing n a with
  | nil =>
    refine ⟨h'.s, Nat.le_trans h'.p (by omega), Nat.le_trans h'.d (by omega), h'.m⟩
  | cons x r ih =>
    have s1 : x.showable = true ∧ PyData.showableAll r = true := by simpa only [PyData.showableAll, Bool.and_eq_true] using h.s
    have m1 : small x = true ∧ smallAll r = true := by simpa only [smallAll, Bool.and_eq_true] using h.m
    have p1 : x.shown.length + 2 + piled (PyData.shownAll r) ≤ n := by
      have := h.p
      simp only [PyData.shownAll, piled_cons] at this
      omega
    have d1 := h.d
    simp only [PyData.depthAll] at d1
    have q := ih (n := n - (x.shown.length + 2)) (a := a) ⟨s1.2, by omega, by omega, m1.2⟩
    refine ⟨?_, ?_, ?_, ?_⟩
    · show PyData.showableAll (x :: (r ++ bs)) = true
      simp only [PyData.showableAll, s1.1, q.s, Bool.and_self]
    · show piled (PyData.shownAll (x :: (r ++ bs))) ≤ _
      have := q.p
      simp only [PyData.shownAll, piled_cons]
      omega
    · show PyData.depthAll (x :: (r ++ bs)) ≤ _
      have := q.d
      simp only [PyData.depthAll]
      omega
    · show smallAll (x :: (r ++ bs)) = true
      simp only [smallAll, m1.1, q.m, Bool.and_self]
theorem wos_put {S : Addr → Prop} {H : Hp} {r : Addr} {o : HO} (h : S r) : wos S (upd H r o) = wos S H := by
  funext b
  by_cases z : S b
  · rw [wos_in z, wos_in z]
  · rw [wos_ne z, wos_ne z, upd_ne (fun y => z (by rw [y]; exact h))]
end
section
variable {P : Program} {w : World} {K : PySem.W.Frag} {mg : Str → Option Value} {base : Heap} {T : List Addr}
def spOdm (K : PySem.W.Frag) : Sp := fun vs H Q _ => ∃ (p cc m : Addr) (S : Addr → Prop) (a : Nat) (fs : List PyData) (o c l w : PyData) (vf vo vc vl vw : V) (nf no nc nl nw : Nat), vs = [.ref p, .ref m] ∧ Wd p cc S H a ∧ a + 1 ≤ 90000 ∧ H m = some (.tup [vf, vo, vc, vl, vw]) ∧ Da K (wos S H) (.ref m) (.tuple [.tuple fs, o, c, l, w]) ∧ Da K (wos S H) vf (.tuple fs) ∧ Da K (wos S H) vo o ∧ Da K (wos S H) vc c ∧ Da K (wos S H) vl l ∧ Da K (wos S H) vw w ∧
  Sw (.tuple fs) nf 9 ∧ Sw o no 9 ∧ Sw c nc 9 ∧ Sw l nl 9 ∧ Sw w nw 9 ∧ nf + no + nc + nl + nw ≤ 2000000 ∧ memS fs (.str "zz") = false ∧ memC (itemsD c) (.str "zz") = false ∧ fs.length ≤ 3 ∧ SwA fs 250 8 ∧ ∀ H' v d, GeP p H H' → Wd p cc S H' (a + 1) → Da K (wos S H') v d → PM d → Q v H'
abbrev nOdm : List Str := ["_law_pen", "_law_keymap", "_law_flags", "_law_outside", "_law_commands", "_law_layers", "_law_wait", "_law_key", "_law_some", "_law_wrong", "_law_odd", "_law_bad"]
theorem scOdm : FnScope nOdm ["_law_pen", "_law_keymap"] (defScope s_law_odd_map) := ⟨rfl, rfl, rfl, by decide +kernel, rfl, by decide +kernel, by decide +kernel⟩
theorem ok_law_odd_map {f c : Addr} {fd : FuncData} (F : FunC K "_law_odd_map" s_law_odd_map f fd c) (B : Bn mg) (D1 : DfP P w K mg base 2 "_law_take" ["_law_pen", "_law_many"] spTake) : FnOk P w K mg base CX0 3 f fd ["_law_pen", "_law_keymap"] (spOdm K) := by
  refine F.ok scOdm (fun vs H Q E ⟨_, _, _, _, _, _, _, _, _, _, _, _, _, _, _, _, _, _, _, _, h, _⟩ => by rw [h]; rfl) (fun A outer s0 H vs Q E hr h => ?_)
  have hu2 := hr.units
  obtain ⟨p, cc, m, S, a, fs, o, c, l, w, vf, vo, vc, vl, vw, nf, no, nc, nl, nw, rfl, w0, ha, hm, dm, df, do_, dc, dl, dw, hf, ho, hc, hl, hw, hsum, zz, zc, f3, hfa, q⟩ := h
  refine ⟨_, pss_cons (ps_asg (pv 1) (pg_tup rfl (pgs_cons (pg_name (i := 2) scOdm.nd rfl (Or.inr rfl)) (pgs_cons (pg_name (i := 3) scOdm.nd rfl (Or.inr rfl)) (pgs_cons (pg_name (i := 4) scOdm.nd rfl (Or.inl rfl)) (pgs_cons (pg_name (i := 5) scOdm.nd rfl (Or.inr rfl)) (pgs_cons (pg_name (i := 6) scOdm.nd rfl (Or.inr rfl)) pgs_nil)))))))
    (pss_cons (ps_asg (pe_tup (pa_cons pe_str (pa_cons pe_dnewK (pa_cons pe_non pa_nil)))) (pg_name (i := 7) scOdm.nd rfl (Or.inl rfl)))
    (pss_cons (ps_asg (pe_lst (pa_cons pe_non (pa_cons pe_int (pa_cons pe_str (pa_cons (pe_lst pa_nil) (pa_cons pe_dnewK (pa_cons (pe_tup pa_nil) (pa_cons (pe_slice sl_tupA (pv 1) po_none (po_some pe_int)) (pa_cons (pe_op op_catA (pv 1) (pe_tup (pa_cons pe_int pa_nil))) (pa_cons (pe_callTy call_list_of rfl B.list bt_list (pa_cons (pv 1) pa_nil)) pa_nil)))))))))) (pg_name (i := 8) scOdm.nd rfl (Or.inl rfl)))
    (pss_cons (ps_asg (pe_op op_cat (pv 8) (pe_lc (own := [("_law_wrong", 9)]) (g := gName 9) (tt := tYes) rfl scOdm.nd (pi_list (pe_lst (pa_cons pe_int (pa_cons pe_int (pa_cons (pe_un un_neg pe_int) (pa_cons pe_bl (pa_cons pe_non (pa_cons pe_str (pa_cons (pe_tup (pa_cons pe_int pa_nil)) pa_nil))))))))) (blkOk_by (N := nOdm) (sc := defScope s_law_odd_map) (by decide +kernel)) (fun _ _ _ _ _ => (pg_name (i := 9) scOdm.nd rfl (Or.inl rfl))) (fun _ _ _ _ _ => pts_nil) (fun _ _ _ _ _ => (pe_op (op_catK rfl) (pe_slice (sl_tupK rfl) (pv 1) po_none (po_some pe_int)) (pe_tup (pa_cons (pv 9) pa_nil)))))) (pg_name (i := 8) scOdm.nd rfl (Or.inl rfl)))
    (pss_cons (ps_asg (pe_lst (pa_cons pe_non (pa_cons (pe_tup pa_nil) (pa_cons (pe_lst pa_nil) (pa_cons (pe_op op_repT (pe_tup (pa_cons (pe_tup pa_nil) pa_nil)) pe_int) (pa_cons (pe_lst (pa_cons (pv 5) pa_nil)) (pa_cons (pe_tup (pa_cons pe_non pa_nil)) (pa_cons (pe_tup (pa_cons (pe_lst pa_nil) pa_nil)) pa_nil)))))))) (pg_name (i := 10) scOdm.nd rfl (Or.inl rfl)))
    (pss_cons (ps_asg (pe_op op_cat (pv 10) (pe_lst (pa_cons (pe_tup (pa_cons (pe_op op_repT (pe_tup (pa_cons (pv 7) pa_nil)) pe_int) pa_nil)) (pa_cons (pe_tup (pa_cons (pe_tup (pa_cons pe_non pa_nil)) pa_nil)) (pa_cons (pe_tup (pa_cons (pe_tup (pa_cons (pe_tup (pa_cons pe_str (pa_cons pe_dnewK pa_nil))) pa_nil)) pa_nil)) (pa_cons (pe_tup (pa_cons (pe_tup (pa_cons (pe_tup (pa_cons pe_str (pa_cons pe_dnewK (pa_cons pe_non pa_nil)))) pa_nil)) pa_nil)) pa_nil)))))) (pg_name (i := 10) scOdm.nd rfl (Or.inl rfl)))
    (pss_cons (ps_asg (pe_lst (pa_cons (pe_tup (pa_cons pe_str (pa_cons pe_dnewK (pa_cons pe_non pa_nil)))) (pa_cons (pe_tup (pa_cons pe_str (pa_cons pe_dnewK (pa_cons pe_non pa_nil)))) (pa_cons (pe_tup (pa_cons pe_str (pa_cons pe_non (pa_cons pe_non pa_nil)))) (pa_cons (pe_tup (pa_cons pe_str (pa_cons (pe_disp (pps_cons pe_str pe_bl pps_nil) (by rfl) (by rfl) (by simp) (by decide)) (pa_cons pe_non pa_nil)))) pa_nil))))) (pg_name (i := 11) scOdm.nd rfl (Or.inl rfl)))
    (pss_cons (ps_asg (pe_op op_cat (pv 11) (pe_lst (pa_cons (pe_tup (pa_cons pe_str (pa_cons pe_dnewK (pa_cons pe_str pa_nil)))) (pa_cons (pe_tup (pa_cons pe_str (pa_cons pe_dnewK (pa_cons pe_int pa_nil)))) (pa_cons (pe_lst (pa_cons pe_str (pa_cons pe_dnewK (pa_cons pe_non pa_nil)))) (pa_cons (pe_tup (pa_cons pe_non (pa_cons pe_dnewK (pa_cons pe_non pa_nil)))) (pa_cons (pe_tup (pa_cons pe_str (pa_cons pe_dnewK (pa_cons (pe_lst pa_nil) pa_nil)))) pa_nil))))))) (pg_name (i := 11) scOdm.nd rfl (Or.inl rfl)))
    (pss_cons (ps_for PassesOwn.never rfl (pi_list (pe_op op_cat (pv 11) (pe_lst (pa_cons (pe_tup (pa_cons pe_str (pa_cons pe_dnewK (pa_cons pe_non pa_nil)))) (pa_cons (pe_tup (pa_cons pe_str (pa_cons (pe_lst pa_nil) (pa_cons pe_non pa_nil)))) pa_nil))))) (pg_name (i := 9) scOdm.nd rfl (Or.inl rfl))
      (pss_one (ps_expr (pe_bm PySem.F.plainAttrs_list PySem.F.slot_list_append PySem.F.type_list_append mt_append (pv 10) (pa_cons (pe_tup (pa_cons (pe_tup (pa_cons (pv 7) (pa_cons (pv 9) pa_nil))) pa_nil)) pa_nil)))))
    (pss_cons (ps_asg (pe_op op_cat (pv 8) (pe_lc (own := [("_law_wrong", 9)]) (g := gName 9) (tt := tYes) rfl scOdm.nd (pi_list (pv 10)) (blkOk_by (N := nOdm) (sc := defScope s_law_odd_map) (by decide +kernel)) (fun _ _ _ _ _ => (pg_name (i := 9) scOdm.nd rfl (Or.inl rfl))) (fun _ _ _ _ _ => pts_nil) (fun _ _ _ _ _ => (pe_op (op_catK rfl) (pe_slice (sl_tupK rfl) (pv 1) po_none (po_some pe_int)) (pe_tup (pa_cons (pv 9) (pa_cons (pv 6) pa_nil))))))) (pg_name (i := 8) scOdm.nd rfl (Or.inl rfl)))
    (pss_cons (ps_asg (pe_lst (pa_cons pe_non (pa_cons (pe_lst pa_nil) (pa_cons (pe_tup (pa_cons pe_str (pa_cons pe_str pa_nil))) (pa_cons (pe_tup (pa_cons pe_str (pa_cons pe_str pa_nil))) (pa_cons (pe_tup (pa_cons pe_str pa_nil)) (pa_cons (pe_tup (pa_cons pe_str (pa_cons pe_str (pa_cons pe_str (pa_cons pe_str pa_nil))))) (pa_cons pe_str pa_nil)))))))) (pg_name (i := 10) scOdm.nd rfl (Or.inl rfl)))
    (pss_cons (ps_asg (pe_op op_cat (pv 8) (pe_lc (own := [("_law_wrong", 9)]) (g := gName 9) (tt := tYes) rfl scOdm.nd (pi_list (pv 10)) (blkOk_by (N := nOdm) (sc := defScope s_law_odd_map) (by decide +kernel)) (fun _ _ _ _ _ => (pg_name (i := 9) scOdm.nd rfl (Or.inl rfl))) (fun _ _ _ _ _ => pts_nil) (fun _ _ _ _ _ => (pe_op (op_catK rfl) (pe_tup (pa_cons (pv 9) pa_nil)) (pe_slice (sl_tupK rfl) (pv 1) (po_some pe_int) po_none))))) (pg_name (i := 8) scOdm.nd rfl (Or.inl rfl)))
    (pss_cons (ps_asg (pe_lst (pa_cons pe_non (pa_cons (pe_lst pa_nil) (pa_cons (pe_tup (pa_cons pe_str pa_nil)) (pa_cons (pe_op op_catA (pv 2) (pe_tup (pa_cons pe_str pa_nil))) (pa_cons pe_str (pa_cons (pe_tup (pa_cons pe_bl pa_nil)) pa_nil))))))) (pg_name (i := 10) scOdm.nd rfl (Or.inl rfl)))
    (pss_cons (ps_asg (pe_op op_cat (pv 8) (pe_lc (own := [("_law_wrong", 9)]) (g := gName 9) (tt := tYes) rfl scOdm.nd (pi_list (pv 10)) (blkOk_by (N := nOdm) (sc := defScope s_law_odd_map) (by decide +kernel)) (fun _ _ _ _ _ => (pg_name (i := 9) scOdm.nd rfl (Or.inl rfl))) (fun _ _ _ _ _ => pts_nil) (fun _ _ _ _ _ => (pe_op (op_catK rfl) (pe_tup (pa_cons (pv 2) (pa_cons (pv 9) pa_nil))) (pe_slice (sl_tupK rfl) (pv 1) (po_some pe_int) po_none))))) (pg_name (i := 8) scOdm.nd rfl (Or.inl rfl)))
    (pss_cons (ps_asg (pe_lst (pa_cons pe_non (pa_cons (pe_lst pa_nil) (pa_cons (pe_disp (pps_cons pe_str pe_dnewK pps_nil) (by rfl) (by rfl) (by simp) (by decide)) (pa_cons (pe_disp (pps_cons pe_str pe_non pps_nil) (by rfl) (by rfl) (by simp) (by decide)) (pa_cons (pe_disp (pps_cons pe_str (pe_disp (pps_cons pe_str pe_bl pps_nil) (by rfl) (by rfl) (by simp) (by decide)) pps_nil) (by rfl) (by rfl) (by simp) (by decide)) pa_nil)))))) (pg_name (i := 10) scOdm.nd rfl (Or.inl rfl)))
    (pss_cons (ps_asg (pe_op op_cat (pv 8) (pe_lc (own := [("_law_wrong", 9)]) (g := gName 9) (tt := tYes) rfl scOdm.nd (pi_list (pv 10)) (blkOk_by (N := nOdm) (sc := defScope s_law_odd_map) (by decide +kernel)) (fun _ _ _ _ _ => (pg_name (i := 9) scOdm.nd rfl (Or.inl rfl))) (fun _ _ _ _ _ => pts_nil) (fun _ _ _ _ _ => (pe_tup (pa_cons (pv 2) (pa_cons (pv 3) (pa_cons (pv 9) (pa_cons (pv 5) (pa_cons (pv 6) pa_nil))))))))) (pg_name (i := 8) scOdm.nd rfl (Or.inl rfl)))
    (pss_one (ps_ret (pe_ix ix_list (pv 8) (pcall D1 (hr.mono (by decide)) pass0 rfl (pa_cons (pv 0) (pa_cons (pe_callB call_len_seq rfl B.len PySem.boot_len (pa_cons (pv 8) pa_nil)) pa_nil))) (fun _ _ => rfl))))))))))))))))))), ?_⟩
  refine ⟨_, rfl, m, _, rfl, SqT.of hm, rfl, _, _, rfl, _, _, rfl, _, _, rfl, _, _, rfl, _, _, rfl, rfl, ?_⟩
  dsimp only []
  refine dx_asgn (K := K) (d := .tuple [.str "a", .dict [], .none]) ?k1 w0 (by omega) fun vk H1 g1 w1 dkey => ?_
  case k1 => exact (dx_tup (ax_cons dx_str (ax_cons dx_dict0 (ax_cons dx_non ax_nil))))
  have e1 := g1.w w0.sp
  replace dm := e1.da dm
  replace df := e1.da df
  replace do_ := e1.da do_
  replace dc := e1.da dc
  replace dl := e1.da dl
  replace dw := e1.da dw
  refine co_asgn (K := K) (k := 0) (m := 9) (G := PM) ?k2 w1 (by omega) fun l2 H2 g2 w2 c2 => ?_
  case k2 => exact (co_lst (go_cons (k1 := 0) (DX.g (d := .none) dx_non ⟨sw_cl (by decide +kernel), by decide +kernel⟩) (go_cons (k1 := 0) (DX.g (d := (.int 0)) dx_int ⟨sw_cl (by decide +kernel), by decide +kernel⟩) (go_cons (k1 := 0) (DX.g (d := (.str "map")) dx_str ⟨sw_cl (by decide +kernel), by decide +kernel⟩) (go_cons (k1 := 0) (DX.g (d := (.list [])) (dx_lst ax_nil) ⟨sw_cl (by decide +kernel), by decide +kernel⟩) (go_cons (k1 := 0) (DX.g (d := (.dict [])) dx_dict0 ⟨sw_cl (by decide +kernel), by decide +kernel⟩) (go_cons (k1 := 0) (DX.g (d := (.tuple [])) (dx_tup ax_nil) ⟨sw_cl (by decide +kernel), by decide +kernel⟩) (go_cons (k1 := 0) (DX.g (d := .tuple [.tuple fs, o, c, l]) (dx_cut (dx_var rfl dm) po_no po_in) ⟨Sw.mono (sw_tup (sw_cons hf (sw_cons ho (sw_cons hc (sw_cons hl sw_nil))))) (by omega) (by decide), rfl⟩) (go_cons (k1 := 0) (DX.g (d := .tuple [.tuple fs, o, c, l, w, .int 0]) (dx_cat (dx_var rfl dm) (dx_tup (ax_cons dx_int ax_nil))) ⟨Sw.mono (sw_tup (sw_cons hf (sw_cons ho (sw_cons hc (sw_cons hl (sw_cons hw (sw_cons (sw_cl (n := 10) (dp := 0) (by decide +kernel)) sw_nil))))))) (by omega) (by decide), rfl⟩) (go_cons (k1 := 0) (DX.g (d := .list [.tuple fs, o, c, l, w]) (dx_listof (dx_var rfl dm)) ⟨Sw.mono (sw_lst (sw_cons hf (sw_cons ho (sw_cons hc (sw_cons hl (sw_cons hw sw_nil)))))) (by omega) (by decide), rfl⟩) go_nil))))))))))
  have e2 := g2.w w1.sp
  replace dm := e2.da dm
  replace df := e2.da df
  replace do_ := e2.da do_
  replace dc := e2.da dc
  replace dl := e2.da dl
  replace dw := e2.da dw
  replace dkey := e2.da dkey
  refine co_asgn (K := K) (k := 0) (m := 16) (G := PM) ?k3 w2 (by omega) fun l3 H3 g3 w3 c3 => ?_
  case k3 => exact (co_cat (k1 := 0) (k2 := 0) (m1 := 9) (m2 := 7) (co_var rfl c2) (co_lc (k := 0) (m := 7) (k1 := 0) (G1 := PW) (co_lst (go_cons (k1 := 0) (DX.g (d := (.int 0)) dx_int ⟨sw_cl (by decide +kernel), by decide +kernel⟩) (go_cons (k1 := 0) (DX.g (d := (.int 1001)) dx_int ⟨sw_cl (by decide +kernel), by decide +kernel⟩) (go_cons (k1 := 0) (DX.g (d := (.int (-1))) dx_neg ⟨sw_cl (by decide +kernel), by decide +kernel⟩) (go_cons (k1 := 0) (DX.g (d := (.bool true)) dx_bl ⟨sw_cl (by decide +kernel), by decide +kernel⟩) (go_cons (k1 := 0) (DX.g (d := .none) dx_non ⟨sw_cl (by decide +kernel), by decide +kernel⟩) (go_cons (k1 := 0) (DX.g (d := (.str "5")) dx_str ⟨sw_cl (by decide +kernel), by decide +kernel⟩) (go_cons (k1 := 0) (DX.g (d := (.tuple [(.int 5)])) (dx_tup (ax_cons dx_int ax_nil)) ⟨sw_cl (by decide +kernel), by decide +kernel⟩) go_nil)))))))) (fun v d H1 S1 gs hv hg => DX.g (d := .tuple [.tuple fs, o, c, l, d]) (dx_cat (as := [.tuple fs, o, c, l]) (dx_cut (dx_var rfl (gs.da dm)) po_no po_in) (dx_tup (ax_cons (dx_var rfl hv) ax_nil))) ⟨Sw.mono (sw_tup (sw_cons hf (sw_cons ho (sw_cons hc (sw_cons hl (sw_cons hg.1 sw_nil)))))) (by omega) (by decide), im_w hg.2⟩)))
  have e3 := g3.w w2.sp
  replace dm := e3.da dm
  replace df := e3.da df
  replace do_ := e3.da do_
  replace dc := e3.da dc
  replace dl := e3.da dl
  replace dw := e3.da dw
  replace dkey := e3.da dkey
  refine co_asgn (K := K) (k := 0) (m := 7) (G := PL fs (itemsD c) nl) ?k4 w3 (by omega) fun l4 H4 g4 w4 c4 => ?_
  case k4 => exact (co_lst (go_cons (k1 := 0) (DX.g (d := .none) dx_non ⟨Sw.mono (sw_cl (n := 1000) (dp := 20) (by decide +kernel)) (by omega) (by decide), rfl⟩) (go_cons (k1 := 0) (DX.g (d := (.tuple [])) (dx_tup ax_nil) ⟨Sw.mono (sw_cl (n := 1000) (dp := 20) (by decide +kernel)) (by omega) (by decide), rfl⟩) (go_cons (k1 := 0) (DX.g (d := (.list [])) (dx_lst ax_nil) ⟨Sw.mono (sw_cl (n := 1000) (dp := 20) (by decide +kernel)) (by omega) (by decide), rfl⟩) (go_cons (k1 := 0) (DX.g (d := (.tuple (List.replicate (5 : Int).toNat [(.tuple [])]).flatten)) (dx_rep (dx_tup (ax_cons (dx_tup ax_nil) ax_nil)) (by simp) (by simp) (by decide) (by decide)) ⟨Sw.mono (sw_cl (n := 1000) (dp := 20) (by decide +kernel)) (by omega) (by decide), rfl⟩) (go_cons (k1 := 0) (DX.g (d := (.list [l])) (dx_lst (ax_cons (dx_var rfl dl) ax_nil)) ⟨Sw.mono (sw_lst (sw_cons hl sw_nil)) (by omega) (by decide), rfl⟩) (go_cons (k1 := 0) (DX.g (d := (.tuple [.none])) (dx_tup (ax_cons dx_non ax_nil)) ⟨Sw.mono (sw_cl (n := 1000) (dp := 20) (by decide +kernel)) (by omega) (by decide), rfl⟩) (go_cons (k1 := 0) (DX.g (d := (.tuple [(.list [])])) (dx_tup (ax_cons (dx_lst ax_nil) ax_nil)) ⟨Sw.mono (sw_cl (n := 1000) (dp := 20) (by decide +kernel)) (by omega) (by decide), rfl⟩) go_nil))))))))
  have e4 := g4.w w3.sp
  replace dm := e4.da dm
  replace df := e4.da df
  replace do_ := e4.da do_
  replace dc := e4.da dc
  replace dl := e4.da dl
  replace dw := e4.da dw
  replace dkey := e4.da dkey
  replace c3 := c3.gp g4 w3.sp
  refine cat_asgnF (K := K) (m1 := 7) (m2 := 4) (G := PL fs (itemsD c) nl) ?e5 c4 ?k5 w4 (by omega) (by decide) fun r5 H5 vs5 ds5 g5 n5 w5 len5 dv5 G5 => ?_
  case e5 => rfl
  case k5 => exact (co_lst (go_cons (k1 := 0) (DX.g (d := (.tuple [(.tuple (List.replicate (17 : Int).toNat [(.tuple [.str "a", .dict [], .none])]).flatten)])) (dx_tup (ax_cons (dx_rep (dx_tup (ax_cons (dx_var rfl dkey) ax_nil)) (by simp) (by simp) (by decide) (by decide)) ax_nil)) ⟨Sw.mono (sw_cl (n := 1000) (dp := 20) (by decide +kernel)) (by omega) (by decide), by simp [areLayers, lenT]⟩) (go_cons (k1 := 0) (DX.g (d := (.tuple [(.tuple [.none])])) (dx_tup (ax_cons (dx_tup (ax_cons dx_non ax_nil)) ax_nil)) ⟨Sw.mono (sw_cl (n := 1000) (dp := 20) (by decide +kernel)) (by omega) (by decide), lay_one rfl⟩) (go_cons (k1 := 0) (DX.g (d := (.tuple [(.tuple [(.tuple [(.str "a"), (.dict [])])])])) (dx_tup (ax_cons (dx_tup (ax_cons (dx_tup (ax_cons dx_str (ax_cons dx_dict0 ax_nil))) ax_nil)) ax_nil)) ⟨Sw.mono (sw_cl (n := 1000) (dp := 20) (by decide +kernel)) (by omega) (by decide), lay_one rfl⟩) (go_cons (k1 := 0) (DX.g (d := (.tuple [(.tuple [(.tuple [(.str ""), (.dict []), .none])])])) (dx_tup (ax_cons (dx_tup (ax_cons (dx_tup (ax_cons dx_str (ax_cons dx_dict0 (ax_cons dx_non ax_nil)))) ax_nil)) ax_nil)) ⟨Sw.mono (sw_cl (n := 1000) (dp := 20) (by decide +kernel)) (by omega) (by decide), lay_one (bind_k (by decide +kernel))⟩) go_nil)))))
  have e5 := g5.w w4.sp
  replace dm := e5.da dm
  replace df := e5.da df
  replace do_ := e5.da do_
  replace dc := e5.da dc
  replace dl := e5.da dl
  replace dw := e5.da dw
  replace dkey := e5.da dkey
  replace c3 := c3.gp g5 w4.sp
  replace dm := by rw [← wos_add (o := .lst vs5) n5] at dm; exact dm
  replace df := by rw [← wos_add (o := .lst vs5) n5] at df; exact df
  replace do_ := by rw [← wos_add (o := .lst vs5) n5] at do_; exact do_
  replace dc := by rw [← wos_add (o := .lst vs5) n5] at dc; exact dc
  replace dl := by rw [← wos_add (o := .lst vs5) n5] at dl; exact dl
  replace dw := by rw [← wos_add (o := .lst vs5) n5] at dw; exact dw
  replace dkey := by rw [← wos_add (o := .lst vs5) n5] at dkey; exact dkey
  have w6 := wd_add (xs := vs5) w5 n5
  have c6 := cand_add (xs := vs5) c3 n5
  have dv6 : DaAll K (wos (fun b => S b ∨ b = r5) (upd H5 r5 (.lst vs5))) vs5 ds5 := by rw [wos_add n5]; exact dv5
  have rp5 : r5 ≠ p := (w5.pen.fresh n5).1
  have hr5 : upd H5 r5 (.lst vs5) r5 = some (.lst vs5) := upd_same
  have R5 : GeR p r5 H5 (upd H5 r5 (.lst vs5)) := GeR.put (GeR.refl)
  have gA : GeP p H H5 := (((g1.trans g2).trans g3).trans g4).trans g5
  generalize upd H5 r5 (.lst vs5) = X5 at *
  refine co_asgn (K := K) (k := 0) (m := 4) (G := PB fs (itemsD c)) ?k6 w6 (by omega) fun l6 H6 g6 w7 c7 => ?_
  case k6 => exact (co_lst (go_cons (k1 := 0) (DX.g (d := (.tuple [(.str "abcde"), (.dict []), .none])) (dx_tup (ax_cons dx_str (ax_cons dx_dict0 (ax_cons dx_non ax_nil)))) ⟨sw_cl (by decide +kernel), bind_k (by decide +kernel)⟩) (go_cons (k1 := 0) (DX.g (d := (.tuple [(.str "A"), (.dict []), .none])) (dx_tup (ax_cons dx_str (ax_cons dx_dict0 (ax_cons dx_non ax_nil)))) ⟨sw_cl (by decide +kernel), bind_k (by decide +kernel)⟩) (go_cons (k1 := 0) (DX.g (d := (.tuple [(.str "a"), .none, .none])) (dx_tup (ax_cons dx_str (ax_cons dx_non (ax_cons dx_non ax_nil)))) ⟨sw_cl (by decide +kernel), bind_s rfl⟩) (go_cons (k1 := 0) (DX.g (d := (.tuple [(.str "a"), (.dict [(.str "zz", (.bool true))]), .none])) (dx_tup (ax_cons dx_str (ax_cons (dx_dispF (fun H => .bl true)) (ax_cons dx_non ax_nil)))) ⟨sw_cl (by decide +kernel), bind_s (set_zz zz)⟩) go_nil)))))
  have e6 := GeP.w (S := fun b => S b ∨ b = r5) g6 w6.sp
  replace dm := e6.da dm
  replace df := e6.da df
  replace do_ := e6.da do_
  replace dc := e6.da dc
  replace dl := e6.da dl
  replace dw := e6.da dw
  replace dkey := e6.da dkey
  replace c6 := CandAt.gp (S := fun b => S b ∨ b = r5) c6 g6 w6.sp
  replace dv6 := e6.daAll dv6
  replace hr5 := g6.1 r5 _ rp5 hr5 (fun ps z => by cases z)
  replace R5 := R5.trans g6
  refine co_asgn (K := K) (k := 0) (m := 9) (G := PB fs (itemsD c)) ?k7 w7 (by omega) fun l7 H7 g7 w8 c8 => ?_
  case k7 => exact (co_cat (k1 := 0) (k2 := 0) (m1 := 4) (m2 := 5) (co_var rfl c7) (co_lst (go_cons (k1 := 0) (DX.g (d := (.tuple [(.str "a"), (.dict []), (.str "zz")])) (dx_tup (ax_cons dx_str (ax_cons dx_dict0 (ax_cons dx_str ax_nil)))) ⟨sw_cl (by decide +kernel), bind_c (cmd_zz zc)⟩) (go_cons (k1 := 0) (DX.g (d := (.tuple [(.str "a"), (.dict []), (.int 0)])) (dx_tup (ax_cons dx_str (ax_cons dx_dict0 (ax_cons dx_int ax_nil)))) ⟨sw_cl (by decide +kernel), bind_c rfl⟩) (go_cons (k1 := 0) (DX.g (d := (.list [(.str "a"), (.dict []), .none])) (dx_lst (ax_cons dx_str (ax_cons dx_dict0 (ax_cons dx_non ax_nil)))) ⟨sw_cl (by decide +kernel), rfl⟩) (go_cons (k1 := 0) (DX.g (d := (.tuple [.none, (.dict []), .none])) (dx_tup (ax_cons dx_non (ax_cons dx_dict0 (ax_cons dx_non ax_nil)))) ⟨sw_cl (by decide +kernel), bind_k rfl⟩) (go_cons (k1 := 0) (DX.g (d := (.tuple [(.str "a"), (.dict []), (.list [])])) (dx_tup (ax_cons dx_str (ax_cons dx_dict0 (ax_cons (dx_lst ax_nil) ax_nil)))) ⟨sw_cl (by decide +kernel), bind_c rfl⟩) go_nil)))))))
  have e7 := GeP.w (S := fun b => S b ∨ b = r5) g7 w7.sp
  replace dm := e7.da dm
  replace df := e7.da df
  replace do_ := e7.da do_
  replace dc := e7.da dc
  replace dl := e7.da dl
  replace dw := e7.da dw
  replace dkey := e7.da dkey
  replace c6 := CandAt.gp (S := fun b => S b ∨ b = r5) c6 g7 w7.sp
  replace dv6 := e7.daAll dv6
  replace hr5 := g7.1 r5 _ rp5 hr5 (fun ps z => by cases z)
  replace R5 := R5.trans g7
  refine loop_cand (K := K) (m := 11) (G := PB fs (itemsD c)) ?k8 w8 (by omega) fun l8 H8 vb db g8 w9 hb nb lb dvb Gb => ?_
  case k8 => exact (co_cat (k1 := 0) (k2 := 0) (m1 := 9) (m2 := 2) (co_var rfl c8) (co_lst (go_cons (k1 := 0) (DX.g (d := (.tuple [(.str "a b"), (.dict []), .none])) (dx_tup (ax_cons dx_str (ax_cons dx_dict0 (ax_cons dx_non ax_nil)))) ⟨sw_cl (by decide +kernel), bind_k (by decide +kernel)⟩) (go_cons (k1 := 0) (DX.g (d := (.tuple [(.str "a"), (.list []), .none])) (dx_tup (ax_cons dx_str (ax_cons (dx_lst ax_nil) (ax_cons dx_non ax_nil)))) ⟨sw_cl (by decide +kernel), bind_s rfl⟩) go_nil))))
  have e8 := GeP.w (S := fun b => S b ∨ b = r5) g8 w8.sp
  replace dm := e8.da dm
  replace df := e8.da df
  replace do_ := e8.da do_
  replace dc := e8.da dc
  replace dl := e8.da dl
  replace dw := e8.da dw
  replace dkey := e8.da dkey
  replace c6 := CandAt.gp (S := fun b => S b ∨ b = r5) c6 g8 w8.sp
  replace dv6 := e8.daAll dv6
  replace hr5 := g8.1 r5 _ rp5 hr5 (fun ps z => by cases z)
  replace R5 := R5.trans g8
  have rc5 : r5 ≠ cc := (w5.pen.fresh n5).2
  have nS5 : ¬ S r5 := fun z => by
    obtain ⟨xs, e⟩ := w5.al r5 z
    rw [n5] at e
    cases e
  have lp8 : l8 ≠ p := fun z => nb (Or.inl (by rw [z]; exact w5.sp))
  have lr8 : l8 ≠ r5 := fun z => nb (Or.inr z)
  refine for_list (K := K) (xs := vb) (fun i σ' H' => i ≤ 11 ∧ Wd p cc (fun b => S b ∨ b = r5) H' a ∧ GeR p r5 H8 H' ∧ Ge (wos (fun b => S b ∨ b = r5) H8) (wos (fun b => S b ∨ b = r5) H') ∧ (∃ vs ds, H' r5 = some (.lst vs) ∧ vs.length = 11 + i ∧ DaAll K (wos (fun b => S b ∨ b = r5) H') vs ds ∧ ∀ d ∈ ds, PL fs (itemsD c) nl d) ∧ ∃ x9, σ' = [some (.ref p), some (.ref m), some vf, some vo, some vc, some vl, some vw, some vk, some (.ref l3), x9, some (.ref r5), some (.ref l7)])
    ⟨Nat.zero_le _, w9, GeR.refl, Ge.refl _, ⟨vs5, ds5, hr5, len5, dv6, G5⟩, _, rfl⟩ (fun i σ' H' _ z => SqL.of (z.2.2.1.o l8 _ lp8 lr8 hb (fun ps z => by cases z))) ?_ ?_
  · rintro i x σ' H' hx ⟨_, wI, RI, eI, ⟨vs, ds, hvs, lvs, dvs, gvs⟩, x9, rfl⟩
    have hi : i < 11 := by
      have := (List.getElem?_eq_some_iff.mp hx).1
      omega
    obtain ⟨dx9, edx, hdx⟩ := daAll_get dvb hx
    have hg := Gb dx9 (List.mem_of_getElem? edx)
    have hv := eI.da hdx
    have hk9 := eI.da dkey
    dsimp only [gName]
    refine ⟨_, rfl, .inl ⟨rfl, _, SqL.of hvs⟩, ?_⟩
    refine (ax_cons (K := K) (p := p) (S := fun b => S b ∨ b = r5) (cc := cc) (d := .tuple [.tuple [.tuple [.str "a", .dict [], .none], dx9]]) (ds := []) (dx_tup (ax_cons (dx_tup (ax_cons (dx_var rfl hk9) (ax_cons (dx_var rfl hv) ax_nil))) ax_nil)) ax_nil) H' a _ GeP.refl wI (by omega) fun ws es Hn gn wn dn zn => ?_
    have zn : es = [.tuple [.tuple [.tuple [.str "a", .dict [], .none], dx9]]] := zn
    subst zn
    obtain ⟨ve, rfl, dve⟩ : ∃ ve, ws = [ve] ∧ Da K (wos (fun b => S b ∨ b = r5) Hn) ve (.tuple [.tuple [.tuple [.str "a", .dict [], .none], dx9]]) := by
      cases dn with
      | cons h1 h2 =>
        cases h2
        exact ⟨_, rfl, h1⟩
    have en := GeP.w (S := fun b => S b ∨ b = r5) gn wI.sp
    have hvn := gn.1 r5 _ rp5 hvs (fun ps z => by cases z)
    have wp := wos_put (S := fun b => S b ∨ b = r5) (H := Hn) (o := .lst (vs ++ [ve])) (Or.inr rfl : S r5 ∨ r5 = r5)
    refine ⟨r5, vs, ve, rfl, rfl, hvn, Nat.lt_of_le_of_lt (show _ ≤ 1000 by omega) (by decide), hi, ⟨wn.pen.upd rp5 rc5, wn.sp, fun b hb9 => ?_⟩, (RI.trans gn).put, ?_, ⟨vs ++ [ve], ds ++ [.tuple [.tuple [.tuple [.str "a", .dict [], .none], dx9]]], upd_same, by rw [List.length_append, lvs]; show _ + 1 = _; omega, by rw [wp]; exact daAll_appU (en.daAll dvs) (.cons dve .nil), fun d hd => ?_⟩, _, rfl⟩
    · by_cases y : b = r5
      · exact ⟨_, by rw [y]; exact upd_same⟩
      · obtain ⟨ys, e⟩ := wn.al b hb9
        exact ⟨ys, by rw [upd_ne y]; exact e⟩
    · rw [wp]
      exact eI.trans en
    · rcases List.mem_append.mp hd with hd | hd
      · exact gvs d hd
      · rw [List.mem_singleton.mp hd]
        exact ⟨Sw.mono (sw_tup (sw_cons (sw_tup (sw_cons (sw_cl (d := .tuple [.str "a", .dict [], .none]) (n := 100) (dp := 5) (by decide +kernel)) (sw_cons hg.1 sw_nil))) sw_nil)) (by omega) (by decide), lay_two hg.2⟩
  rintro σ' H9 ⟨_, wI, RI, eI, ⟨vs, ds, hvs, lvs, dvs, gvs⟩, x9, rfl⟩
  have R9 : GeR p r5 H5 H9 := ⟨fun b o h1 h2 e n => RI.o b o h1 h2 (R5.o b o h1 h2 e n) n, fun b n t => RI.t b n (R5.t b n t)⟩
  have gB := GeR.out gA n5 R9
  have back := wos_le (S := S) (S2 := fun b => S b ∨ b = r5) (H := H9) (fun b h => Or.inl h)
  replace dm := back.da (eI.da dm)
  replace df := back.da (eI.da df)
  replace do_ := back.da (eI.da do_)
  replace dc := back.da (eI.da dc)
  replace dl := back.da (eI.da dl)
  replace dw := back.da (eI.da dw)
  have c9 : CandAt K S H9 l3 16 PM := by
    obtain ⟨us, es, h1, h2, h3, h4, h5⟩ := c6
    exact ⟨us, es, RI.o l3 _ (fun z => h2 (Or.inl (by rw [z]; exact w5.sp))) (fun z => h2 (Or.inr z)) h1 (fun ps z => by cases z), fun z => h2 (Or.inl z), h3, back.daAll (eI.daAll h4), h5⟩
  have cv9 : CandAt K S H9 r5 22 (PL fs (itemsD c) nl) := ⟨vs, ds, hvs, nS5, by rw [lvs, show vb.length = 11 from lb], back.daAll dvs, gvs⟩
  have w10 : Wd p cc S H9 a := ⟨wI.pen, w5.sp, fun b hb9 => wI.al b (Or.inl hb9)⟩
  clear eI RI R5 R9 wI dvs c6 dv6 hr5 dkey
  dsimp only []
  refine co_asgn (K := K) (k := 0) (m := 38) (G := PM) ?k9 w10 (by omega) fun l10 H10 g10 w11 c10 => ?_
  case k9 => exact (co_cat (k1 := 0) (k2 := 0) (m1 := 16) (m2 := 22) (co_var rfl c9) (co_lc (k := 0) (m := 22) (k1 := 0) (G1 := PL fs (itemsD c) nl) (co_var rfl cv9) (fun v d H1 S1 gs hv hg => DX.g (d := .tuple [.tuple fs, o, c, d, w]) (dx_cat (as := [.tuple fs, o, c]) (dx_cut (dx_var rfl (gs.da dm)) po_no po_in) (dx_tup (ax_cons (dx_var rfl hv) (ax_cons (dx_var rfl (gs.da dw)) ax_nil)))) ⟨Sw.mono (sw_tup (sw_cons hf (sw_cons ho (sw_cons hc (sw_cons hg.1 (sw_cons hw sw_nil)))))) (by omega) (by decide), im_l hg.2⟩)))
  have e10 := g10.w w10.sp
  replace dm := e10.da dm
  replace df := e10.da df
  replace do_ := e10.da do_
  replace dc := e10.da dc
  replace dl := e10.da dl
  replace dw := e10.da dw
  refine co_asgn (K := K) (k := 0) (m := 7) (G := PF) ?k10 w11 (by omega) fun l11 H11 g11 w12 c11 => ?_
  case k10 => exact (co_lst (go_cons (k1 := 0) (DX.g (d := .none) dx_non ⟨sw_cl (by decide +kernel), by decide +kernel⟩) (go_cons (k1 := 0) (DX.g (d := (.list [])) (dx_lst ax_nil) ⟨sw_cl (by decide +kernel), by decide +kernel⟩) (go_cons (k1 := 0) (DX.g (d := (.tuple [(.str "b"), (.str "a")])) (dx_tup (ax_cons dx_str (ax_cons dx_str ax_nil))) ⟨sw_cl (by decide +kernel), by decide +kernel⟩) (go_cons (k1 := 0) (DX.g (d := (.tuple [(.str "a"), (.str "a")])) (dx_tup (ax_cons dx_str (ax_cons dx_str ax_nil))) ⟨sw_cl (by decide +kernel), by decide +kernel⟩) (go_cons (k1 := 0) (DX.g (d := (.tuple [(.str "A")])) (dx_tup (ax_cons dx_str ax_nil)) ⟨sw_cl (by decide +kernel), by decide +kernel⟩) (go_cons (k1 := 0) (DX.g (d := (.tuple [(.str "a"), (.str "b"), (.str "c"), (.str "d")])) (dx_tup (ax_cons dx_str (ax_cons dx_str (ax_cons dx_str (ax_cons dx_str ax_nil))))) ⟨sw_cl (by decide +kernel), by decide +kernel⟩) (go_cons (k1 := 0) (DX.g (d := (.str "a")) dx_str ⟨sw_cl (by decide +kernel), by decide +kernel⟩) go_nil))))))))
  have e11 := g11.w w11.sp
  replace dm := e11.da dm
  replace df := e11.da df
  replace do_ := e11.da do_
  replace dc := e11.da dc
  replace dl := e11.da dl
  replace dw := e11.da dw
  replace c10 := c10.gp g11 w11.sp
  refine co_asgn (K := K) (k := 0) (m := 45) (G := PM) ?k11 w12 (by omega) fun l12 H12 g12 w13 c12 => ?_
  case k11 => exact (co_cat (k1 := 0) (k2 := 0) (m1 := 38) (m2 := 7) (co_var rfl c10) (co_lc (k := 0) (m := 7) (k1 := 0) (G1 := PF) (co_var rfl c11) (fun v d H1 S1 gs hv hg => DX.g (d := .tuple [d, o, c, l, w]) (dx_cat (bs := [o, c, l, w]) (dx_tup (ax_cons (dx_var rfl hv) ax_nil)) (dx_cut (dx_var rfl (gs.da dm)) po_in po_no)) ⟨Sw.mono (sw_tup (sw_cons hg.1 (sw_cons ho (sw_cons hc (sw_cons hl (sw_cons hw sw_nil)))))) (by omega) (by decide), im_f hg.2⟩)))
  have e12 := g12.w w12.sp
  replace dm := e12.da dm
  replace df := e12.da df
  replace do_ := e12.da do_
  replace dc := e12.da dc
  replace dl := e12.da dl
  replace dw := e12.da dw
  refine co_asgn (K := K) (k := 0) (m := 6) (G := PO fs 300) ?k12 w13 (by omega) fun l13 H13 g13 w14 c13 => ?_
  case k12 => exact (co_lst (go_cons (k1 := 0) (DX.g (d := .none) dx_non ⟨Sw.mono (sw_cl (n := 300) (dp := 6) (by decide +kernel)) (by omega) (by decide), rfl⟩) (go_cons (k1 := 0) (DX.g (d := (.list [])) (dx_lst ax_nil) ⟨Sw.mono (sw_cl (n := 300) (dp := 6) (by decide +kernel)) (by omega) (by decide), rfl⟩) (go_cons (k1 := 0) (DX.g (d := (.tuple [(.str "zz")])) (dx_tup (ax_cons dx_str ax_nil)) ⟨Sw.mono (sw_cl (n := 300) (dp := 6) (by decide +kernel)) (by omega) (by decide), out_zz (gs := []) zz⟩) (go_cons (k1 := 0) (DX.g (d := .tuple (fs ++ [.str "zz"])) (dx_cat (as := fs) (bs := [.str "zz"]) (dx_var rfl df) (dx_tup (ax_cons dx_str ax_nil)) (by simp only [List.length_cons, List.length_nil]; omega)) ⟨Sw.mono (sw_tup (swA_app hfa (sw_cons (sw_cl (d := .str "zz") (n := 30) (dp := 0) (by decide +kernel)) sw_nil)) (by rw [List.length_append]; simp only [List.length_cons, List.length_nil]; omega)) (by omega) (by decide), out_zz zz⟩) (go_cons (k1 := 0) (DX.g (d := (.str "")) dx_str ⟨Sw.mono (sw_cl (n := 300) (dp := 6) (by decide +kernel)) (by omega) (by decide), rfl⟩) (go_cons (k1 := 0) (DX.g (d := (.tuple [(.bool true)])) (dx_tup (ax_cons dx_bl ax_nil)) ⟨Sw.mono (sw_cl (n := 300) (dp := 6) (by decide +kernel)) (by omega) (by decide), by simp [areOutside, areNames, isName, isWord]⟩) go_nil)))))))
  have e13 := g13.w w13.sp
  replace dm := e13.da dm
  replace df := e13.da df
  replace do_ := e13.da do_
  replace dc := e13.da dc
  replace dl := e13.da dl
  replace dw := e13.da dw
  replace c12 := c12.gp g13 w13.sp
  refine co_asgn (K := K) (k := 0) (m := 51) (G := PM) ?k13 w14 (by omega) fun l14 H14 g14 w15 c14 => ?_
  case k13 => exact (co_cat (k1 := 0) (k2 := 0) (m1 := 45) (m2 := 6) (co_var rfl c12) (co_lc (k := 0) (m := 6) (k1 := 0) (G1 := PO fs 300) (co_var rfl c13) (fun v d H1 S1 gs hv hg => DX.g (d := .tuple [.tuple fs, d, c, l, w]) (dx_cat (bs := [c, l, w]) (dx_tup (ax_cons (dx_var rfl (gs.da df)) (ax_cons (dx_var rfl hv) ax_nil))) (dx_cut (dx_var rfl (gs.da dm)) po_in po_no)) ⟨Sw.mono (sw_tup (sw_cons hf (sw_cons hg.1 (sw_cons hc (sw_cons hl (sw_cons hw sw_nil)))))) (by omega) (by decide), im_o hg.2⟩)))
  have e14 := g14.w w14.sp
  replace dm := e14.da dm
  replace df := e14.da df
  replace do_ := e14.da do_
  replace dc := e14.da dc
  replace dl := e14.da dl
  replace dw := e14.da dw
  refine co_asgn (K := K) (k := 0) (m := 5) (G := PC fs) ?k14 w15 (by omega) fun l15 H15 g15 w16 c15 => ?_
  case k14 => exact (co_lst (go_cons (k1 := 0) (DX.g (d := .none) dx_non ⟨sw_cl (by decide +kernel), rfl⟩) (go_cons (k1 := 0) (DX.g (d := (.list [])) (dx_lst ax_nil) ⟨sw_cl (by decide +kernel), rfl⟩) (go_cons (k1 := 0) (DX.g (d := (.dict [(.str "X", .dict [])])) dx_disp0 ⟨sw_cl (by decide +kernel), cmds_1 (by decide +kernel)⟩) (go_cons (k1 := 0) (DX.g (d := (.dict [(.str "a", .none)])) (dx_dispF (fun H => .non)) ⟨sw_cl (by decide +kernel), cmds_2 rfl⟩) (go_cons (k1 := 0) (DX.g (d := (.dict [(.str "a", .dict [(.str "zz", (.bool true))])])) (dx_disp1 (fun H => .bl true)) ⟨sw_cl (by decide +kernel), cmds_2 (set_zz zz)⟩) go_nil))))))
  have e15 := g15.w w15.sp
  replace dm := e15.da dm
  replace df := e15.da df
  replace do_ := e15.da do_
  replace dc := e15.da dc
  replace dl := e15.da dl
  replace dw := e15.da dw
  replace c14 := c14.gp g15 w15.sp
  refine co_asgn (K := K) (k := 0) (m := 56) (G := PM) ?k15 w16 (by omega) fun l16 H16 g16 w17 c16 => ?_
  case k15 => exact (co_cat (k1 := 0) (k2 := 0) (m1 := 51) (m2 := 5) (co_var rfl c14) (co_lc (k := 0) (m := 5) (k1 := 0) (G1 := PC fs) (co_var rfl c15) (fun v d H1 S1 gs hv hg => DX.g (d := .tuple [.tuple fs, o, d, l, w]) (dx_tup (ax_cons (dx_var rfl (gs.da df)) (ax_cons (dx_var rfl (gs.da do_)) (ax_cons (dx_var rfl hv) (ax_cons (dx_var rfl (gs.da dl)) (ax_cons (dx_var rfl (gs.da dw)) ax_nil)))))) ⟨Sw.mono (sw_tup (sw_cons hf (sw_cons ho (sw_cons hg.1 (sw_cons hl (sw_cons hw sw_nil)))))) (by omega) (by decide), im_c hg.2⟩)))
  have e16 := g16.w w16.sp
  replace dm := e16.da dm
  replace df := e16.da df
  replace do_ := e16.da do_
  replace dc := e16.da dc
  replace dl := e16.da dl
  replace dw := e16.da dw
  obtain ⟨us, es, h1, h2, h3, h4, h5⟩ := c16
  refine ⟨_, rfl, _, rfl, _, rfl, _, us, rfl, Or.inl (SqL.of h1), p, cc, _, _, rfl, w17.pen, by omega, by omega, by omega, fun HZ r9 gZ hpZ r0 r1 => ?_⟩
  have lp : l16 ≠ p := fun z => h2 (by rw [z]; exact w17.sp)
  have hZ := gZ.1 l16 _ lp h1 (fun ps z => by cases z)
  obtain ⟨j9, ej, hj⟩ : ∃ j9 : Nat, r9 = (j9 : Nat) ∧ j9 < us.length := ⟨r9.toNat, by omega, by omega⟩
  have eu : us[j9]? = some us[j9] := List.getElem?_eq_getElem hj
  obtain ⟨dz, hdz, gz⟩ := daAll_mem h4 h5 eu
  refine ⟨l16, us, _, us[j9], rfl, rfl, SqL.of hZ, by rw [ej]; exact atI_nat eu, ?_⟩
  exact q HZ _ dz ((((((((gB.trans g10).trans g11).trans g12).trans g13).trans g14).trans g15).trans g16).trans gZ) (w17.gp gZ hpZ) ((gZ.w w17.sp).da hdz) gz
end
end Pr
set_option maxRecDepth 100000
set_option maxHeartbeats 4000000
/-! the law: a sign that is no letter; a value that is no state -/
namespace Pr
open PySem PySem.Spec PyProof.Rows L2 GxR Gx Rp Dl Pd Tx Zq
section
variable {X : Cx}
def tMid (t u : TS) : TS := fun D σ H => ∃ J : L2.St → Hp → Prop, t { D with nx := J } σ H ∧ ∀ σ' H', J σ' H' → u D σ' H'
theorem pss_mid {st : Stmt} {rest : List Stmt} {t u : TS} (h1 : PS X st t) (h2 : PSs X rest u) : PSs X (st :: rest) (tMid t u) := by
  refine ⟨fun pins s σ H D I ⟨J, h, k⟩ => ?_⟩
  refine wpAny_execs_cons (thn (h1.run pins s σ H { D with nx := J } I h) fun f s1 q => ?_)
  cases f with
  | next =>
    obtain ⟨σ', H', I', q⟩ := q
    exact h2.run pins s1 σ' H' D I' (k σ' H' q)
  | ret v => exact q
  | brk => exact q
  | cont => exact q
end
def PS (n : Nat) (d : PyData) : Prop := Sw d 300 6 ∧ fitsState n d = false
def PN (d : PyData) : Prop := Sw d 100 3 ∧ isBoolD d = false
theorem fits_len {n : Nat} {ds : List PyData} (h : ds.length ≠ n) : fitsState n (.tuple ds) = false := by
  simp [fitsState, h]
theorem fits_not {n : Nat} {d : PyData} {xs ys : List PyData} (h : isBoolD d = false) : fitsState n (.tuple (xs ++ [d] ++ ys)) = false := by
  simp [fitsState, h]
theorem swA_bools : ∀ {ds : List PyData}, (∀ d ∈ ds, ∃ b, d = .bool b) → SwA ds (7 * ds.length) 0
  | [], _ => sw_nil
  | d :: r, h => by
    obtain ⟨b, rfl⟩ := h d List.mem_cons_self
    have q := swA_bools (ds := r) fun x hx => h x (List.mem_cons_of_mem _ hx)
    have sb : ∀ b : Bool, Sw (.bool b) 5 0 := fun b => by cases b <;> exact sw_cl (by decide +kernel)
    have z := sw_cons (sb b) q
    refine ⟨z.s, Nat.le_trans z.p (by rw [List.length_cons]; omega), Nat.le_trans z.d (by decide), z.m⟩
theorem daAll_bools {K : PySem.W.Frag} {H : Hp} : ∀ {bs : List Bool} {xs : List V}, DaAll K H xs (bs.map PyData.bool) → xs = bs.map V.bl
  | [], _, h => by cases h; rfl
  | b :: r, _, h => by
    cases h with
    | cons h1 h2 =>
      cases h1
      rw [daAll_bools h2]
      rfl
theorem dp_bls {K : PySem.W.Frag} {H : Hp} : ∀ bs : List Bool, DpAll K H (bs.map V.bl) (bs.map PyData.bool)
  | [] => .nil
  | b :: r => .cons (.bl b) (dp_bls r)
theorem sh_bls : ∀ bs : List Bool, bs.length ≤ 3 → SeqAt.shaped (.tuple (bs.map PyData.bool)) = true
  | [], _ => by decide +kernel
  | [a], _ => by cases a <;> decide +kernel
  | [a, b], _ => by cases a <;> cases b <;> decide +kernel
  | [a, b, c], _ => by cases a <;> cases b <;> cases c <;> decide +kernel
  | _ :: _ :: _ :: _ :: _, h => by
    simp only [List.length_cons] at h
    omega
theorem eqv_bls {bs : List Bool} (h : bs ≠ []) : (!PyData.eqv (.tuple (bs.map PyData.bool)) (.tuple [])) = true := by
  cases bs with
  | nil => exact absurd rfl h
  | cons a r => rfl
theorem cutG_le {α : Type} {xs : List α} {lo hi : Option Int} : (cutG xs lo hi).length ≤ xs.length := by
  unfold cutG
  rw [List.length_take, List.length_drop]
  omega
theorem loop_cand1 {p cc : Addr} {S : Addr → Prop} {K : PySem.W.Frag} {σ : L2.St} {t : TE} {body : TS} {D : Ends} {H : Hp} {a m : Nat} {g : TG} {G : PyData → Prop} (h : CO K p S cc H σ 0 m t G) (w : Wd p cc S H a) (ha : a ≤ 90000)
    (q : ∀ l H' vs ds, GeP p H H' → Wd p cc S H' a → H' l = some (.lst vs) → ¬ S l → vs.length = m → DaAll K (wos S H') vs ds → (∀ d ∈ ds, G d) → tFor (fun _ H1 R => R (Itl K l) H1) g body D σ H') : tFor (iList K t) g body D σ H :=
  h H a _ GeP.refl w ha fun l H' g' w' ⟨vs, ds, h1, h2, h3, h4, h5⟩ => ⟨l, rfl, ⟨vs, SqL.of h1⟩, q l H' vs ds g' w' h1 h2 h3 h4 h5⟩
section
variable {p cc : Addr} {S : Addr → Prop} {K : PySem.W.Frag} {σ : L2.St} {t : TA} {rest : TS} {D : Ends} {H : Hp} {a m i : Nat} {G : PyData → Prop}
theorem lst_asgnF (h : GO K p S cc H σ 0 m t G) (w : Wd p cc S H a) (ha : a ≤ 90000) (hm : m ≤ 10000) (q : ∀ r H' vs ds, GeP p H H' → H' r = none → Wd p cc S H' a → vs.length = m → DaAll K (wos S H') vs ds → (∀ d ∈ ds, G d) → rest D (σ.set i (some (.ref r))) (upd H' r (.lst vs))) : tSeq (tAsg (tLst t) (gName i)) rest D σ H :=
  h H a _ GeP.refl w ha fun vs ds H1 g1 hp1 hl hd z => ⟨by rw [hl]; exact Nat.le_trans hm (by decide), fun r hr => q r H1 vs ds g1 hr hp1 hl hd z⟩
end
section
variable {P : Program} {w : World} {K : PySem.W.Frag} {mg : Str → Option Value} {base : Heap} {T : List Addr}
def spWS : Sp := fun vs H Q _ => ∃ (p cc : Addr) (a : Nat), vs = [.ref p] ∧ PenAt H p cc a ∧ a + 1 ≤ 100000 ∧ ∀ H' c, GeP p H H' → PenAt H' p cc (a + 1) → c < 128 → ¬ (97 ≤ c ∧ c ≤ 122) → Q (.str ⟨#[c]⟩) H'
abbrev nWsg : List Str := ["_law_pen", "_law_some"]
theorem scWsg : FnScope nWsg ["_law_pen"] (defScope s_law_wrong_sign) := ⟨rfl, rfl, rfl, by decide +kernel, rfl, by decide +kernel, by decide +kernel⟩
theorem ok_law_wrong_sign {f c : Addr} {fd : FuncData} (F : FunC K "_law_wrong_sign" s_law_wrong_sign f fd c) (B : Bn mg) (D1 : DfP P w K mg base 2 "_law_take" ["_law_pen", "_law_many"] spTake) : FnOk P w K mg base CX0 3 f fd ["_law_pen"] spWS := by
  refine F.ok scWsg (fun vs H Q E ⟨_, _, _, h, _⟩ => by rw [h]; rfl) (fun A outer s0 H vs Q E hr h => ?_)
  obtain ⟨p, cc, a, rfl, hp, ha, q⟩ := h
  refine ⟨_, pss_cons (ps_asg pe_str (pg_name (i := 1) scWsg.nd rfl (Or.inl rfl)))
    (pss_one (ps_ret (pe_ix ix_str (pv 1) (pcall D1 hr pass0 rfl (pa_cons (pv 0) (pa_cons (pe_callB call_len_str rfl B.len PySem.boot_len (pa_cons (pv 1) pa_nil)) pa_nil))) (fun _ _ => rfl)))), ?_⟩
  have z : ∀ c ∈ (Str.ofString " !#$&'()*+,-./0123456789:;<=>?@ABCDEFGHIJKLMNOPQRSTUVWXYZ[]^_{|}~").cps.toList, c < 128 ∧ ¬ (97 ≤ c ∧ c ≤ 122) := by decide +kernel
  have l1 : 1 ≤ (Str.ofString " !#$&'()*+,-./0123456789:;<=>?@ABCDEFGHIJKLMNOPQRSTUVWXYZ[]^_{|}~").length ∧ (Str.ofString " !#$&'()*+,-./0123456789:;<=>?@ABCDEFGHIJKLMNOPQRSTUVWXYZ[]^_{|}~").length ≤ 1000 := by decide +kernel
  generalize Str.ofString " !#$&'()*+,-./0123456789:;<=>?@ABCDEFGHIJKLMNOPQRSTUVWXYZ[]^_{|}~" = x at *
  have ls : x.length ≤ sizeLine := Nat.le_trans l1.2 (by decide)
  refine ⟨_, rfl, _, rfl, _, rfl, x, rfl, ls, p, cc, _, a, rfl, hp, by omega, by omega, by omega, fun H1 r g1 hp1 r0 r1 => ?_⟩
  obtain ⟨j9, ej, hj⟩ : ∃ j9 : Nat, r = (j9 : Nat) ∧ j9 < x.cps.toList.length := ⟨r.toNat, by omega, by
    have e : x.length = x.cps.toList.length := rfl
    omega⟩
  have eu : x.cps.toList[j9]? = some x.cps.toList[j9] := List.getElem?_eq_getElem hj
  obtain ⟨z1, z2⟩ := z _ (List.mem_of_getElem? eu)
  exact ⟨x, _, _, rfl, rfl, ls, by rw [ej]; exact atI_nat eu, q H1 _ g1 hp1 z1 z2⟩
def spOst (K : PySem.W.Frag) : Sp := fun vs H Q _ => ∃ (p cc : Addr) (S : Addr → Prop) (a : Nat) (bs : List Bool) (st : V), vs = [.ref p, st] ∧ Wd p cc S H a ∧ a + 2 ≤ 90000 ∧ Da K (wos S H) st (.tuple (bs.map PyData.bool)) ∧ bs.length ≤ 3 ∧ ∀ H' v d, GeP p H H' → Wd p cc S H' (a + 2) → Da K (wos S H') v d → PS bs.length d → Q v H'
abbrev nOst : List Str := ["_law_pen", "_law_state", "_law_some", "_law_at", "_law_wrong"]
theorem scOst : FnScope nOst ["_law_pen", "_law_state"] (defScope s_law_odd_state) := ⟨rfl, rfl, rfl, by decide +kernel, rfl, by decide +kernel, by decide +kernel⟩
theorem ok_law_odd_state {f c : Addr} {fd : FuncData} (F : FunC K "_law_odd_state" s_law_odd_state f fd c) (B : Bn mg) (D1 : DfP P w K mg base 2 "_law_take" ["_law_pen", "_law_many"] spTake) (D2 : DfP P w K mg base 3 "_law_one_of" ["_law_pen", "_law_some"] spPick) : FnOk P w K mg base CX0 4 f fd ["_law_pen", "_law_state"] (spOst K) := by
  refine F.ok scOst (fun vs H Q E ⟨_, _, _, _, _, _, h, _⟩ => by rw [h]; rfl) (fun A outer s0 H vs Q E hr h => ?_)
  have hu2 := hr.units
  obtain ⟨p, cc, S, a, bs, st, rfl, w0, ha, ds0, b3, q⟩ := h
  refine ⟨_, pss_cons (ps_asg (pe_lst (pa_cons pe_non (pa_cons (pe_callTy call_list_of rfl B.list bt_list (pa_cons (pv 1) pa_nil)) (pa_cons (pe_op op_catA (pv 1) (pe_tup (pa_cons pe_bl pa_nil))) (pa_cons pe_str (pa_cons pe_int (pa_cons pe_dnewK (pa_cons (pe_op op_catA (pe_tup (pa_cons pe_non pa_nil)) (pv 1)) (pa_cons (pe_lst (pa_cons (pv 1) pa_nil)) (pa_cons (pe_tup (pa_cons (pv 1) pa_nil)) pa_nil)))))))))) (pg_name (i := 2) scOst.nd rfl (Or.inl rfl)))
    (pss_mid (ps_if (pt_cmpR (op_neD hu2) (pv 1) (pe_tup pa_nil) (nomark _)) (pss_cons (ps_asg (pcall D1 (hr.mono (by decide)) pass0 rfl (pa_cons (pv 0) (pa_cons (pe_callB call_len_seq rfl B.len PySem.boot_len (pa_cons (pv 1) pa_nil)) pa_nil))) (pg_name (i := 3) scOst.nd rfl (Or.inl rfl)))
      (pss_one (ps_for PassesOwn.never rfl (pi_list (pe_lst (pa_cons pe_int (pa_cons pe_int (pa_cons pe_non (pa_cons pe_str (pa_cons (pe_tup (pa_cons pe_bl pa_nil)) (pa_cons (pe_lst pa_nil) pa_nil)))))))) (pg_name (i := 4) scOst.nd rfl (Or.inl rfl))
        (pss_one (ps_expr (pe_bm PySem.F.plainAttrs_list PySem.F.slot_list_append PySem.F.type_list_append mt_append (pv 2) (pa_cons (pe_op op_catA (pe_op op_catA (pe_slice sl_tupA (pv 1) po_none (po_some (pv 3))) (pe_tup (pa_cons (pv 4) pa_nil))) (pe_slice sl_tupA (pv 1) (po_some (pe_op op_add (pv 3) pe_int)) po_none)) pa_nil))))))) pss_nil)
    (pss_one (ps_ret (pcall D2 hr pass0 rfl (pa_cons (pv 0) (pa_cons (pv 2) pa_nil)))))), ?_⟩
  have bb : ∀ d ∈ bs.map PyData.bool, ∃ b, d = .bool b := fun d hd => by
    obtain ⟨b, _, e⟩ := List.mem_map.mp hd
    exact ⟨b, e.symm⟩
  have swb : SwA (bs.map PyData.bool) 21 0 := by
    have z := swA_bools bb
    exact ⟨z.s, Nat.le_trans z.p (by rw [List.length_map]; omega), z.d, z.m⟩
  have swt : Sw (.tuple (bs.map PyData.bool)) 25 1 := sw_tup swb (by rw [List.length_map]; omega)
  refine lst_asgnF (K := K) (m := 9) (G := PS bs.length) ?k1 w0 (by omega) (by decide) fun r5 H5 vs5 ds5 g5 n5 w5 len5 dv5 G5 => ?_
  case k1 => exact (go_cons (k1 := 0) (DX.g (d := .none) dx_non ⟨Sw.mono (sw_cl (n := 100) (dp := 3) (by decide +kernel)) (by decide) (by decide), rfl⟩) (go_cons (k1 := 0) (DX.g (d := .list (bs.map PyData.bool)) (dx_listof (dx_var rfl ds0)) ⟨Sw.mono (sw_lst swb (by rw [List.length_map]; omega)) (by decide) (by decide), rfl⟩) (go_cons (k1 := 0) (DX.g (d := .tuple (bs.map PyData.bool ++ [.bool true])) (dx_cat (as := bs.map PyData.bool) (bs := [.bool true]) (dx_var rfl ds0) (dx_tup (ax_cons dx_bl ax_nil)) (by rw [List.length_map]; simp only [List.length_cons, List.length_nil]; omega)) ⟨Sw.mono (sw_tup (swA_app swb (sw_cons (sw_cl (d := .bool true) (n := 10) (dp := 0) (by decide +kernel)) sw_nil)) (by rw [List.length_append, List.length_map]; simp only [List.length_cons, List.length_nil]; omega)) (by decide) (by decide), fits_len (by rw [List.length_append, List.length_map]; simp)⟩) (go_cons (k1 := 0) (DX.g (d := .str "state") dx_str ⟨Sw.mono (sw_cl (n := 100) (dp := 3) (by decide +kernel)) (by decide) (by decide), rfl⟩) (go_cons (k1 := 0) (DX.g (d := .int 0) dx_int ⟨Sw.mono (sw_cl (n := 100) (dp := 3) (by decide +kernel)) (by decide) (by decide), rfl⟩) (go_cons (k1 := 0) (DX.g (d := .dict []) dx_dict0 ⟨Sw.mono (sw_cl (n := 100) (dp := 3) (by decide +kernel)) (by decide) (by decide), rfl⟩) (go_cons (k1 := 0) (DX.g (d := .tuple ([.none] ++ bs.map PyData.bool)) (dx_cat (as := [.none]) (bs := bs.map PyData.bool) (dx_tup (ax_cons dx_non ax_nil)) (dx_var rfl ds0) (by rw [List.length_map]; simp only [List.length_cons, List.length_nil]; omega)) ⟨Sw.mono (sw_tup (swA_app (sw_cons (sw_cl (d := .none) (n := 10) (dp := 0) (by decide +kernel)) sw_nil) swb) (by rw [List.length_append, List.length_map]; simp only [List.length_cons, List.length_nil]; omega)) (by decide) (by decide), fits_len (by rw [List.length_append, List.length_map]; simp)⟩) (go_cons (k1 := 0) (DX.g (d := .list [.tuple (bs.map PyData.bool)]) (dx_lst (ax_cons (dx_var rfl ds0) ax_nil)) ⟨Sw.mono (sw_lst (sw_cons swt sw_nil)) (by decide) (by decide), rfl⟩) (go_cons (k1 := 0) (DX.g (d := .tuple [.tuple (bs.map PyData.bool)]) (dx_tup (ax_cons (dx_var rfl ds0) ax_nil)) ⟨Sw.mono (sw_tup (sw_cons swt sw_nil)) (by decide) (by decide), fits_not (d := .tuple (bs.map PyData.bool)) (xs := []) (ys := []) rfl⟩) go_nil)))))))))
  have e5 := g5.w w0.sp
  replace ds0 := e5.da ds0
  have rp5 : r5 ≠ p := (w5.pen.fresh n5).1
  have rc5 : r5 ≠ cc := (w5.pen.fresh n5).2
  have nS5 : ¬ S r5 := fun z => by
    obtain ⟨xs, e⟩ := w5.al r5 z
    rw [n5] at e
    cases e
  replace ds0 := by rw [← wos_add (o := .lst vs5) n5] at ds0; exact ds0
  have w6 := wd_add (xs := vs5) w5 n5
  have dv6 : DaAll K (wos (fun b => S b ∨ b = r5) (upd H5 r5 (.lst vs5))) vs5 ds5 := by rw [wos_add n5]; exact dv5
  have hr5 : upd H5 r5 (.lst vs5) r5 = some (.lst vs5) := upd_same
  have R5 : GeR p r5 H5 (upd H5 r5 (.lst vs5)) := GeR.put (GeR.refl)
  generalize upd H5 r5 (.lst vs5) = X5 at *
  refine ⟨fun σ' H' => (∃ vs ds, H' r5 = some (.lst vs) ∧ 1 ≤ vs.length ∧ vs.length ≤ 100 ∧ DaAll K (wos (fun b => S b ∨ b = r5) H') vs ds ∧ ∀ d ∈ ds, PS bs.length d) ∧ GeR p r5 H5 H' ∧ Wd p cc (fun b => S b ∨ b = r5) H' (a + 1) ∧ ∃ x3 x4, σ' = [some (.ref p), some st, some (.ref r5), x3, x4], ?_, ?_⟩
  · obtain ⟨t5, xs5, rfl, hx5, hd5⟩ := tup_of ds0
    have exs := daAll_bools hd5
    subst exs
    refine ⟨_, rfl, by decide, fun r6 n6 => ?_⟩
    have g6 := Ge.new (o := .tup []) n6
    refine ⟨.tuple (bs.map PyData.bool), .tuple [], .tup (Or.inl (g6.rd (fun ps z => by cases z) (rd_wos hx5))) (dp_bls bs), .tup (SqT.of upd_same) .nil, sh_bls bs b3, by decide +kernel, _, rfl, ?_⟩
    have e6 := geW (S := fun b => S b ∨ b = r5) g6
    replace ds0 := e6.da ds0
    replace dv6 := e6.daAll dv6
    have w7 := w6.ge g6
    replace hr5 := g6.1 r5 _ hr5 (fun ps z => by cases z)
    replace R5 := R5.trans (GeP.of g6)
    generalize upd X5 r6 (.tup []) = X6 at *
    by_cases e0 : bs = []
    · subst e0
      exact iteF ⟨⟨vs5, ds5, hr5, by omega, by omega, dv6, G5⟩, R5, w7.mono (by omega), _, _, rfl⟩
    · rw [eqv_bls e0]
      have b1 : 1 ≤ bs.length := List.length_pos_iff.mpr e0
      have hx6 := e6.rd (fun ps z => by cases z) hx5
      refine iteT ⟨_, rfl, _, rfl, t5, _, rfl, Or.inr (Or.inl (rd_wos hx6)), p, cc, _, a, rfl, w7.pen, by omega, by rw [List.length_map]; omega, by rw [List.length_map]; omega, fun H7 r7 g7 hp7 r0 r1 => ?_⟩
      obtain ⟨k7, rfl⟩ := Int.eq_ofNat_of_zero_le r0
      have e7 := GeP.w (S := fun b => S b ∨ b = r5) g7 w7.sp
      replace ds0 := e7.da ds0
      replace dv6 := e7.daAll dv6
      have w8 := w7.gp g7 hp7
      replace hr5 := g7.1 r5 _ rp5 hr5 (fun ps z => by cases z)
      replace R5 := R5.trans g7
      dsimp only [gName]
      refine loop_cand1 (K := K) (m := 6) (G := PN) ?k8 w8 (by omega) fun l8 H8 vb db g8 w9 hb nb lb dvb Gb => ?_
      case k8 => exact (co_lst (go_cons (k1 := 0) (DX.g (d := .int 0) dx_int ⟨sw_cl (by decide +kernel), rfl⟩) (go_cons (k1 := 0) (DX.g (d := .int 1) dx_int ⟨sw_cl (by decide +kernel), rfl⟩) (go_cons (k1 := 0) (DX.g (d := .none) dx_non ⟨sw_cl (by decide +kernel), rfl⟩) (go_cons (k1 := 0) (DX.g (d := .str "True") dx_str ⟨sw_cl (by decide +kernel), rfl⟩) (go_cons (k1 := 0) (DX.g (d := .tuple [.bool true]) (dx_tup (ax_cons dx_bl ax_nil)) ⟨sw_cl (by decide +kernel), rfl⟩) (go_cons (k1 := 0) (DX.g (d := .list []) (dx_lst ax_nil) ⟨sw_cl (by decide +kernel), rfl⟩) go_nil)))))))
      have e8 := GeP.w (S := fun b => S b ∨ b = r5) g8 w8.sp
      replace ds0 := e8.da ds0
      replace dv6 := e8.daAll dv6
      replace hr5 := g8.1 r5 _ rp5 hr5 (fun ps z => by cases z)
      replace R5 := R5.trans g8
      have lp8 : l8 ≠ p := fun z => nb (Or.inl (by rw [z]; exact w5.sp))
      have lr8 : l8 ≠ r5 := fun z => nb (Or.inr z)
      refine for_list (K := K) (xs := vb) (fun i σ' H' => i ≤ 6 ∧ Wd p cc (fun b => S b ∨ b = r5) H' (a + 1) ∧ GeR p r5 H8 H' ∧ Ge (wos (fun b => S b ∨ b = r5) H8) (wos (fun b => S b ∨ b = r5) H') ∧ (∃ vs ds, H' r5 = some (.lst vs) ∧ vs.length = 9 + i ∧ DaAll K (wos (fun b => S b ∨ b = r5) H') vs ds ∧ ∀ d ∈ ds, PS bs.length d) ∧ ∃ x4, σ' = [some (.ref p), some (.ref t5), some (.ref r5), some (.int (k7 : Nat)), x4])
        ⟨Nat.zero_le _, w9, GeR.refl, Ge.refl _, ⟨vs5, ds5, hr5, len5, dv6, G5⟩, _, rfl⟩ (fun i σ' H' _ z => SqL.of (z.2.2.1.o l8 _ lp8 lr8 hb (fun ps z => by cases z))) ?_ ?_
      · rintro i x σ' H' hx ⟨_, wI, RI, eI, ⟨vs, ds, hvs, lvs, dvs, gvs⟩, x4, rfl⟩
        have hi : i < 6 := by
          have := (List.getElem?_eq_some_iff.mp hx).1
          omega
        obtain ⟨dx9, edx, hdx⟩ := daAll_get dvb hx
        have hg := Gb dx9 (List.mem_of_getElem? edx)
        have hv := eI.da hdx
        have dsI := eI.da ds0
        dsimp only [gName]
        refine ⟨_, rfl, .inl ⟨rfl, _, SqL.of hvs⟩, ?_⟩
        have c1 := cutG_le (xs := bs.map PyData.bool) (lo := none) (hi := some ((k7 : Nat) : Int))
        have c2 := cutG_le (xs := bs.map PyData.bool) (lo := some (((k7 : Nat) : Int) + 1)) (hi := none)
        rw [List.length_map] at c1 c2
        have sc1 := swA_bools (ds := cutG (bs.map PyData.bool) none (some ((k7 : Nat) : Int))) (fun d hd => bb d (cutG_mem hd))
        have sc2 := swA_bools (ds := cutG (bs.map PyData.bool) (some (((k7 : Nat) : Int) + 1)) none) (fun d hd => bb d (cutG_mem hd))
        refine (ax_cons (K := K) (p := p) (S := fun b => S b ∨ b = r5) (cc := cc) (ds := []) (dx_cat (dx_cat (bs := [dx9]) (dx_cut (dx_var rfl dsI) po_no (fun H Q q => ⟨_, rfl, _, rfl, q⟩)) (dx_tup (ax_cons (dx_var rfl hv) ax_nil)) (by simp only [List.length_cons, List.length_nil]; omega)) (dx_cut (dx_var rfl dsI) (fun H Q q => ⟨_, rfl, _, _, rfl, rfl, _, rfl, q⟩) po_no) (by rw [List.length_append]; simp only [List.length_cons, List.length_nil]; omega)) ax_nil) H' _ _ GeP.refl wI (by omega) fun ws es Hn gn wn dn zn => ?_
        have zn : es = [.tuple ((cutG (bs.map PyData.bool) none (some ((k7 : Nat) : Int)) ++ [dx9]) ++ cutG (bs.map PyData.bool) (some (((k7 : Nat) : Int) + 1)) none)] := zn
        generalize eY : PyData.tuple ((cutG (bs.map PyData.bool) none (some ((k7 : Nat) : Int)) ++ [dx9]) ++ cutG (bs.map PyData.bool) (some (((k7 : Nat) : Int) + 1)) none) = dY at *
        subst zn
        obtain ⟨ve, rfl, dve⟩ : ∃ ve, ws = [ve] ∧ Da K (wos (fun b => S b ∨ b = r5) Hn) ve dY := by
          cases dn with
          | cons h1 h2 =>
            cases h2
            exact ⟨_, rfl, h1⟩
        have gY : PS bs.length dY := by
          rw [← eY]
          exact ⟨Sw.mono (sw_tup (swA_app (swA_app sc1 (sw_cons hg.1 sw_nil)) sc2) (by rw [List.length_append, List.length_append]; simp only [List.length_cons, List.length_nil]; omega)) (by omega) (by decide), fits_not hg.2⟩
        have en := GeP.w (S := fun b => S b ∨ b = r5) gn wI.sp
        have hvn := gn.1 r5 _ rp5 hvs (fun ps z => by cases z)
        have wp := wos_put (S := fun b => S b ∨ b = r5) (H := Hn) (o := .lst (vs ++ [ve])) (Or.inr rfl : S r5 ∨ r5 = r5)
        refine ⟨r5, vs, ve, rfl, rfl, hvn, Nat.lt_of_le_of_lt (show _ ≤ 1000 by omega) (by decide), hi, ⟨wn.pen.upd rp5 rc5, wn.sp, fun b hb9 => ?_⟩, (RI.trans gn).put, ?_, ⟨vs ++ [ve], ds ++ [dY], upd_same, by rw [List.length_append, lvs]; show _ + 1 = _; omega, by rw [wp]; exact daAll_appU (en.daAll dvs) (.cons dve .nil), fun d hd => ?_⟩, _, rfl⟩
        · by_cases y : b = r5
          · exact ⟨_, by rw [y]; exact upd_same⟩
          · obtain ⟨ys, e⟩ := wn.al b hb9
            exact ⟨ys, by rw [upd_ne y]; exact e⟩
        · rw [wp]
          exact eI.trans en
        · rcases List.mem_append.mp hd with hd | hd
          · exact gvs d hd
          · rw [List.mem_singleton.mp hd]
            exact gY
      · rintro σ' H9 ⟨_, wI, RI, eI, ⟨vs, ds, hvs, lvs, dvs, gvs⟩, x4, rfl⟩
        exact ⟨⟨vs, ds, hvs, by omega, by omega, dvs, gvs⟩, ⟨fun b o h1 h2 e n => RI.o b o h1 h2 (R5.o b o h1 h2 e n) n, fun b n t => RI.t b n (R5.t b n t)⟩, wI, _, _, rfl⟩
  · rintro σ' H9 ⟨⟨vs, ds, hvs, l1, l2, dvs, gvs⟩, R9, wI, x3, x4, rfl⟩
    have back := wos_le (S := S) (S2 := fun b => S b ∨ b = r5) (H := H9) (fun b h => Or.inl h)
    have gB := GeR.out g5 n5 R9
    have w10 : Wd p cc S H9 (a + 1) := ⟨wI.pen, w5.sp, fun b hb9 => wI.al b (Or.inl hb9)⟩
    have db := back.daAll dvs
    refine ⟨_, rfl, _, rfl, p, cc, _, a + 1, fun v => ∃ d, Da K (wos S H9) v d ∧ PS bs.length d, rfl, w10.pen, by omega, Or.inl ⟨r5, vs, rfl, rp5, hvs, by omega, by omega, fun v hv => ?_⟩, fun HZ v gZ hpZ ⟨d, hd, gd⟩ => ?_⟩
    · obtain ⟨d, hd⟩ := daAll_v db gvs hv
      exact ⟨d, hd⟩
    · exact q HZ v d (gB.trans gZ) (w10.gp gZ hpZ) ((gZ.w w10.sp).da hd) gd
end
end Pr
set_option maxRecDepth 100000
set_option maxHeartbeats 2000000
/-! A caught error that is kept behind its except suite: try: body / except C as e: suite, the error known as an object from then on -/
namespace L2
open PySem PySem.Spec PyProof.Rows

/-- an error's object of class k, own dict d, at a, whatever became of it -/
def ErrO (k : Value) (d : Option Addr) (a : Addr) : HO := .ext fun h => ∃ (ob : Obj) (fs : Array Value), h.get? a = some ob ∧ Zc k d ob ∧ ob.data = .fields fs
theorem errO_ok {P : Program} {w : World} {H : Hp} {h : Heap} {a : Addr} {k : Value} {d : Option Addr} {ob : Obj} {fs : Array Value} (ha : h.get? a = some ob) (hz : Zc k d ob) (hf : ob.data = .fields fs) : ObjOk P w H h a (ErrO k d a) :=
  ⟨⟨ob, fs, ha, hz, hf⟩, ⟨ob, ha⟩, fun _ _ ⟨o2, f2, e2, r2⟩ st => ⟨o2, f2, st o2 e2, r2⟩⟩
section
variable {X : Cx} {ps : List (Addr × Obj)} {σ : St} {H : Hp} {s : Shared}
theorem Inv.err (J : Inv X ps σ H s) {a : Addr} {k : Value} {d : Option Addr} {ob : Obj} {fs : Array Value} (ha : s.heap.get? a = some ob) (hz : Zc k d ob) (hf : ob.data = .fields fs) (na : H a = none)
    (nl : a ≠ X.env.locals) (n0 : X.s_0.heap.get? a = none) (np : ∀ q ∈ X.pn ++ ps, q.1 ≠ a) : Inv X ps σ (upd H a (ErrO k d a)) s := by
  have cn : ∀ x c, X.env.cells.lookup x = some c → c ≠ a := fun x c hc z => by
    obtain ⟨v, o, ho, hv⟩ := J.cell x c hc
    rw [z, ha] at ho
    cases ho
    rw [hf] at hv
    cases hv
  refine ⟨J.ok, J.os, J.bare, ⟨J.base.keep, J.base.slot, fun b o hb hn hx => ?_, J.base.there, fun b xs hb => ?_, fun b o u hb => ?_, fun b xs hb => ?_⟩, J.loc, J.cell, ?_, fun x c hc => ?_, fun q hq => ?_, fun b o hb => ?_, J.len⟩
  · rw [upd_ne (fun z => by rw [z, n0] at hb; cases hb)]
    exact J.base.free b o hb hn hx
  · have t := J.base.tups b xs hb
    rw [upd_ne (ne_of_none t na)]
    exact t
  · have t := J.base.frzs b o u hb
    rw [upd_ne (ne_of_none t na)]
    exact t
  · obtain ⟨more, t⟩ := J.base.tbls b xs hb
    exact ⟨more, by rw [upd_ne (ne_of_none t na)]; exact t⟩
  · rw [upd_ne (Ne.symm nl)]
    exact J.free
  · rw [upd_ne (cn x c hc)]
    exact J.freeC x c hc
  · obtain ⟨p1, p2, p3⟩ := J.pin q hq
    exact ⟨p1, by rw [upd_ne (np q hq)]; exact p2, p3⟩
  · by_cases z : b = a
    · subst z
      rw [upd_same] at hb
      cases hb
      exact errO_ok ha hz hf
    · rw [upd_ne z] at hb
      exact (J.hok b o hb).stay (fun c v _ q => q) (fun c q => by rw [upd_ne (ne_of_none q na)]; exact q) fun c xs q => by rw [upd_ne (ne_of_none q na)]; exact q
/-- what the clause wishes of an error of the body; behind its suite the error is an object of its class -/
def wKeep (K : PySem.W.Frag) (c : Value) (i : Nat) (tx : Addr → Value → Option Addr → TS) (Wo : WX) (D : Ends) : WX := fun k d τ G =>
  ∃ yes, PySem.W.exmOne K k c = some yes ∧ (yes = true → ∀ a, G a = none → tx a k d { nx := fun τ1 G1 => D.nx (τ1.set i none) (upd G1 a (ErrO k d a)), rt := fun v G1 => D.rt v (upd G1 a (ErrO k d a)), bk := fun τ1 G1 => D.bk (τ1.set i none) (upd G1 a (ErrO k d a)), ct := fun τ1 G1 => D.ct (τ1.set i none) (upd G1 a (ErrO k d a)) } (τ.set i (some (.ref a))) G) ∧
    (yes = false → Wo k d τ G)
variable {x n : Str} {c : Value} {i : Nat} {body more : List Stmt} {st0 : Stmt} {np p1 p2 : Pos} {tb : WX → TS} {tx : Addr → Value → Option Addr → TS} {Wo : WX}
theorem ps_try_keep (hst : X.stack = X.env :: X.outer) (hfm : X.env.frame = some X.env.locals) (hex : X.ex = []) (hnd : X.N.Nodup) (hin : X.N[i]? = some n) (hkd : X.env.kindOf n = some .local) (hnm : Names X x c) (hto : Takes X Wo)
    (hbd : ∀ (W : WX) (qs : List (Addr × Obj)) (xe : Value → Shared → Prop), Takes (X.tr qs xe) W → PassesOwn (model X.prog X.w) X.A X.env xe → PSs (X.tr qs xe) body (tb W))
    (hsx : ∀ (a : Addr) (ob : Obj) (k : Value) (d : Option Addr) (qs : List (Addr × Obj)), Zc k d ob → (∃ fs, ob.data = .fields fs) → PSs (X.suite a ((a, ob) :: qs)) (st0 :: more) (tx a k d)) :
    PS X (.Try body [.ExceptHandler (some (.Name x np)) (some n) (st0 :: more) p2] [] [] p1) (fun D τ G => tb (wKeep X.K c i tx Wo D) D τ G) := by
  constructor
  intro ps s0 τ G D J0 hw
  have okX := J0.ok
  have frX : X.A.frames = some (X.env :: X.outer) := by rw [okX.frames, hst]
  refine wpAny_Try_except ?_
  have run := (hbd (wKeep X.K c i tx Wo D) (X.pn ++ ps) (fun u t1 => wpAny (model X.prog X.w) X.A (noteFrame u X.env) (fun _ t2 => wpAny (model X.prog X.w) X.A (setFlight u none) (fun _ t3 =>
    wpAny (model X.prog X.w) X.A (handleBy u X.env [.ExceptHandler (some (.Name x np)) (some n) (st0 :: more) p2]) (SP X ps D) X.xe t3) X.xe t2) X.xe t1) ?takes PassesOwn.looking).run [] s0 τ G D (J0.toTry _) hw
  case takes =>
    rintro u t1 ⟨a, B, sI, qs, τ1, G1, k, d, rfl, J1, hnb, hup, hsky, hna, hos, hag, yes, hyes, hy, hno⟩
    have J2 : Inv X ps τ1 G1 sI := J1.ofTry okX
    rw [hst] at hnb
    have sky1 : Sky B (X.env :: X.outer) a (Zc k d) X.env.locals t1.heap := by rw [← hst]; exact hsky
    show wpAny (model X.prog X.w) X.A (noteFrame (.ref a) X.env) _ _ _
    refine Sky.land Zc.steady frX hfm sky1 fun h1 fl1 u1 => ?_
    have nbX : ∀ b o, sI.heap.get? b = some o → b ∉ frs X.stack → B.get? b = some o := by rw [hst]; exact hnb
    have J3 : Inv X ps τ1 G1 { t1 with heap := h1 } := J2.landed nbX fl1.1 (hup.trans u1) hos hag
    obtain ⟨o1, f1, ho1, hz1, hf1⟩ := fl1.there
    have outside : a ∉ frs (X.env :: X.outer) := fun hm => by
      obtain ⟨_, o9, e9, nf9⟩ := fl1.2.2.1.mem hm
      rw [ho1] at e9
      cases e9
      exact nf9 _ hf1
    have nl : a ≠ X.env.locals := fun z => outside (List.mem_filterMap.mpr ⟨X.env, List.mem_cons_self, by rw [hfm, z]⟩)
    have nf : a ∉ X.fs := fun hm => by
      obtain ⟨e9, he9, q9⟩ := List.mem_filterMap.mp hm
      exact outside (List.mem_filterMap.mpr ⟨e9, List.mem_cons_of_mem _ he9, q9⟩)
    have fresh : sI.heap.get? a = none := by
      cases q9 : sI.heap.get? a with
      | none => rfl
      | some o9 =>
        have z9 := hnb a o9 q9 outside
        rw [fl1.2.1] at z9
        cases z9
    have n0 : X.s_0.heap.get? a = none := by
      cases q9 : X.s_0.heap.get? a with
      | none => rfl
      | some o9 =>
        obtain ⟨o8, e8⟩ := J2.base.there a o9 q9 (by rw [hex]; exact fun z => nomatch z)
        rw [fresh] at e8
        cases e8
    have nps : ∀ q ∈ X.pn ++ ps, q.1 ≠ a := fun q hq z => by
      have e9 := (J2.pin q hq).1
      rw [z, fresh] at e9
      cases e9
    have S1 := J3.suite ho1 hf1 hna nl nf
    refine wpAny_handleBy_cons (codeAny_handlers_test ?_) (by intro z; cases z)
    have ty : PySem.W.Looks (model X.prog X.w) h1 (typeOf (.ref a)) k := fun _ _ _ _ st q => wpAny_typeOf_ref (st _ _ ho1) (by rw [hz1.1]; exact q)
    have mat := PySem.W.exm_one (M := model X.prog X.w) J3.kIn ty hyes
    have named : ∀ {Q E : Value → Shared → Prop}, Q c { t1 with heap := h1 } → wpAny (model X.prog X.w) (X.A.mark (some (.ref a))) (eval (.Name x np) X.env) Q E { t1 with heap := h1 } := fun {Q E} q => by
      obtain ⟨hg, hdb, hm | ⟨hm, hv, hn9⟩⟩ := hnm
      · exact ld_glob (X := X.suite a ((a, o1) :: (X.pn ++ ps))) S1 hg hm q hdb
      · exact ld_blt (X := X.suite a ((a, o1) :: (X.pn ++ ps))) S1 hg hm hv q hn9 hdb
    refine named (mat.here ?_)
    cases yes with
    | true =>
      refine codeAny_handlers_suite_as ?_
      refine HandSPX.lands_againZ fl1 fun h2 fl2 u2 => ?_
      have J4 : Inv X ps τ1 G1 { t1 with heap := h2 } := J2.landed nbX fl2.1 ((hup.trans u1).trans u2) hos hag
      obtain ⟨o2, f2, ho2, hz2, hf2⟩ := fl2.there
      have S2 := J4.suite ho2 hf2 hna nl nf
      refine store_ok (X := X.suite a ((a, o2) :: (X.pn ++ ps))) (v := .ref a) S2 hnd hin (.inl hkd) rfl (fun t5 S5 => ?_) (.inr hkd)
      refine wpAny_mono ((hsx a o2 k d (X.pn ++ ps) hz2 ⟨_, hf2⟩).run [] t5 _ G1 _ S5 (hy rfl a hna)) (fun f t6 hsp => ?_) (fun _ _ z => False.elim z)
      have fin : ∀ {τ6 : St} {G6 : Hp} {Q : Shared → Prop}, Inv (X.suite a ((a, o2) :: (X.pn ++ ps))) [] τ6 G6 t6 → (∀ t7, Inv X ps (τ6.set i none) (upd G6 a (ErrO k d a)) t7 → Q t7) →
          wpAny (model X.prog X.w) X.A (do bindName X.env n .none; unbindBehindTheSuite X.env n p2) (fun _ t7 => Q t7) X.xe t6 := fun {τ6 G6 Q} S6 hq => gone_ok (X := X.suite a ((a, o2) :: (X.pn ++ ps))) S6 hnd hin hkd fun t7 S7 => by
        obtain ⟨g7, n7, _⟩ := S7.pin (a, o2) (List.mem_append_left _ List.mem_cons_self)
        exact hq t7 ((S7.unsuite okX).err g7 hz2 hf2 n7 nl n0 nps)
      cases f with
      | next =>
        obtain ⟨τ6, G6, S6, q6⟩ := hsp
        exact fin S6 fun t7 J7 => ⟨_, _, J7, q6⟩
      | brk =>
        obtain ⟨τ6, G6, S6, q6⟩ := hsp
        exact fin S6 fun t7 J7 => ⟨_, _, J7, q6⟩
      | cont =>
        obtain ⟨τ6, G6, S6, q6⟩ := hsp
        exact fin S6 fun t7 J7 => ⟨_, _, J7, q6⟩
      | ret u =>
        obtain ⟨v6, τ6, G6, S6, r6, q6⟩ := hsp
        exact fin S6 fun t7 J7 => ⟨_, _, _, J7, r6, q6⟩
    | false =>
      show wpAny _ X.A (handleBy (.ref a) X.env []) _ _ _
      refine wpAny_handleBy_nil ?_
      obtain ⟨_, _, _, o5, f5, T5, oT, fT, g5, _, d5, e5, _⟩ := id fl1
      unfold PySem.passOn
      refine wpAny_bind (wpAny_field g5 d5 e5 ?_)
      rw [if_neg (show ¬ ((Value.ref T5 == Value.none) = true) from by simp)]
      have out : wpAny (model X.prog X.w) X.A (setFlight (.ref a) X.env.frame) (fun _ t4 => wpAny (model X.prog X.w) X.A (throw (.ref a) : Sem Flow) (SP X ps D) X.xe t4) X.xe { t1 with heap := h1 } := by
        rw [hfm]
        refine HandSPX.setFlight_upZ fl1 fun h4 hh4 u4 => wpAny_throw (hto _ _ ?_)
        exact ⟨a, B, sI, ps, τ1, G1, k, d, rfl, J2, nbX, (hup.trans u1).trans u4, .inr (.inr (by rw [hst]; exact hh4)), hna, hos, hag, hno rfl⟩
      first
        | exact wpAny_bind (wpAny_pure (wpAny_bind out))
        | exact wpAny_bind out
  refine wpAny_mono run (fun f t1 hsp => ?_) (fun _ _ z => z)
  cases f with
  | next =>
    obtain ⟨τ1, G1, J1, q1⟩ := hsp
    exact wpAny_execs_nil ⟨τ1, G1, J1.ofTry okX, q1⟩
  | brk =>
    obtain ⟨τ1, G1, J1, q1⟩ := hsp
    exact ⟨τ1, G1, J1.ofTry okX, q1⟩
  | cont =>
    obtain ⟨τ1, G1, J1, q1⟩ := hsp
    exact ⟨τ1, G1, J1.ofTry okX, q1⟩
  | ret u =>
    obtain ⟨v1, τ1, G1, J1, r1, q1⟩ := hsp
    exact ⟨v1, τ1, G1, J1.ofTry okX, r1, q1⟩
end
end L2
namespace L2
open PySem PySem.Spec PyProof.Rows
/-- isinstance(e, C), e an error that was kept -/
def rIsV (K : PySem.W.Frag) : List V → Hp → VK → Prop := fun xs H Q => ∃ (a D : Addr) (c : V) (cv : Value) (b : Bool), xs = [.ref a, c] ∧ H a = some (ErrO (.ref D) none a) ∧ ExcC K D ∧ (∀ u, RelV c u → u = cv) ∧ PySem.W.kitOne K (.ref D) cv = some b ∧ Q (.bl b) H
theorem call_isV {X : Cx} : CallR X (.builtin "isinstance") (rIsV X.K) := by
  rintro pins s σ H xs us Q J r ⟨a, D, c, cv, b, rfl, ha, C, hcv, e, q⟩
  cases r with
  | cons rx rr =>
  cases rr with
  | cons rt rr =>
  cases rr
  cases rx
  obtain rfl := hcv _ rt
  obtain ⟨⟨⟨oc, od, oda, osl⟩, fs, g, ⟨z1, z2⟩, hf⟩, _⟩ := J.hok a _ ha
  dsimp only at z1 z2 hf
  subst z1 z2 hf
  have inst : PySem.W.InstAt s.heap a _ D none := ⟨g, rfl, rfl, trivial⟩
  exact PySem.W.kia_one (PySem.W.handS_kitx_exc C.hg C.hk C.hs C.hd C.ha C.hn C.ht C.hm) J.kIn inst e (fun z => nomatch z) fun tk => ⟨.bl b, H, J.kept (t' := tk) fun _ _ z => z, rfl, q⟩
end L2
set_option maxRecDepth 100000
set_option maxHeartbeats 2000000
/-! xs.count(y), flat items -/
namespace L2
open PySem PySem.Spec PyProof.Rows
section
variable {X : Cx}
def cntV (y : V) (ys : List V) : Nat := ys.countP fun z => eqV z y
def rCount (K : PySem.W.Frag) : V → List V → Hp → VK → Prop := fun x xs H Q => ∃ (a : Addr) (ys : List V) (y : V), x = V.ref a ∧ xs = [y] ∧ SqL K H a ys ∧ flatV y = true ∧ ys.all flatV = true ∧ Q (.int (cntV y ys : Nat)) H
theorem countP_eqU {y : V} : ∀ {ys : List V} {us : List Value}, Vals ys us → ys.all flatV = true → us.countP (eqU y) = cntV y ys
  | _, _, .nil, _ => rfl
  | z :: ys, u :: us, .cons r t, f => by
    rw [List.all_cons, Bool.and_eq_true] at f
    have ih := countP_eqU (y := y) t f.2
    unfold cntV at ih ⊢
    rw [List.countP_cons, List.countP_cons, ih, eqU_of r f.1]
theorem mt_countF : MtR X "list.count" (rCount X.K) := by
  rintro pins s σ H x xs v us Q I rx rxs ⟨a, ys, y, rfl, rfl, hs, fy, fys, q⟩
  cases rx
  cases rxs with
  | cons ry rt =>
    rename_i uy ut
    cases rt
    obtain ⟨its, rv, ⟨⟨cls, dd, data, sl⟩, n, ho, hc, hdn, hd⟩, hlen⟩ := I.list hs
    simp only at hc hd
    subst hc hd
    refine call_meets PySem.F.slot_list_count ⟨_, ho, rfl⟩ PySem.F.entry_list_count (PySem.F.args_list_count_2 _ _) (SeqAt.list_countAt a its.toArray n dd sl uy (eqU y)) ⟨ho, fun u' hu' => mem_eqAt ry fy rv fys u' (by simpa using hu'), ?_⟩
    rw [show its.toArray.toList = its from rfl, countP_eqU rv fys]
    exact ⟨.int (cntV y ys : Nat), H, I.tok _, ⟨_, rfl⟩, q⟩
end
end L2
set_option maxRecDepth 100000
set_option maxHeartbeats 4000000
/-! the law: the class of a caught error -/
namespace Pr
open PySem PySem.Spec PyProof.Rows L2 GxR Gx Rp Dl Pd Tx 
def EXC : List Str := ["NoMap", "NoState", "NoKeys", "NoCommand", "NoRow", "NoTime", "NoFlag", "Unlike", "NoGaps", "NoNumber", "NoBinding", "NoText"]
def WRD : List Str := ["map", "state", "keys", "command", "row", "time", "flag", "unlike", "gaps", "number", "binding", "text"]
/-- what is told of the classes of errors -/
structure ErrK (K : PySem.W.Frag) (mg : Str → Option Value) : Prop where
  gl : ∀ x ∈ EXC, mg x = some (.ref (He.ga K x))
  is : ∀ (i j : Nat) (x y : Str), EXC[i]? = some x → EXC[j]? = some y → PySem.W.kitOne K (.ref (He.ga K x)) (.ref (He.ga K y)) = some (decide (i = j))
  ve : ∀ x ∈ EXC, PySem.W.kitOne K (.ref (He.ga K x)) (.type "ValueError") = some true
  ex : ∀ x ∈ EXC, ExcC K (He.ga K x)
def flI (i : Nat) : List V := (List.range 12).map fun j => V.bl (decide (i = j))
theorem fl_count : ∀ i : Fin 12, cntV (.bl true) (flI i) = 1 := by decide +kernel
theorem fl_flat : ∀ i : Fin 12, (flI i).all flatV = true := by decide +kernel
theorem fl_at : ∀ i : Fin 12, (flI i)[i.val]? = some (.bl true) := by decide +kernel
theorem fl_none : ∀ i m : Fin 12, m.val < i.val → (flI i)[m.val]? = some (.bl false) := by decide +kernel
theorem fl_len (i : Nat) : (flI i).length = 12 := by
  unfold flI
  rw [List.length_map, List.length_range]
theorem wrd_split : Txt.split "map state keys command row time flag unlike gaps number binding text" " " = WRD := by decide +kernel
section
variable {P : Program} {w : World} {K : PySem.W.Frag} {mg : Str → Option Value} {base : Heap} {T : List Addr}
def spCau (K : PySem.W.Frag) : Sp := fun vs H Q _ => ∃ (a : Addr) (i : Nat) (x y : Str), vs = [.ref a] ∧ EXC[i]? = some x ∧ WRD[i]? = some y ∧ H a = some (ErrO (.ref (He.ga K x)) none a) ∧ ∀ H', Ge H H' → Q (.str y) H'
abbrev nCau : List Str := ["_law_caught_here", "_law_some", "_law_names"]
theorem scCau : FnScope nCau ["_law_caught_here"] (defScope s_law_caught) := ⟨rfl, rfl, rfl, by decide +kernel, rfl, by decide +kernel, by decide +kernel⟩
theorem ok_law_caught {f c : Addr} {fd : FuncData} (F : FunC K "_law_caught" s_law_caught f fd c) (B : Bn mg) (EK : ErrK K mg) (hve : mg "ValueError" = none) : FnOk P w K mg base CX0 1 f fd ["_law_caught_here"] (spCau K) := by
  refine F.ok scCau (fun vs H Q E ⟨_, _, _, _, h, _⟩ => by rw [h]; rfl) (fun A outer s0 H vs Q E hr h => ?_)
  obtain ⟨a, i, x, y, rfl, hx, hy, ha, q⟩ := h
  refine ⟨_, pss_cons (ps_asg (pe_lst (pa_cons (pe_callB call_isV rfl B.isinstance (by decide +kernel) (pa_cons (pv 0) (pa_cons (pe_glob (v := .ref (He.ga K "NoMap")) rfl (EK.gl "NoMap" (by decide +kernel)) rfl) pa_nil))) (pa_cons (pe_callB call_isV rfl B.isinstance (by decide +kernel) (pa_cons (pv 0) (pa_cons (pe_glob (v := .ref (He.ga K "NoState")) rfl (EK.gl "NoState" (by decide +kernel)) rfl) pa_nil))) (pa_cons (pe_callB call_isV rfl B.isinstance (by decide +kernel) (pa_cons (pv 0) (pa_cons (pe_glob (v := .ref (He.ga K "NoKeys")) rfl (EK.gl "NoKeys" (by decide +kernel)) rfl) pa_nil))) pa_nil)))) (pg_name (i := 1) scCau.nd rfl (Or.inl rfl)))
    (pss_cons (ps_asg (pe_op op_cat (pv 1) (pe_lst (pa_cons (pe_callB call_isV rfl B.isinstance (by decide +kernel) (pa_cons (pv 0) (pa_cons (pe_glob (v := .ref (He.ga K "NoCommand")) rfl (EK.gl "NoCommand" (by decide +kernel)) rfl) pa_nil))) (pa_cons (pe_callB call_isV rfl B.isinstance (by decide +kernel) (pa_cons (pv 0) (pa_cons (pe_glob (v := .ref (He.ga K "NoRow")) rfl (EK.gl "NoRow" (by decide +kernel)) rfl) pa_nil))) (pa_cons (pe_callB call_isV rfl B.isinstance (by decide +kernel) (pa_cons (pv 0) (pa_cons (pe_glob (v := .ref (He.ga K "NoTime")) rfl (EK.gl "NoTime" (by decide +kernel)) rfl) pa_nil))) pa_nil))))) (pg_name (i := 1) scCau.nd rfl (Or.inl rfl)))
    (pss_cons (ps_asg (pe_op op_cat (pv 1) (pe_lst (pa_cons (pe_callB call_isV rfl B.isinstance (by decide +kernel) (pa_cons (pv 0) (pa_cons (pe_glob (v := .ref (He.ga K "NoFlag")) rfl (EK.gl "NoFlag" (by decide +kernel)) rfl) pa_nil))) (pa_cons (pe_callB call_isV rfl B.isinstance (by decide +kernel) (pa_cons (pv 0) (pa_cons (pe_glob (v := .ref (He.ga K "Unlike")) rfl (EK.gl "Unlike" (by decide +kernel)) rfl) pa_nil))) (pa_cons (pe_callB call_isV rfl B.isinstance (by decide +kernel) (pa_cons (pv 0) (pa_cons (pe_glob (v := .ref (He.ga K "NoGaps")) rfl (EK.gl "NoGaps" (by decide +kernel)) rfl) pa_nil))) pa_nil))))) (pg_name (i := 1) scCau.nd rfl (Or.inl rfl)))
    (pss_cons (ps_asg (pe_op op_cat (pv 1) (pe_lst (pa_cons (pe_callB call_isV rfl B.isinstance (by decide +kernel) (pa_cons (pv 0) (pa_cons (pe_glob (v := .ref (He.ga K "NoNumber")) rfl (EK.gl "NoNumber" (by decide +kernel)) rfl) pa_nil))) (pa_cons (pe_callB call_isV rfl B.isinstance (by decide +kernel) (pa_cons (pv 0) (pa_cons (pe_glob (v := .ref (He.ga K "NoBinding")) rfl (EK.gl "NoBinding" (by decide +kernel)) rfl) pa_nil))) (pa_cons (pe_callB call_isV rfl B.isinstance (by decide +kernel) (pa_cons (pv 0) (pa_cons (pe_glob (v := .ref (He.ga K "NoText")) rfl (EK.gl "NoText" (by decide +kernel)) rfl) pa_nil))) pa_nil))))) (pg_name (i := 1) scCau.nd rfl (Or.inl rfl)))
    (pss_cons (ps_if (PW.pt (pw_or (pt_cmpR op_ne (pe_bm PySem.F.plainAttrs_list PySem.F.slot_list_count PySem.F.type_list_count mt_countF (pv 1) (pa_cons pe_bl pa_nil)) pe_int (nomark _)) (pw_or1 (pt_not (pt_val (pe_callB call_isV rfl B.isinstance (by decide +kernel) (pa_cons (pv 0) (pa_cons (pe_bltn (v := .ty "ValueError") rfl hve (by decide +kernel) rfl) pa_nil)))))))) (pss_one (ps_ret pe_str)) pss_nil)
    (pss_cons (ps_asg pe_str (pg_name (i := 2) scCau.nd rfl (Or.inl rfl)))
    (pss_one (ps_ret (pe_ix ix_list (pe_m1 PySem.F.slot_str_split PySem.F.type_str_split mt_split (pv 2) pe_str) (pe_bm PySem.F.plainAttrs_list PySem.F.slot_list_index PySem.F.type_list_index mt_index (pv 1) (pa_cons pe_bl pa_nil)) (fun _ _ => rfl))))))))), ?_⟩
  have xm : x ∈ EXC := List.mem_of_getElem? hx
  have C := EK.ex x xm
  have hi : i < 12 := (List.getElem?_eq_some_iff.mp hx).1
  have b3 : 3 ≤ sizeLine := by decide
  refine ⟨_, rfl, a, _, .ref _, .ref _, _, rfl, ha, C, (fun u r => r), EK.is i 0 x _ hx rfl, _, rfl, a, _, .ref _, .ref _, _, rfl, ha, C, (fun u r => r), EK.is i 1 x _ hx rfl, _, rfl, a, _, .ref _, .ref _, _, rfl, ha, C, (fun u r => r), EK.is i 2 x _ hx rfl, b3, fun p1 n1 => ?_⟩
  have g1 := Ge.new (o := .lst [.bl (decide (i = 0)), .bl (decide (i = 1)), .bl (decide (i = 2))]) n1
  have ha1 := g1.1 a _ ha (fun ps z => by cases z)
  have h1 : upd H p1 (.lst [.bl (decide (i = 0)), .bl (decide (i = 1)), .bl (decide (i = 2))]) p1 = some (.lst [.bl (decide (i = 0)), .bl (decide (i = 1)), .bl (decide (i = 2))]) := upd_same
  dsimp only [gName]
  show tSeq _ _ _ _ (upd H p1 (.lst [.bl (decide (i = 0)), .bl (decide (i = 1)), .bl (decide (i = 2))]))
  generalize upd H p1 (.lst [.bl (decide (i = 0)), .bl (decide (i = 1)), .bl (decide (i = 2))]) = G1 at *
  refine ⟨_, rfl, _, rfl, a, _, .ref _, .ref _, _, rfl, ha1, C, (fun u r => r), EK.is i 3 x _ hx rfl, _, rfl, a, _, .ref _, .ref _, _, rfl, ha1, C, (fun u r => r), EK.is i 4 x _ hx rfl, _, rfl, a, _, .ref _, .ref _, _, rfl, ha1, C, (fun u r => r), EK.is i 5 x _ hx rfl, b3, fun q1 m1 => ⟨p1, q1, _, _, rfl, rfl, (Ge.new m1).1 p1 _ h1 (fun ps z => by cases z), upd_same, (show 6 ≤ sizeLine by decide), fun p2 n2 => ?_⟩⟩
  have g2 := (g1.trans (Ge.new (o := .lst [.bl (decide (i = 3)), .bl (decide (i = 4)), .bl (decide (i = 5))]) m1)).trans (Ge.new (o := .lst [.bl (decide (i = 0)), .bl (decide (i = 1)), .bl (decide (i = 2)), .bl (decide (i = 3)), .bl (decide (i = 4)), .bl (decide (i = 5))]) n2)
  have ha2 := g2.1 a _ ha (fun ps z => by cases z)
  have h2 : upd (upd G1 q1 (.lst [.bl (decide (i = 3)), .bl (decide (i = 4)), .bl (decide (i = 5))])) p2 (.lst [.bl (decide (i = 0)), .bl (decide (i = 1)), .bl (decide (i = 2)), .bl (decide (i = 3)), .bl (decide (i = 4)), .bl (decide (i = 5))]) p2 = some (.lst [.bl (decide (i = 0)), .bl (decide (i = 1)), .bl (decide (i = 2)), .bl (decide (i = 3)), .bl (decide (i = 4)), .bl (decide (i = 5))]) := upd_same
  dsimp only [gName]
  show tSeq _ _ _ _ (upd (upd G1 q1 (.lst [.bl (decide (i = 3)), .bl (decide (i = 4)), .bl (decide (i = 5))])) p2 (.lst [.bl (decide (i = 0)), .bl (decide (i = 1)), .bl (decide (i = 2)), .bl (decide (i = 3)), .bl (decide (i = 4)), .bl (decide (i = 5))]))
  generalize upd (upd G1 q1 (.lst [.bl (decide (i = 3)), .bl (decide (i = 4)), .bl (decide (i = 5))])) p2 (.lst [.bl (decide (i = 0)), .bl (decide (i = 1)), .bl (decide (i = 2)), .bl (decide (i = 3)), .bl (decide (i = 4)), .bl (decide (i = 5))]) = G2 at *
  refine ⟨_, rfl, _, rfl, a, _, .ref _, .ref _, _, rfl, ha2, C, (fun u r => r), EK.is i 6 x _ hx rfl, _, rfl, a, _, .ref _, .ref _, _, rfl, ha2, C, (fun u r => r), EK.is i 7 x _ hx rfl, _, rfl, a, _, .ref _, .ref _, _, rfl, ha2, C, (fun u r => r), EK.is i 8 x _ hx rfl, b3, fun q2 m2 => ⟨p2, q2, _, _, rfl, rfl, (Ge.new m2).1 p2 _ h2 (fun ps z => by cases z), upd_same, (show 9 ≤ sizeLine by decide), fun p3 n3 => ?_⟩⟩
  have g3 := (g2.trans (Ge.new (o := .lst [.bl (decide (i = 6)), .bl (decide (i = 7)), .bl (decide (i = 8))]) m2)).trans (Ge.new (o := .lst [.bl (decide (i = 0)), .bl (decide (i = 1)), .bl (decide (i = 2)), .bl (decide (i = 3)), .bl (decide (i = 4)), .bl (decide (i = 5)), .bl (decide (i = 6)), .bl (decide (i = 7)), .bl (decide (i = 8))]) n3)
  have ha3 := g3.1 a _ ha (fun ps z => by cases z)
  have h3 : upd (upd G2 q2 (.lst [.bl (decide (i = 6)), .bl (decide (i = 7)), .bl (decide (i = 8))])) p3 (.lst [.bl (decide (i = 0)), .bl (decide (i = 1)), .bl (decide (i = 2)), .bl (decide (i = 3)), .bl (decide (i = 4)), .bl (decide (i = 5)), .bl (decide (i = 6)), .bl (decide (i = 7)), .bl (decide (i = 8))]) p3 = some (.lst [.bl (decide (i = 0)), .bl (decide (i = 1)), .bl (decide (i = 2)), .bl (decide (i = 3)), .bl (decide (i = 4)), .bl (decide (i = 5)), .bl (decide (i = 6)), .bl (decide (i = 7)), .bl (decide (i = 8))]) := upd_same
  dsimp only [gName]
  show tSeq _ _ _ _ (upd (upd G2 q2 (.lst [.bl (decide (i = 6)), .bl (decide (i = 7)), .bl (decide (i = 8))])) p3 (.lst [.bl (decide (i = 0)), .bl (decide (i = 1)), .bl (decide (i = 2)), .bl (decide (i = 3)), .bl (decide (i = 4)), .bl (decide (i = 5)), .bl (decide (i = 6)), .bl (decide (i = 7)), .bl (decide (i = 8))]))
  generalize upd (upd G2 q2 (.lst [.bl (decide (i = 6)), .bl (decide (i = 7)), .bl (decide (i = 8))])) p3 (.lst [.bl (decide (i = 0)), .bl (decide (i = 1)), .bl (decide (i = 2)), .bl (decide (i = 3)), .bl (decide (i = 4)), .bl (decide (i = 5)), .bl (decide (i = 6)), .bl (decide (i = 7)), .bl (decide (i = 8))]) = G3 at *
  refine ⟨_, rfl, _, rfl, a, _, .ref _, .ref _, _, rfl, ha3, C, (fun u r => r), EK.is i 9 x _ hx rfl, _, rfl, a, _, .ref _, .ref _, _, rfl, ha3, C, (fun u r => r), EK.is i 10 x _ hx rfl, _, rfl, a, _, .ref _, .ref _, _, rfl, ha3, C, (fun u r => r), EK.is i 11 x _ hx rfl, b3, fun q3 m3 => ⟨p3, q3, _, _, rfl, rfl, (Ge.new m3).1 p3 _ h3 (fun ps z => by cases z), upd_same, (show 12 ≤ sizeLine by decide), fun p4 n4 => ?_⟩⟩
  have g4 := (g3.trans (Ge.new (o := .lst [.bl (decide (i = 9)), .bl (decide (i = 10)), .bl (decide (i = 11))]) m3)).trans (Ge.new (o := .lst [.bl (decide (i = 0)), .bl (decide (i = 1)), .bl (decide (i = 2)), .bl (decide (i = 3)), .bl (decide (i = 4)), .bl (decide (i = 5)), .bl (decide (i = 6)), .bl (decide (i = 7)), .bl (decide (i = 8)), .bl (decide (i = 9)), .bl (decide (i = 10)), .bl (decide (i = 11))]) n4)
  have ha4 := g4.1 a _ ha (fun ps z => by cases z)
  have h4 : upd (upd G3 q3 (.lst [.bl (decide (i = 9)), .bl (decide (i = 10)), .bl (decide (i = 11))])) p4 (.lst [.bl (decide (i = 0)), .bl (decide (i = 1)), .bl (decide (i = 2)), .bl (decide (i = 3)), .bl (decide (i = 4)), .bl (decide (i = 5)), .bl (decide (i = 6)), .bl (decide (i = 7)), .bl (decide (i = 8)), .bl (decide (i = 9)), .bl (decide (i = 10)), .bl (decide (i = 11))]) p4 = some (.lst [.bl (decide (i = 0)), .bl (decide (i = 1)), .bl (decide (i = 2)), .bl (decide (i = 3)), .bl (decide (i = 4)), .bl (decide (i = 5)), .bl (decide (i = 6)), .bl (decide (i = 7)), .bl (decide (i = 8)), .bl (decide (i = 9)), .bl (decide (i = 10)), .bl (decide (i = 11))]) := upd_same
  dsimp only [gName]
  show tSeq _ _ _ _ (upd (upd G3 q3 (.lst [.bl (decide (i = 9)), .bl (decide (i = 10)), .bl (decide (i = 11))])) p4 (.lst [.bl (decide (i = 0)), .bl (decide (i = 1)), .bl (decide (i = 2)), .bl (decide (i = 3)), .bl (decide (i = 4)), .bl (decide (i = 5)), .bl (decide (i = 6)), .bl (decide (i = 7)), .bl (decide (i = 8)), .bl (decide (i = 9)), .bl (decide (i = 10)), .bl (decide (i = 11))]))
  generalize upd (upd G3 q3 (.lst [.bl (decide (i = 9)), .bl (decide (i = 10)), .bl (decide (i = 11))])) p4 (.lst [.bl (decide (i = 0)), .bl (decide (i = 1)), .bl (decide (i = 2)), .bl (decide (i = 3)), .bl (decide (i = 4)), .bl (decide (i = 5)), .bl (decide (i = 6)), .bl (decide (i = 7)), .bl (decide (i = 8)), .bl (decide (i = 9)), .bl (decide (i = 10)), .bl (decide (i = 11))]) = G4 at *
  have hf : G4 p4 = some (.lst (flI i)) := h4
  have ff := fl_flat ⟨i, hi⟩
  refine ⟨_, rfl, .inl ⟨rfl, _, SqL.of hf⟩, p4, flI i, .bl true, rfl, rfl, SqL.of hf, rfl, ff, ?_⟩
  rw [fl_count ⟨i, hi⟩]
  refine ⟨rfl, _, rfl, iteF ?_⟩
  refine ⟨_, rfl, a, _, .ty "ValueError", .type "ValueError", true, rfl, ha4, C, fun u r => r, EK.ve x xm, _, rfl, iteF ?_⟩
  refine ⟨_, rfl, ⟨_, rfl⟩, _, _, rfl, rfl, by decide, by decide +kernel, fun p5 n5 => ?_⟩
  rw [wrd_split]
  have g5 := g4.trans (Ge.new (o := .lst (WRD.map V.str)) n5)
  have hf5 := (Ge.new (o := .lst (WRD.map V.str)) n5).1 p4 _ hf (fun ps z => by cases z)
  refine ⟨_, rfl, .inl ⟨rfl, _, SqL.of hf5⟩, p4, flI i, .bl true, i, .bl true, rfl, rfl, SqL.of hf5, rfl, ff, fl_at ⟨i, hi⟩, rfl, fun m z' hm e => ?_, p5, _, _, .str y, rfl, rfl, SqL.of upd_same, atI_nat (by rw [List.getElem?_map, hy]; rfl), q _ g5⟩
  have z := fl_none ⟨i, hi⟩ ⟨m, by omega⟩ hm
  rw [show (flI i)[m]? = some z' from e] at z
  cases z
  rfl
end
end Pr
set_option maxRecDepth 100000
set_option maxHeartbeats 4000000
/-! the program: checks that raise -/
namespace Pr
open PySem PySem.Spec PyProof.Rows L2 GxR Gx Rp Dl Pd Tx 
/-- what is told of a class of errors that is raised -/
structure RaK (K : PySem.W.Frag) (mg : Str → Option Value) (x : Str) : Prop where
  gl : mg x = some (.ref (He.ga K x))
  ex : PySem.W.excIn K (He.ga K x) He.veBase "ValueError.__new__" = true
  kp : PySem.W.keepIn K (.ref (He.ga K x)) = true
  sb : PySem.W.subIn K (.ref (He.ga K x)) (.type "BaseException") = some true
  ty : PySem.W.typeIn K (.ref (He.ga K x)) = some (.type "type")
abbrev DfE (P : Program) (w : World) (K : PySem.W.Frag) (mg : Str → Option Value) (base : Heap) (k : Nat) (x : Str) (ps : List Str) (sp : Sp) : Prop := Df P w K mg base (L2.CX P w) k x ps sp
/-- the error that is due: 0 no keymap, 1 no state, 2 no text -/
def due2 (m d : PyData) : Option Nat := if isMap m = true then (if fitsState (lenT (flagsOf m)) d = true then none else some 1) else some 0
def due3 (m d e : PyData) : Option Nat := match due2 m d with
  | some i => some i
  | none => if isWord 40 e = true then none else some 2
section
variable {P : Program} {w : World} {K : PySem.W.Frag} {mg : Str → Option Value} {base : Heap} {T : List Addr}
def spCheckX (K : PySem.W.Frag) (T : List Addr) : Sp := fun vs H Q E => ∃ v d, vs = [v] ∧ Da K H v d ∧ small d = true ∧ Tb T H ∧ (isMap d = true → ∀ H', Ge H H' → Q .non H') ∧ (isMap d = false → ∀ H', Ge H H' → E (.ref (He.ga K "NoMap")) none H')
theorem ok_check_mapX {f c : Addr} {fd : FuncData} (F : FunC K "check_map" s_check_map f fd c) (R : RaK K mg "NoMap") (D : DfP P w K mg base 7 "is_map" ["thing"] (spD K T isMap)) : FnOk P w K mg base (L2.CX P w) 8 f fd ["keymap"] (spCheckX K T) := by
  refine F.okX scCheck (fun vs H Q E ⟨_, _, h, _⟩ => by rw [h]; rfl) (fun A outer s H vs Q E hr h => ?_)
  obtain ⟨v, d, rfl, hd, hs, hT, qy, qn⟩ := h
  refine ⟨_, pss_one (ps_if (pt_not (pt_val (pcall D hr pass0 rfl (pa_cons (pv 0) pa_nil)))) (pss_one (ps_raise rfl (takes_of rfl rfl rfl rfl) (pmk_own PySem.F.excBase_ValueError R.ex R.gl R.kp (raises_own R.sb R.ty) rfl))) pss_nil), ?_⟩
  refine ⟨v, rfl, v, d, rfl, hd, hs, hT, fun H' g => ⟨_, rfl, ?_⟩⟩
  cases e : isMap d with
  | true => exact iteF (qy e H' g)
  | false => exact iteT (qn e H' g)
def spCheckSX (K : PySem.W.Frag) (T : List Addr) : Sp := fun vs H Q E => ∃ u v m d, vs = [u, v] ∧ Da K H u m ∧ small m = true ∧ Da K H v d ∧ small d = true ∧ Tb T H ∧ (due2 m d = none → ∀ H', Ge H H' → Q .non H') ∧ (∀ i c, due2 m d = some i → EXC[i]? = some c → ∀ H', Ge H H' → E (.ref (He.ga K c)) none H')
theorem ok_check_stateX {f c : Addr} {fd : FuncData} (F : FunC K "check_state" s_check_state f fd c) (R : RaK K mg "NoState") (D1 : DfE P w K mg base 8 "check_map" ["keymap"] (spCheckX K T)) (D2 : DfP P w K mg base 3 "fits_state" ["keymap", "thing"] (spSt K T)) : FnOk P w K mg base (L2.CX P w) 9 f fd ["keymap", "state"] (spCheckSX K T) := by
  refine F.okX scCheckS (fun vs H Q E ⟨_, _, _, _, h, _⟩ => by rw [h]; rfl) (fun A outer s0 H vs Q E hr h => ?_)
  obtain ⟨u, v, m, d, rfl, hm, sm, hd, sd, hT, qy, qn⟩ := h
  refine ⟨_, pss_cons (ps_expr (pcall D1 hr (passes_call (takes_of rfl rfl rfl rfl) (fun _ _ _ _ h => h)) rfl (pa_cons (pv 0) pa_nil)))
    (pss_one (ps_if (pt_not (pt_val (pcall D2 (hr.mono (by decide)) pass0 rfl (pa_cons (pv 0) (pa_cons (pv 1) pa_nil))))) (pss_one (ps_raise rfl (takes_of rfl rfl rfl rfl) (pmk_own PySem.F.excBase_ValueError R.ex R.gl R.kp (raises_own R.sb R.ty) rfl))) pss_nil)), ?_⟩
  unfold due2 at qy qn
  refine ⟨u, rfl, u, m, rfl, hm, sm, hT, fun em H1 g1 => ?_, fun em H1 g1 => qn 0 "NoMap" (by rw [em]; rfl) rfl H1 g1⟩
  rw [if_pos em] at qy qn
  refine ⟨u, rfl, v, rfl, u, v, m, d, rfl, g1.da hm, sm, em, g1.da hd, sd, g1.tb hT, fun H2 g2 => ⟨_, rfl, ?_⟩⟩
  cases e : fitsState (lenT (flagsOf m)) d with
  | true => exact iteF (qy (by rw [e]; rfl) H2 (g1.trans g2))
  | false => exact iteT (qn 1 "NoState" (by rw [e]; rfl) rfl H2 (g1.trans g2))
def spChTxX (K : PySem.W.Frag) (T : List Addr) : Sp := fun vs H Q E => ∃ u v x m d e, vs = [u, v, x] ∧ Da K H u m ∧ small m = true ∧ Da K H v d ∧ small d = true ∧ Da K H x e ∧ small e = true ∧ Tb T H ∧ (due3 m d e = none → ∀ H', Ge H H' → Q .non H') ∧ (∀ i c, due3 m d e = some i → EXC[i]? = some c → ∀ H', Ge H H' → E (.ref (He.ga K c)) none H')
theorem ok_check_textX {f c : Addr} {fd : FuncData} (F : FunC K "check_text" s_check_text f fd c) (R : RaK K mg "NoKeys") (D1 : DfE P w K mg base 9 "check_state" ["keymap", "state"] (spCheckSX K T)) (D2 : DfP P w K mg base 2 "is_word" ["thing", "most"] (spW K T)) {tk : Tok} (hc : mg "LONGEST_TEXT" = some (.int 40 tk)) : FnOk P w K mg base (L2.CX P w) 10 f fd ["keymap", "state", "text"] (spChTxX K T) := by
  refine F.okX scChTx (fun vs H Q E ⟨_, _, _, _, _, _, h, _⟩ => by rw [h]; rfl) (fun A outer s0 H vs Q E hr h => ?_)
  obtain ⟨u, v, x, m, d, e, rfl, hm, sm, hd, sd, he, se, hT, qy, qn⟩ := h
  refine ⟨_, pss_cons (ps_expr (pcall D1 hr (passes_call (takes_of rfl rfl rfl rfl) (fun _ _ _ _ h => h)) rfl (pa_cons (pv 0) (pa_cons (pv 1) pa_nil))))
    (pss_one (ps_if (pt_not (pt_val (pcall D2 (hr.mono (by decide)) pass0 rfl (pa_cons (pv 2) (pa_cons (pe_glob (v := .int 40) rfl hc ⟨_, rfl⟩) pa_nil))))) (pss_one (ps_raise rfl (takes_of rfl rfl rfl rfl) (pmk_own PySem.F.excBase_ValueError R.ex R.gl R.kp (raises_own R.sb R.ty) rfl))) pss_nil)), ?_⟩
  unfold due3 at qy qn
  refine ⟨u, rfl, v, rfl, u, v, m, d, rfl, hm, sm, hd, sd, hT, fun em H1 g1 => ?_, fun i c em ec H1 g1 => qn i c (by rw [em]) ec H1 g1⟩
  rw [em] at qy qn
  refine ⟨x, rfl, x, e, 40, rfl, g1.da he, se, g1.tb hT, fun H2 g2 => ⟨_, rfl, ?_⟩⟩
  cases ee : isWord 40 e with
  | true => exact iteF (qy (if_pos ee) H2 (g1.trans g2))
  | false => exact iteT (qn 2 "NoKeys" (if_neg (by rw [ee]; exact Bool.false_ne_true)) rfl H2 (g1.trans g2))
end
end Pr
set_option maxRecDepth 100000
set_option maxHeartbeats 4000000
/-! the law: occurrences, what meets, what is apart -/
namespace Pr
open PySem PySem.Spec PyProof.Rows L2 GxR Gx Rp Dl Pd Tx Zq Zs Zt Zd
theorem ix_listK {X : Cx} {K : PySem.W.Frag} (h : X.K = K) : IxR X (rIxL K) := h ▸ ix_list
def cutO (text : Str) (s j : Nat) : Str := cutS text (some (s : Int)) (some ((s : Int) + (1 + (j : Int))))
def oneO (kvs : List (Key × V)) (text : Str) (s j : Nat) : List (Int × Str) := if (valV kvs (Sum.inr (cutO text s j) : Key)).isSome && decide ((s : Int) + (1 + (j : Int)) ≤ (text.length : Int)) then [((s : Int), cutO text s j)] else []
def rowO (kvs : List (Key × V)) (text : Str) (s m : Nat) : List (Int × Str) := (List.range m).flatMap (oneO kvs text s)
def occL (kvs : List (Key × V)) (text : Str) (n : Nat) : List (Int × Str) := (List.range n).flatMap fun s => rowO kvs text s 4
theorem rowO_succ {kvs : List (Key × V)} {text : Str} {s m : Nat} : rowO kvs text s (m + 1) = rowO kvs text s m ++ oneO kvs text s m := by
  unfold rowO
  rw [List.range_succ, List.flatMap_append]
  simp
theorem occL_succ {kvs : List (Key × V)} {text : Str} {n : Nat} : occL kvs text (n + 1) = occL kvs text n ++ rowO kvs text n 4 := by
  unfold occL
  rw [List.range_succ, List.flatMap_append]
  simp
theorem oneO_len {kvs : List (Key × V)} {text : Str} {s j : Nat} : (oneO kvs text s j).length ≤ 1 := by
  unfold oneO
  split <;> simp
theorem rowO_len {kvs : List (Key × V)} {text : Str} {s : Nat} : ∀ m, (rowO kvs text s m).length ≤ m
  | 0 => Nat.le_refl _
  | m + 1 => by
    rw [rowO_succ, List.length_append]
    have := rowO_len (kvs := kvs) (text := text) (s := s) m
    have := oneO_len (kvs := kvs) (text := text) (s := s) (j := m)
    omega
theorem occL_len {kvs : List (Key × V)} {text : Str} : ∀ n, (occL kvs text n).length ≤ 4 * n
  | 0 => Nat.le_refl _
  | n + 1 => by
    rw [occL_succ, List.length_append]
    have := occL_len (kvs := kvs) (text := text) n
    have := rowO_len (kvs := kvs) (text := text) (s := n) 4
    omega
theorem occL_mem {kvs : List (Key × V)} {text : Str} {n : Nat} {o : Int × Str} : o ∈ occL kvs text n ↔ ∃ s j : Nat, s < n ∧ j < 4 ∧ o = ((s : Int), cutO text s j) ∧ (valV kvs (Sum.inr (cutO text s j) : Key)).isSome = true ∧ s + 1 + j ≤ text.length := by
  unfold occL rowO
  rw [List.mem_flatMap]
  constructor
  · rintro ⟨s, hs, h⟩
    obtain ⟨j, hj, h⟩ := List.mem_flatMap.mp h
    unfold oneO at h
    split at h
    · rename_i hc
      rw [Bool.and_eq_true, decide_eq_true_eq] at hc
      exact ⟨s, j, List.mem_range.mp hs, List.mem_range.mp hj, List.mem_singleton.mp h, hc.1, by omega⟩
    · cases h
  · rintro ⟨s, j, hs, hj, rfl, h1, h2⟩
    refine ⟨s, List.mem_range.mpr hs, List.mem_flatMap.mpr ⟨j, List.mem_range.mpr hj, ?_⟩⟩
    unfold oneO
    rw [if_pos (by rw [Bool.and_eq_true, decide_eq_true_eq]; exact ⟨h1, by omega⟩)]
    exact List.mem_singleton.mpr rfl
theorem cutO_list (text : Str) (s j : Nat) (h : s + 1 + j ≤ text.length) : (cutO text s j).cps.toList = (text.cps.toList.drop s).take (1 + j) := by
  unfold cutO cutS
  have e1 : ((s : Int) + (1 + (j : Int))) = ((s + 1 + j : Nat) : Int) := by omega
  have hl : text.length = text.cps.toList.length := (Array.length_toList).symm
  rw [e1, HT.sIx_nat, HT.sIx_nat]
  rw [Nat.min_eq_left (show s ≤ _ by have : text.length = text.cps.size := rfl; omega), Nat.min_eq_left (by have : text.length = text.cps.size := rfl; omega)]
  have : s + 1 + j - s = 1 + j := by omega
  simp [this]
theorem cutO_len (text : Str) (s j : Nat) (h : s + 1 + j ≤ text.length) : (cutO text s j).length = 1 + j := by
  show (cutO text s j).cps.size = _
  rw [← Array.length_toList, cutO_list text s j h, List.length_take, List.length_drop, Array.length_toList]
  have : text.length = text.cps.size := rfl
  omega
theorem cutO_letters {text : Str} {s j : Nat} (hl : letters text = true) (h : s + 1 + j ≤ text.length) : letters (cutO text s j) = true := by
  unfold letters
  rw [cutO_list text s j h]
  refine List.all_eq_true.mpr fun c hc => List.all_eq_true.mp hl c (List.mem_of_mem_drop (List.mem_of_mem_take hc))
/-- the law's look at one -/
def lawO (kvs : List (Key × V)) (text : Str) : PyData → Bool
  | .tuple [a, b] => !isBoolD a && (occL kvs text text.length).any fun o => PyData.eqv (occD o) (.tuple [a, b])
  | _ => false
theorem isKeys_of {x : Str} (h1 : 1 ≤ x.length) (h4 : x.length ≤ 4) (hl : letters x = true) : isKeys (.str x) = true := by
  show (decide (1 ≤ (x.length : Int)) && decide ((x.length : Int) ≤ 4) && letters x) = true
  rw [decide_eq_true (by omega), decide_eq_true (by omega), hl]
  rfl
theorem eqv_tup2 (x y a b : PyData) : PyData.eqv (.tuple [x, y]) (.tuple [a, b]) = (PyData.eqv x a && PyData.eqv y b) := by
  have e : ∀ xs ys : List PyData, PyData.eqv (.tuple xs) (.tuple ys) = PyData.eqvAll xs ys := fun xs ys => by rw [PyData.eqv]
  rw [e, PySem.W.eqv_all_cons, PySem.W.eqv_all_cons]
  have e2 : PyData.eqvAll [] [] = true := by rw [PyData.eqvAll]
  rw [e2, Bool.and_true]
theorem eqv_occ {o : Int × Str} {a b : PyData} (hb : isBoolD a = false) (h : PyData.eqv (occD o) (.tuple [a, b]) = true) : a = .int o.1 ∧ b = .str o.2 := by
  have h' : (PyData.eqv (.int o.1) a && PyData.eqv (.str o.2) b) = true := by
    rw [← eqv_tup2]
    exact h
  rw [Bool.and_eq_true] at h'
  obtain ⟨h1, h2⟩ := h'
  constructor
  · cases a with
    | int i =>
      have : (o.1 == i) = true := by simpa [PyData.eqv] using h1
      rw [eq_of_beq this]
    | bool b => cases hb
    | _ => simp [PyData.eqv] at h1
  · cases b with
    | str x =>
      have : (o.2 == x) = true := by simpa [PyData.eqv] using h2
      rw [eq_of_beq this]
    | _ => simp [PyData.eqv] at h2
theorem eqv_occ_self (o : Int × Str) : PyData.eqv (occD o) (occD o) = true := by
  simp [occD, PyData.eqv, PyData.eqvAll]
theorem occB_law {kvs : List (Key × V)} {text : Str} (hl : letters text = true) (d : PyData) : occB kvs text d = lawO kvs text d := by
  rw [Bool.eq_iff_iff]
  constructor
  · intro h
    obtain ⟨i, x, rfl, i0, i1, hk, hb, hc⟩ := occ_shape h
    obtain ⟨s, rfl⟩ := Int.eq_ofNat_of_zero_le i0
    have x1 : 1 ≤ x.length := by
      have h : (decide (1 ≤ (x.length : Int)) && decide ((x.length : Int) ≤ 4) && letters x) = true := hk
      rw [Bool.and_eq_true, Bool.and_eq_true] at h
      have := of_decide_eq_true h.1.1
      omega
    have x4 := keys_len hk
    obtain ⟨j, hj⟩ : ∃ j, x.length = 1 + j := ⟨x.length - 1, by omega⟩
    have ec : cutO text s j = x := by
      unfold cutO
      rw [← hc, hj]
      have : ((s : Int) + (1 + (j : Int))) = (s : Int) + ((1 + j : Nat) : Int) := by omega
      rw [this]
    have hfit : s + 1 + j ≤ text.length := by
      have e : x.length = (cutS text (some (s : Int)) (some ((s : Int) + (x.length : Int)))).length := by rw [hc]
      have e2 : (cutS text (some (s : Int)) (some ((s : Int) + (x.length : Int)))).length ≤ text.length - s := by
        unfold cutS
        rw [show ((s : Int) + (x.length : Int)) = ((s + x.length : Nat) : Int) by omega, HT.sIx_nat, HT.sIx_nat]
        show ((text.cps.toList.drop _).take _).toArray.size ≤ _
        have ts : text.length = text.cps.size := rfl
        rw [List.size_toArray, List.length_take, List.length_drop, Array.length_toList]
        omega
      omega
    show (!isBoolD (.int (s : Int)) && (occL kvs text text.length).any fun o => PyData.eqv (occD o) (occD ((s : Int), x))) = true
    rw [show isBoolD (.int (s : Int)) = false from rfl]
    refine List.any_eq_true.mpr ⟨((s : Int), x), occL_mem.mpr ⟨s, j, by omega, by omega, by rw [ec], by rw [ec]; exact hb, hfit⟩, eqv_occ_self _⟩
  · intro h
    unfold lawO at h
    split at h
    · rename_i a b
      rw [Bool.and_eq_true, Bool.not_eq_true'] at h
      obtain ⟨hb, h2⟩ := h
      obtain ⟨o, ho, he⟩ := List.any_eq_true.mp h2
      obtain ⟨rfl, rfl⟩ := eqv_occ hb he
      obtain ⟨s, j, hs, hj, rfl, hv, hf⟩ := occL_mem.mp ho
      have cl := cutO_len text s j hf
      show (isWithin 0 ((text.length : Int) - 1) (.int (s : Int)) && (isKeys (.str (cutO text s j)) && ((valV kvs (Sum.inr (cutO text s j) : Key)).isSome && decide (cutS text (some (s : Int)) (some ((s : Int) + ((cutO text s j).length : Int))) = cutO text s j)))) = true
      rw [hv, isKeys_of (by omega) (by omega) (cutO_letters hl hf)]
      have w : isWithin 0 ((text.length : Int) - 1) (.int (s : Int)) = true := by
        show (decide (0 ≤ (s : Int)) && decide ((s : Int) ≤ (text.length : Int) - 1)) = true
        rw [decide_eq_true (by omega), decide_eq_true (by omega)]
        rfl
      have e : cutS text (some (s : Int)) (some ((s : Int) + ((cutO text s j).length : Int))) = cutO text s j := by
        rw [cl]
        unfold cutO
        have : ((1 + j : Nat) : Int) = 1 + (j : Int) := by omega
        rw [this]
      rw [w, decide_eq_true e]
      rfl
    · cases h
def meetB (p q : Int × Str) : Bool := decide ((if q.1 > p.1 then q.1 else p.1) + 1 ≤ (if q.1 + (q.2.length : Int) < p.1 + (p.2.length : Int) then q.1 + (q.2.length : Int) else p.1 + (p.2.length : Int)) - 1)
def lawP : List (Int × Str) → Bool
  | [] => true
  | [_] => true
  | p :: q :: r => PySem.W.dataLt (occD p) (occD q) && (!(q :: r).any (meetB p) && lawP (q :: r))
theorem lt_start {p q : Int × Str} (h : PySem.W.dataLt (occD p) (occD q) = true) : p.1 ≤ q.1 := by
  unfold occD at h
  rw [PySem.W.dataLt_pair rfl rfl] at h
  split at h
  · rename_i he
    have : (p.1 == q.1) = true := by simpa [PyData.eqv] using he
    rw [eq_of_beq this]
    exact Int.le_refl _
  · rw [PySem.W.dataLt_int] at h
    have := of_decide_eq_true h
    omega
theorem asc_starts : ∀ {r : List (Int × Str)} {p : Int × Str}, ascO (p :: r) = true → ∀ o ∈ r, p.1 ≤ o.1
  | [], _, _, o, ho => by cases ho
  | q :: r, p, h, o, ho => by
    have h' : (PySem.W.dataLt (occD p) (occD q) && ascO (q :: r)) = true := h
    rw [Bool.and_eq_true] at h'
    have h1 := lt_start h'.1
    rcases List.mem_cons.mp ho with rfl | ho
    · exact h1
    · exact Int.le_trans h1 (asc_starts h'.2 o ho)
theorem asc_tail {r : List (Int × Str)} {p : Int × Str} (h : ascO (p :: r) = true) : ascO r = true := by
  cases r with
  | nil => rfl
  | cons q r =>
    have h' : (PySem.W.dataLt (occD p) (occD q) && ascO (q :: r)) = true := h
    rw [Bool.and_eq_true] at h'
    exact h'.2
def lawM : List (Int × Str) → Bool
  | [] => true
  | p :: r => !r.any (meetB p) && lawM r
theorem lawP_eq : ∀ os : List (Int × Str), lawP os = (ascO os && lawM os)
  | [] => rfl
  | [_] => rfl
  | p :: q :: r => by
    show (PySem.W.dataLt (occD p) (occD q) && (!(q :: r).any (meetB p) && lawP (q :: r))) = ((PySem.W.dataLt (occD p) (occD q) && ascO (q :: r)) && (!(q :: r).any (meetB p) && lawM (q :: r)))
    rw [lawP_eq (q :: r)]
    cases PySem.W.dataLt (occD p) (occD q) <;> cases ascO (q :: r) <;> cases (q :: r).any (meetB p) <;> rfl
theorem meet_iff {p o : Int × Str} (h : p.1 ≤ o.1) : meetB p o = true ↔ o.1 + 2 ≤ p.1 + (p.2.length : Int) ∧ 1 < o.2.length := by
  unfold meetB
  rw [decide_eq_true_eq]
  by_cases h1 : o.1 > p.1 <;> by_cases h2 : o.1 + (o.2.length : Int) < p.1 + (p.2.length : Int) <;> simp only [h1, h2, if_true, if_false] <;> omega
theorem apart_iff : ∀ (os : List (Int × Str)) (e : Int), ascO os = true → (apartI e os = true ↔ (∀ o ∈ os, 1 < o.2.length → e ≤ o.1) ∧ lawM os = true)
  | [], e, _ => ⟨fun _ => ⟨(fun o ho => by cases ho), rfl⟩, fun _ => rfl⟩
  | p :: r, e, ha => by
    have hs := asc_starts ha
    have ih := fun e => apart_iff r e (asc_tail ha)
    show (if 1 < p.2.length then (if p.1 < e then false else apartI (p.1 + (p.2.length : Int) - 1) r) else apartI e r) = true ↔ _ ∧ (!r.any (meetB p) && lawM r) = true
    rw [Bool.and_eq_true, Bool.not_eq_true', List.any_eq_false]
    by_cases h1 : 1 < p.2.length
    · rw [if_pos h1]
      by_cases h2 : p.1 < e
      · rw [if_pos h2]
        refine ⟨(fun z => by cases z), fun ⟨z, _⟩ => ?_⟩
        have := z p List.mem_cons_self h1
        omega
      · rw [if_neg h2, ih]
        constructor
        · rintro ⟨z1, z2⟩
          refine ⟨fun o ho hl => ?_, fun o ho hm => ?_, z2⟩
          · rcases List.mem_cons.mp ho with rfl | ho
            · omega
            · have := hs o ho
              omega
          · obtain ⟨m1, m2⟩ := (meet_iff (hs o ho)).mp hm
            have := z1 o ho m2
            omega
        · rintro ⟨z1, z2, z3⟩
          refine ⟨fun o ho hl => ?_, z3⟩
          have h5 : ¬ meetB p o = true := z2 o ho
          rw [meet_iff (hs o ho)] at h5
          omega
    · rw [if_neg h1, ih]
      constructor
      · rintro ⟨z1, z2⟩
        refine ⟨fun o ho hl => ?_, fun o ho hm => ?_, z2⟩
        · rcases List.mem_cons.mp ho with rfl | ho
          · exact absurd hl h1
          · exact z1 o ho hl
        · have := (meet_iff (hs o ho)).mp hm
          have := hs o ho
          omega
      · rintro ⟨z1, _, z3⟩
        exact ⟨fun o ho hl => z1 o (List.mem_cons_of_mem _ ho) hl, z3⟩
/-- the program's answer is the law's -/
theorem both_apart {os : List (Int × Str)} (h0 : ∀ o ∈ os, 0 ≤ o.1) : (ascO os && apartI 0 os) = lawP os := by
  rw [lawP_eq]
  cases e : ascO os with
  | false => rfl
  | true =>
    rw [Bool.true_and, Bool.true_and, Bool.eq_iff_iff, apart_iff os 0 e]
    exact ⟨fun z => z.2, fun z => ⟨fun o ho _ => h0 o ho, z⟩⟩
def lawA (kvs : List (Key × V)) (text : Str) : PyData → Bool
  | .list ds => ds.all (lawO kvs text) && lawP (ds.map toOcc)
  | _ => false
theorem apartB_law {kvs : List (Key × V)} {text : Str} (hl : letters text = true) (d : PyData) : apartB kvs text d = lawA kvs text d := by
  cases d with
  | list ds =>
    show (ds.all (occB kvs text) && (ascO (ds.map toOcc) && apartI 0 (ds.map toOcc))) = (ds.all (lawO kvs text) && lawP (ds.map toOcc))
    have e : ds.all (occB kvs text) = ds.all (lawO kvs text) := by
      congr 1
      funext d
      exact occB_law hl d
    rw [e]
    cases e1 : ds.all (lawO kvs text) with
    | false => rfl
    | true =>
      rw [Bool.true_and, Bool.true_and]
      refine both_apart fun o ho => ?_
      obtain ⟨d, hd, rfl⟩ := List.mem_map.mp ho
      rw [← e] at e1
      obtain ⟨i, x, rfl, i0, _⟩ := occ_shape (List.all_eq_true.mp e1 d hd)
      exact i0
  | _ => rfl
section
variable {P : Program} {w : World} {K : PySem.W.Frag} {mg : Str → Option Value} {base : Heap} {T : List Addr}
end
end Pr
set_option maxRecDepth 100000
set_option maxHeartbeats 4000000
/-! the law: occurrences, what meets, what is apart, as defs -/
namespace Pr
open PySem PySem.Spec PyProof.Rows L2 GxR Gx Rp Dl Pd Tx Zq Zs Zt Zd
theorem inV_true (bs : List Bool) : inV (.bl true) (bs.map V.bl) = bs.any id := by
  induction bs with
  | nil => rfl
  | cons b r ih =>
    show ((b == true) || inV (.bl true) (r.map V.bl)) = (b || r.any id)
    rw [ih]
    cases b <;> rfl
theorem ge_updW {H H' : Hp} {d : Addr} {o : HO} (g : Ge H H') (hd : Nw H d) : Ge H (upd H' d o) :=
  ⟨fun b u hb n => by
      have : b ≠ d := fun z => by
        subst z
        obtain ⟨ps, q⟩ := hd.1 u hb
        exact n ps q
      rw [upd_ne this]; exact g.1 b u hb n, fun b tb => by
    obtain ⟨ps, e, w⟩ := g.2 b tb
    have : b ≠ d := fun z => by
      subst z
      exact hd.2 tb
    exact ⟨ps, by rw [upd_ne this]; exact e, w⟩⟩
section
variable {P : Program} {w : World} {K : PySem.W.Frag} {mg : Str → Option Value} {base : Heap} {T : List Addr}
def spOccs (K : PySem.W.Frag) : Sp := fun vs H Q _ => ∃ (tb : Addr) (x : Str) (kvs : List (Key × V)), vs = [.ref tb, .str x] ∧ H tb = some (.dK kvs) ∧ x.length ≤ 40 ∧ ∀ H' L xs, Ge H H' → Nw H L → H' L = some (.lst xs) → DaAll K H' xs ((occL kvs x x.length).map occD) → Q (.ref L) H'
abbrev nOccs : List Str := ["_law_table_here", "_law_text", "_law_found", "_law_start", "_law_size"]
def spMeet : Sp := fun vs H Q _ => ∃ (a b : Addr) (p q : Int × Str), vs = [.ref a, .ref b] ∧ Rd H a (.tup [.int p.1, .str p.2]) ∧ Rd H b (.tup [.int q.1, .str q.2]) ∧ p.2.length ≤ 1000 ∧ q.2.length ≤ 1000 ∧ Q (.bl (meetB p q)) H
abbrev nMeet : List Str := ["_law_one", "_law_other", "_law_low", "_law_high"]
/-- what may be given as occurrences -/
def GoodL : PyData → Prop
  | .list ds => ds.length ≤ 1000 ∧ ∀ x ∈ ds, Good true 4000 3 x
  | _ => True
theorem goodL_ask {d : PyData} (h : GoodL d) : AskL d := by
  cases d with
  | list ds => exact ⟨by have := h.1; omega, fun x hx => good_askE (h.2 x hx)⟩
  | _ => trivial
def spLApa (K : PySem.W.Frag) : Sp := fun vs H Q _ => ∃ (tb : Addr) (x : Str) (v : V) (d : PyData) (kvs : List (Key × V)), vs = [.ref tb, .str x, v] ∧ H tb = some (.dK kvs) ∧ 1 ≤ x.length ∧ x.length ≤ 40 ∧ letters x = true ∧ Da K H v d ∧ GoodL d ∧ ∀ H', Ge H H' → Q (.bl (lawA kvs x d)) H'
abbrev nLApa : List Str := ["_law_table_here", "_law_text", "_law_thing", "_law_some", "_law_one", "_law_k", "_law_other"]
theorem good_occ {kvs : List (Key × V)} {x : Str} (hl : letters x = true) (hx : x.length ≤ 40) : Good true 100000 3 (.list ((occL kvs x x.length).map occD)) := by
  have A : ∀ d ∈ (occL kvs x x.length).map occD, Good true 200 1 d := fun d hd => by
    obtain ⟨o, ho, rfl⟩ := List.mem_map.mp hd
    obtain ⟨s, j, hs, hj, rfl, _, hf⟩ := occL_mem.mp ho
    have gs : Good true 42 0 (.str (cutO x s j)) := Good.str (k := 4) (fun c hc => by
      have z := List.all_eq_true.mp (cutO_letters hl hf) c hc
      rw [Bool.and_eq_true] at z
      have := of_decide_eq_true z.2
      omega) (by rw [cutO_len x s j hf]; omega)
    exact (Good.tup ((Good.int (i := (s : Int)) (by omega)).cons (gs.cons (Good.nil (g := true) (W := 0) (n := 0))))).mono (by decide) (by decide) (by decide)
  exact (Good.lst (GoodA.of A (k := 160) (by rw [List.length_map]; have := occL_len (kvs := kvs) (text := x) x.length; omega))).mono (by decide) (by decide) (by decide)
theorem lawO_pair {kvs : List (Key × V)} {x : Str} {a b : PyData} : lawO kvs x (.tuple [a, b]) = (!isBoolD a && (occL kvs x x.length).any fun o => PyData.eqv (occD o) (.tuple [a, b])) := rfl
theorem lawO_no {kvs : List (Key × V)} {x : Str} {ds : List PyData} (h : ds.length ≠ 2) : lawO kvs x (.tuple ds) = false := by
  match ds, h with
  | [], _ => rfl
  | [_], _ => rfl
  | [_, _], h => exact absurd rfl h
  | _ :: _ :: _ :: _, _ => rfl
end
end Pr
set_option maxRecDepth 100000
set_option maxHeartbeats 2000000
/-! the pieces that the law looks at, and the first event -/
namespace Pr
open PySem PySem.Spec PyProof.Rows L2 GxR Gx Rp Dl Pd Tx Zq Zs
def sizes4 : List Nat := [4, 3, 2, 1]
def some1 (rest : List Nat) : List (List Nat) := (sizes4.filter fun n => decide (n ≤ rest.length)).map fun n => rest.take n
def some2 (C : Str → Option Str) (rest : List Nat) : List (List Nat) := (some1 rest).filter fun x => (C (mkS x)).isSome
theorem some_first (C : Str → Option Str) (rest : List Nat) (h : rest ≠ []) : (some2 C rest = [] ∧ firstEv C rest = .text (rest.headD 0)) ∨ ∃ x r n, some2 C rest = x :: r ∧ C (mkS x) = some n ∧ firstEv C rest = .act n x := by
  unfold firstEv
  match rest, h with
  | [a], _ =>
    have e : some2 C [a] = [[a]].filter fun x => (C (mkS x)).isSome := rfl
    rw [e]
    cases e1 : C (mkS [a]) with
    | none =>
      left
      have t : ∀ m k, 1 ≤ m → tryAt C [a] m k = k := fun m k hm => try_none (by rw [List.take_of_length_le (by simpa using hm)]; exact e1)
      rw [t 4 _ (by omega), t 3 _ (by omega), t 2 _ (by omega), t 1 _ (by omega)]
      simp [e1]
    | some n =>
      right
      exact ⟨[a], [], n, by simp [e1], e1, try_some e1⟩
  | [a, b], _ =>
    have e : some2 C [a, b] = [[a, b], [a]].filter fun x => (C (mkS x)).isSome := rfl
    rw [e]
    cases e2 : C (mkS [a, b]) with
    | some n =>
      right
      exact ⟨[a, b], _, n, by rw [List.filter_cons, e2]; rfl, e2, try_some e2⟩
    | none =>
      have t : ∀ m k, 2 ≤ m → tryAt C [a, b] m k = k := fun m k hm => try_none (by rw [List.take_of_length_le (by simpa using hm)]; exact e2)
      rw [t 4 _ (by omega), t 3 _ (by omega), t 2 _ (by omega)]
      cases e1 : C (mkS [a]) with
      | none =>
        left
        rw [try_none (m := 1) e1]
        simp [e1, e2]
      | some n =>
        right
        exact ⟨[a], [], n, by simp [e1, e2], e1, try_some e1⟩
  | [a, b, c], _ =>
    have e : some2 C [a, b, c] = [[a, b, c], [a, b], [a]].filter fun x => (C (mkS x)).isSome := rfl
    rw [e]
    cases e3 : C (mkS [a, b, c]) with
    | some n =>
      right
      exact ⟨[a, b, c], _, n, by rw [List.filter_cons, e3]; rfl, e3, try_some e3⟩
    | none =>
      have t : ∀ m k, 3 ≤ m → tryAt C [a, b, c] m k = k := fun m k hm => try_none (by rw [List.take_of_length_le (by simpa using hm)]; exact e3)
      rw [t 4 _ (by omega), t 3 _ (by omega)]
      cases e2 : C (mkS [a, b]) with
      | some n =>
        right
        exact ⟨[a, b], _, n, by rw [List.filter_cons, e3, List.filter_cons, e2]; rfl, e2, try_some (m := 2) e2⟩
      | none =>
        rw [try_none (m := 2) e2]
        cases e1 : C (mkS [a]) with
        | none =>
          left
          rw [try_none (m := 1) e1]
          simp [e1, e2, e3]
        | some n =>
          right
          exact ⟨[a], [], n, by simp [e1, e2, e3], e1, try_some (m := 1) e1⟩
  | a :: b :: c :: d :: r, _ =>
    have l4 : 4 ≤ (a :: b :: c :: d :: r).length := by simp only [List.length_cons]; omega
    have hs : some1 (a :: b :: c :: d :: r) = [[a, b, c, d], [a, b, c], [a, b], [a]] := by
      unfold some1 sizes4
      simp only [List.filter_cons, decide_eq_true l4, decide_eq_true (show 3 ≤ (a :: b :: c :: d :: r).length by omega), decide_eq_true (show 2 ≤ (a :: b :: c :: d :: r).length by omega), decide_eq_true (show 1 ≤ (a :: b :: c :: d :: r).length by omega), if_true, List.filter_nil]
      rfl
    have e : some2 C (a :: b :: c :: d :: r) = [[a, b, c, d], [a, b, c], [a, b], [a]].filter fun x => (C (mkS x)).isSome := by
      unfold some2
      rw [hs]
    rw [e]
    cases e4 : C (mkS [a, b, c, d]) with
    | some n =>
      right
      exact ⟨[a, b, c, d], _, n, by rw [List.filter_cons, e4]; rfl, e4, try_some (m := 4) e4⟩
    | none =>
      rw [try_none (m := 4) e4]
      cases e3 : C (mkS [a, b, c]) with
      | some n =>
        right
        exact ⟨[a, b, c], _, n, by rw [List.filter_cons, e4, List.filter_cons, e3]; rfl, e3, try_some (m := 3) e3⟩
      | none =>
        rw [try_none (m := 3) e3]
        cases e2 : C (mkS [a, b]) with
        | some n =>
          right
          exact ⟨[a, b], _, n, by rw [List.filter_cons, e4, List.filter_cons, e3, List.filter_cons, e2]; rfl, e2, try_some (m := 2) e2⟩
        | none =>
          rw [try_none (m := 2) e2]
          cases e1 : C (mkS [a]) with
          | none =>
            left
            rw [try_none (m := 1) e1]
            simp [e1, e2, e3, e4]
          | some n =>
            right
            exact ⟨[a], [], n, by simp [e1, e2, e3, e4], e1, try_some (m := 1) e1⟩
theorem cut_mid (ks : List Nat) (a n : Nat) (h : a + n ≤ ks.length) : cutS (mkS ks) (some ((a : Nat) : Int)) (some (((a + n : Nat)) : Int)) = mkS ((ks.drop a).take n) := by
  unfold cutS
  rw [HT.sIx_nat, HT.sIx_nat, mkS_len, Nat.min_eq_left (show a ≤ ks.length by omega), Nat.min_eq_left h, Nat.add_sub_cancel_left]
  rfl
theorem mem_some1 {rest x : List Nat} (h : x ∈ some1 rest) : 1 ≤ x.length ∧ x.length ≤ 4 ∧ ∀ c ∈ x, c ∈ rest := by
  obtain ⟨n, hn, rfl⟩ := List.mem_map.mp h
  obtain ⟨h1, h2⟩ := List.mem_filter.mp hn
  have h2 := of_decide_eq_true h2
  have h1 : n = 4 ∨ n = 3 ∨ n = 2 ∨ n = 1 := by simpa [sizes4] using h1
  rw [List.length_take]
  refine ⟨by omega, by omega, fun c hc => List.mem_of_mem_take hc⟩
theorem shaped_pieces {L : List (List Nat)} (h : ∀ x ∈ L, ∀ c ∈ x, isL c) : SeqAt.shaped (.list (L.map fun x => PyData.str (mkS x))) = true := by
  have ok : ∀ x ∈ L, PyData.strOk (mkS x) = true := fun x hx => strOk_of (fun c hc => by
    have := (h x hx c (by simpa [mkS] using hc)).2
    omega)
  have h2 : PyData.canLayAll0 (L.map fun x => PyData.str (mkS x)) = true := by
    clear h
    induction L with
    | nil => rfl
    | cons x r ih =>
      simp only [List.map_cons, PyData.canLayAll0, PyData.canLay0, Bool.and_eq_true]
      exact ⟨ok x List.mem_cons_self, ih fun y hy => ok y (List.mem_cons_of_mem _ hy)⟩
  have h3 : PyData.depthAll (L.map fun x => PyData.str (mkS x)) ≤ 1 := by
    clear h ok h2
    induction L with
    | nil => exact Nat.zero_le _
    | cons x r ih =>
      simp only [List.map_cons, PyData.depthAll, PyData.depth]
      omega
  unfold SeqAt.shaped
  simp only [PyData.canLay0, PyData.depth, h2, Bool.true_and]
  exact decide_eq_true (by omega)
end Pr
set_option maxRecDepth 100000
set_option maxHeartbeats 4000000
/-! texts typed: mathematics -/
namespace Pr
open PySem PySem.Spec PyProof.Rows L2 GxR Gx Rp Dl Pd Tx Zq Zs Zt Zd

def sbS (cs : List Nat) (s e : Nat) : Str := mkS ((cs.drop s).take (e - s))
/-- where what ends at l may begin -/
def hits (T : Str → Bool) (cs : List Nat) (b l : Nat) : List Nat := ((List.range (l - max b (l - 3))).map (max b (l - 3) + ·)).filter fun s => T (sbS cs s (l + 1))
def pz (T : Str → Bool) (cs : List Nat) : Nat → List (Nat × Nat) × Nat
  | 0 => ([], 0)
  | l + 1 => match hits T cs (pz T cs l).2 l with
    | [] => pz T cs l
    | s :: _ => ((pz T cs l).1 ++ [(s, l + 1)], l)
def occZ (cs : List Nat) (o : Nat × Nat) : Int × Str := ((o.1 : Int), sbS cs o.1 o.2)
section
variable {T : Str → Bool} {cs : List Nat}
theorem pz_none {l : Nat} (h : hits T cs (pz T cs l).2 l = []) : pz T cs (l + 1) = pz T cs l := by
  show (match hits T cs (pz T cs l).2 l with | [] => pz T cs l | s :: _ => ((pz T cs l).1 ++ [(s, l + 1)], l)) = _
  rw [h]
theorem pz_some {l s : Nat} {r : List Nat} (h : hits T cs (pz T cs l).2 l = s :: r) : pz T cs (l + 1) = ((pz T cs l).1 ++ [(s, l + 1)], l) := by
  show (match hits T cs (pz T cs l).2 l with | [] => pz T cs l | s :: _ => ((pz T cs l).1 ++ [(s, l + 1)], l)) = _
  rw [h]
theorem hits_mem {b l s : Nat} : s ∈ hits T cs b l ↔ (b ≤ s ∧ l ≤ s + 3 ∧ s < l) ∧ T (sbS cs s (l + 1)) = true := by
  unfold hits
  rw [List.mem_filter, List.mem_map]
  constructor
  · rintro ⟨⟨i, hi, rfl⟩, h⟩
    have := List.mem_range.mp hi
    exact ⟨by omega, h⟩
  · rintro ⟨h1, h2⟩
    refine ⟨⟨s - max b (l - 3), List.mem_range.mpr (by omega), by omega⟩, h2⟩
theorem pz_cases (l : Nat) : (hits T cs (pz T cs l).2 l = [] ∧ pz T cs (l + 1) = pz T cs l) ∨ ∃ s, ((pz T cs l).2 ≤ s ∧ l ≤ s + 3 ∧ s < l) ∧ T (sbS cs s (l + 1)) = true ∧ pz T cs (l + 1) = ((pz T cs l).1 ++ [(s, l + 1)], l) := by
  cases h : hits T cs (pz T cs l).2 l with
  | nil => exact Or.inl ⟨rfl, pz_none h⟩
  | cons s r =>
    have z := hits_mem.mp (show s ∈ hits T cs (pz T cs l).2 l by rw [h]; exact List.mem_cons_self)
    exact Or.inr ⟨s, z.1, z.2, pz_some h⟩
theorem pz_lt : ∀ l, (pz T cs l).2 < l ∨ l = 0 ∧ (pz T cs l).2 = 0
  | 0 => Or.inr ⟨rfl, rfl⟩
  | l + 1 => by
    rcases pz_cases (T := T) (cs := cs) l with ⟨_, e⟩ | ⟨s, _, _, e⟩
    · rw [e]
      have := pz_lt l
      omega
    · rw [e]
      left
      show l < l + 1
      omega
theorem pz_le (l : Nat) : (pz T cs l).2 ≤ l := by
  have := pz_lt (T := T) (cs := cs) l
  omega
theorem pz_len : ∀ l, (pz T cs l).1.length ≤ l
  | 0 => Nat.le_refl _
  | l + 1 => by
    rcases pz_cases (T := T) (cs := cs) l with ⟨_, e⟩ | ⟨s, _, _, e⟩
    · rw [e]
      have := pz_len l
      omega
    · rw [e]
      have := pz_len l
      simp only [List.length_append, List.length_cons, List.length_nil]
      omega
theorem pz_mono {k : Nat} : ∀ {n : Nat}, k ≤ n → (pz T cs k).1.length ≤ (pz T cs n).1.length
  | 0, h => by rw [Nat.le_zero.mp h]; exact Nat.le_refl _
  | n + 1, h => by
    rcases Nat.lt_or_ge n k with h' | h'
    · have : k = n + 1 := by omega
      rw [this]
      exact Nat.le_refl _
    · refine Nat.le_trans (pz_mono h') ?_
      rcases pz_cases (T := T) (cs := cs) n with ⟨_, e⟩ | ⟨s, _, _, e⟩
      · rw [e]; exact Nat.le_refl _
      · rw [e, List.length_append]; omega
/-- no occurrence lies behind the last cut -/
theorem pz_no (h1 : ∀ s, s < cs.length → T (sbS cs s (s + 1)) = false) : ∀ k, k ≤ cs.length → ∀ s e, (pz T cs k).2 ≤ s → s < e → e ≤ k → e ≤ s + 4 → T (sbS cs s e) = false
  | 0, _, s, e, _, h2, h3, _ => by omega
  | k + 1, hk, s, e, hb, h2, h3, h4 => by
    rcases pz_cases (T := T) (cs := cs) k with ⟨hn, eq⟩ | ⟨s', _, _, eq⟩
    · rw [eq] at hb
      rcases Nat.lt_or_ge e (k + 1) with he | he
      · exact pz_no h1 k (by omega) s e hb h2 (by omega) h4
      · have ek : e = k + 1 := by omega
        subst ek
        rcases Nat.lt_or_ge s k with hs | hs
        · cases hT : T (sbS cs s (k + 1)) with
          | false => rfl
          | true =>
            have z := hits_mem.mpr (⟨⟨hb, by omega, hs⟩, hT⟩ : ((pz T cs k).2 ≤ s ∧ k ≤ s + 3 ∧ s < k) ∧ T (sbS cs s (k + 1)) = true)
            rw [hn] at z
            cases z
        · have : s = k := by omega
          subst this
          exact h1 s (by omega)
    · rw [eq] at hb
      have hb : k ≤ s := hb
      have : s = k ∧ e = k + 1 := by omega
      rw [this.1, this.2]
      exact h1 k (by omega)
/-- one behind another -/
def Ch : Nat → List (Nat × Nat) → Prop
  | _, [] => True
  | e, o :: r => e ≤ o.1 ∧ o.1 + 2 ≤ o.2 ∧ Ch (o.2 - 1) r
def lastC : Nat → List (Nat × Nat) → Nat
  | e, [] => e
  | _, o :: r => lastC (o.2 - 1) r
theorem ch_snoc : ∀ {os : List (Nat × Nat)} {e0 s e : Nat}, Ch e0 os → lastC e0 os ≤ s → s + 2 ≤ e → Ch e0 (os ++ [(s, e)]) ∧ lastC e0 (os ++ [(s, e)]) = e - 1
  | [], _, _, _, _, h1, h2 => ⟨⟨h1, h2, trivial⟩, rfl⟩
  | o :: r, e0, s, e, h, h1, h2 => by
    obtain ⟨a, b⟩ := ch_snoc (os := r) h.2.2 h1 h2
    exact ⟨⟨h.1, h.2.1, a⟩, b⟩
theorem pz_ch : ∀ l, Ch 0 (pz T cs l).1 ∧ lastC 0 (pz T cs l).1 = (pz T cs l).2
  | 0 => ⟨trivial, rfl⟩
  | l + 1 => by
    obtain ⟨a, b⟩ := pz_ch l
    rcases pz_cases (T := T) (cs := cs) l with ⟨_, e⟩ | ⟨s, hs, _, e⟩
    · rw [e]; exact ⟨a, b⟩
    · rw [e]
      obtain ⟨c, d⟩ := ch_snoc (s := s) (e := l + 1) a (by omega) (by omega)
      exact ⟨c, by rw [d]; rfl⟩
theorem pz_all : ∀ l, ∀ o ∈ (pz T cs l).1, o.1 + 2 ≤ o.2 ∧ o.2 ≤ o.1 + 4 ∧ o.2 ≤ l ∧ T (sbS cs o.1 o.2) = true
  | 0, o, h => by cases h
  | l + 1, o, h => by
    rcases pz_cases (T := T) (cs := cs) l with ⟨_, e⟩ | ⟨s, hs, ht, e⟩
    · rw [e] at h
      have := pz_all l o h
      exact ⟨this.1, this.2.1, by omega, this.2.2.2⟩
    · rw [e] at h
      rcases List.mem_append.mp h with h | h
      · have := pz_all l o h
        exact ⟨this.1, this.2.1, by omega, this.2.2.2⟩
      · rw [List.mem_singleton.mp h]
        exact ⟨by show s + 2 ≤ l + 1; omega, by show l + 1 ≤ s + 4; omega, Nat.le_refl _, ht⟩
theorem sbS_len {s e : Nat} (h : e ≤ cs.length) : (sbS cs s e).length = e - s := by
  unfold sbS
  rw [mkS_len, List.length_take, List.length_drop]
  omega
theorem dlt_of {p q : Int × Str} (h : p.1 < q.1) : PySem.W.dataLt (occD p) (occD q) = true := by
  show PySem.W.dataLt (.tuple [.int p.1, .str p.2]) (.tuple [.int q.1, .str q.2]) = true
  rw [PySem.W.dataLt_pair rfl rfl]
  split
  · rename_i he
    have : (p.1 == q.1) = true := by simpa [PyData.eqv] using he
    have := eq_of_beq this
    omega
  · rw [PySem.W.dataLt_int]
    exact decide_eq_true h
theorem ch_asc : ∀ {os : List (Nat × Nat)} {e0 : Nat}, Ch e0 os → ascO (os.map (occZ cs)) = true
  | [], _, _ => rfl
  | [_], _, _ => rfl
  | o :: o' :: r, e0, h => by
    show (PySem.W.dataLt (occD (occZ cs o)) (occD (occZ cs o')) && ascO ((o' :: r).map (occZ cs))) = true
    rw [ch_asc (os := o' :: r) h.2.2, Bool.and_true]
    refine dlt_of ?_
    have h1 := h.2.1
    have h2 := h.2.2.1
    show (o.1 : Int) < (o'.1 : Int)
    omega
theorem ch_apart : ∀ {os : List (Nat × Nat)} {e0 : Nat}, Ch e0 os → (∀ o ∈ os, o.2 ≤ cs.length) → apartI (e0 : Int) (os.map (occZ cs)) = true
  | [], _, _, _ => rfl
  | o :: r, e0, h, hl => by
    have hn := hl o List.mem_cons_self
    have h1 := h.1
    have h2 := h.2.1
    have e := sbS_len (cs := cs) (s := o.1) hn
    show (if 1 < (sbS cs o.1 o.2).length then (if (o.1 : Int) < (e0 : Int) then false else apartI ((o.1 : Int) + ((sbS cs o.1 o.2).length : Int) - 1) (r.map (occZ cs))) else apartI e0 (r.map (occZ cs))) = true
    rw [if_pos (by omega), if_neg (by omega)]
    have e2 : (o.1 : Int) + ((sbS cs o.1 o.2).length : Int) - 1 = ((o.2 - 1 : Nat) : Int) := by omega
    rw [e2]
    exact ch_apart h.2.2 fun o ho => hl o (List.mem_cons_of_mem _ ho)
/-! ### the row -/
def pairsZ : Nat → List Nat → Nat → List (Nat × Nat)
  | lo, [], n => [(lo, n)]
  | lo, c :: r, n => (lo, c) :: pairsZ c r n
theorem pairs_snoc : ∀ (cz : List Nat) (lo k m : Nat), pairsZ lo (cz ++ [k]) m = pairsZ lo cz k ++ [(k, m)]
  | [], _, _, _ => rfl
  | c :: r, lo, k, m => by
    show (lo, c) :: pairsZ c (r ++ [k]) m = (lo, c) :: (pairsZ c r k ++ [(k, m)])
    rw [pairs_snoc r c k m]
theorem pairs_len : ∀ (cz : List Nat) (lo n : Nat), (pairsZ lo cz n).length = cz.length + 1
  | [], _, _ => rfl
  | c :: r, lo, n => by
    show (pairsZ c r n).length + 1 = _
    rw [pairs_len r c n]; rfl
theorem pairs_zip : ∀ (cz : List Nat) (lo n : Nat), pairsZ lo cz n = (lo :: cz).zip (cz ++ [n])
  | [], _, _ => rfl
  | c :: r, lo, n => by
    show (lo, c) :: pairsZ c r n = (lo, c) :: (c :: r).zip (r ++ [n])
    rw [pairs_zip r c n]
def rowOf (cs : List Nat) (u : Int) : Nat → List (Nat × Nat) → List (Nat × Int)
  | _, [] => []
  | i, p :: r => ((cs.drop p.1).take (p.2 - p.1)).map (fun c => (c, u * (i : Int))) ++ rowOf cs u (i + 1) r
theorem rowOf_append {u : Int} : ∀ (a b : List (Nat × Nat)) (i : Nat), rowOf cs u i (a ++ b) = rowOf cs u i a ++ rowOf cs u (i + a.length) b
  | [], b, i => rfl
  | p :: a, b, i => by
    show _ ++ rowOf cs u (i + 1) (a ++ b) = (_ ++ rowOf cs u (i + 1) a) ++ _
    rw [rowOf_append a b (i + 1), List.append_assoc]
    have : i + 1 + a.length = i + (p :: a).length := by simp; omega
    rw [this]
theorem rowOf_more {u : Int} : ∀ (cz : List Nat) (lo i k : Nat), (lo ≤ k) → (∀ c ∈ cz, c ≤ k) → (h : k < cs.length) → rowOf cs u i (pairsZ lo cz (k + 1)) = rowOf cs u i (pairsZ lo cz k) ++ [(cs[k], u * ((i + cz.length : Nat) : Int))]
  | [], lo, i, k, h1, _, h => by
    show ((cs.drop lo).take (k + 1 - lo)).map _ ++ [] = (((cs.drop lo).take (k - lo)).map _ ++ []) ++ _
    have e : k + 1 - lo = (k - lo) + 1 := by omega
    have g : (cs.drop lo)[k - lo]? = some cs[k] := by
      rw [List.getElem?_drop]
      have : lo + (k - lo) = k := by omega
      rw [this]
      exact List.getElem?_eq_getElem h
    rw [e, List.take_succ, g, List.append_nil, List.append_nil, List.map_append]
    rfl
  | c :: r, lo, i, k, h1, h2, h => by
    show _ ++ rowOf cs u (i + 1) (pairsZ c r (k + 1)) = (_ ++ rowOf cs u (i + 1) (pairsZ c r k)) ++ _
    rw [rowOf_more r c (i + 1) k (h2 c List.mem_cons_self) (fun x hx => h2 x (List.mem_cons_of_mem _ hx)) h, List.append_assoc]
    have : i + 1 + r.length = i + (c :: r).length := by simp; omega
    rw [this]
def cutsZ (os : List (Nat × Nat)) : List Nat := os.map fun o => o.2 - 1
def rowZ (T : Str → Bool) (cs : List Nat) (u : Int) (n : Nat) : List (Nat × Int) := (List.range n).map fun k => (cs.getD k 0, u * ((pz T cs (k + 1)).1.length : Int))
theorem rowZ_succ {u : Int} {n : Nat} : rowZ T cs u (n + 1) = rowZ T cs u n ++ [(cs.getD n 0, u * ((pz T cs (n + 1)).1.length : Int))] := by
  unfold rowZ
  rw [List.range_succ, List.map_append]
  rfl
theorem row_is {u : Int} : ∀ k, k ≤ cs.length → rowOf cs u 0 (pairsZ 0 (cutsZ (pz T cs k).1) k) = rowZ T cs u k
  | 0, _ => by
    show ((cs.drop 0).take (0 - 0)).map _ ++ [] = []
    simp
  | k + 1, hk => by
    have ih := row_is (u := u) k (by omega)
    have g : cs.getD k 0 = cs[k] := by
      rw [List.getD_eq_getElem?_getD, List.getElem?_eq_getElem (by omega)]
      rfl
    have cl : ∀ c ∈ cutsZ (pz T cs k).1, c ≤ k := fun c hc => by
      obtain ⟨o, ho, rfl⟩ := List.mem_map.mp hc
      have := (pz_all k o ho).2.2.1
      show o.2 - 1 ≤ k
      omega
    rw [rowZ_succ, ← ih, g]
    rcases pz_cases (T := T) (cs := cs) k with ⟨_, e⟩ | ⟨s, hs, _, e⟩
    · rw [e, rowOf_more _ 0 0 k (Nat.zero_le _) cl (by omega)]
      unfold cutsZ
      rw [List.length_map, Nat.zero_add]
    · rw [e]
      have e2 : cutsZ ((pz T cs k).1 ++ [(s, k + 1)]) = cutsZ (pz T cs k).1 ++ [k] := by
        unfold cutsZ
        rw [List.map_append]
        rfl
      show rowOf cs u 0 (pairsZ 0 (cutsZ ((pz T cs k).1 ++ [(s, k + 1)])) (k + 1)) = _ ++ [(cs[k], u * (((pz T cs k).1 ++ [(s, k + 1)]).length : Int))]
      rw [e2, pairs_snoc, rowOf_append, pairs_len, Nat.zero_add]
      congr 1
      show ((cs.drop k).take (k + 1 - k)).map _ ++ [] = _
      have e3 : k + 1 - k = 1 := by omega
      have e4 : (cs.drop k).take 1 = [cs[k]] := by
        rw [List.drop_eq_getElem_cons (by omega)]
        rfl
      rw [e3, e4, List.append_nil]
      simp [cutsZ]
end
end Pr
set_option maxRecDepth 100000
set_option maxHeartbeats 2000000
/-! for i, x in enumerate(z), z a text -/
namespace Zq
open PySem PySem.Spec PyProof.Rows L2 RZ
section
variable {prog : Program} {w : World} {A : Around} {E : Value → Shared → Prop} {s : Shared}
theorem enumS_end {e it : Addr} {i : Nat} {x : Str} {t : Tok} {old : Value} {Q : Option Value → Shared → Prop} (hh : A.in1.handled = none) (he : IsEnum s.heap e it ((i : Nat) : Int) old) (hit : s.heap.IsStrIter it (strIterType x) x t i) (hx : x.cps.size = i)
    (hQ : ∀ h', Heap.ExtBut it s.heap h' → Q none { s with heap := h' }) : wpAny (model prog w) A (pyNext (.ref e)) Q E s := by
  have ty : s.TypeIs (.ref e) "enumerate" := ⟨_, he, rfl⟩
  subst hx
  unfold pyNext
  refine wpAny_bind (wpAny_attempt (wpAny_callSpecial?_slot (name := Str.ofString "__next__") ty F.slot_enumerate_next (wpAny_call_entry F.slot_enumerate_next ty F.entry_enumerate_next (show wpAny _ _ (field (.ref e) 2 >>= _) _ _ _ from wpAny_bind (wpAny_field he rfl (x := .ref it) rfl (wpAny_bind ((Draws.text hh it x t).done _ _ _ hit fun h' x' kp he' => ?_)))) (F.args_enumerate_next_1 _))))
  obtain ⟨o, ho, hc⟩ := he'
  exact wpAny_bind (wpAny_isInstance (T := "StopIteration") (b := true) ⟨o, ho, hc⟩ isSubtype_stop (wpAny_pure (hQ _ kp)))
end
/-- a text, each sign in a new pair with its place -/
def IeS (z : Str) : It :=
  ⟨fun i H => i < z.cps.size, fun i H v H' => ∃ T c, v = .ref T ∧ H T = none ∧ z.cps[i]? = some c ∧ H' = upd H T (.tup [.int (i : Nat), .str ⟨#[c]⟩]), fun i H => z.cps.size = i⟩
theorem turn_enumS {P : Program} {w : World} {K : PySem.W.Frag} {elts : List Expr} {kk : Nat} {tpos : Pos} (z : Str) (t : Tok) (e it : Addr) :
    Turn P w K (.Tuple elts kk tpos) (IeS z) [e, it] e (fun i h => (∃ old, IsEnum h e it ((i : Nat) : Int) old) ∧ h.IsStrIter it (strIterType z) z t i ∧ e ≠ it) := by
  constructor
  · simp
  · rintro i h ⟨⟨old, he⟩, ⟨o, ho, hc, hd⟩, _⟩ b hb
    simp only [List.mem_cons, List.not_mem_nil, or_false] at hb
    rcases hb with z | z <;> rw [z]
    · exact ⟨_, he, fun v q => by cases q⟩
    · exact ⟨o, ho, fun v q => by rw [hd] at q; cases q⟩
  · rintro i h h' ⟨⟨old, he⟩, hi, hne⟩ k
    obtain ⟨o, ho, r⟩ := hi
    exact ⟨⟨old, k e (by simp) _ he⟩, ⟨o, k it (by simp) o ho, r⟩, hne⟩
  · intro X hP hw hK hc i pins s σ H E I hf st hg
    subst hP hw hK
    obtain ⟨⟨old, he⟩, hit, hne⟩ := st
    have el : e < s.heap.objs.size := Heap.lt_size he
    have il : it < s.heap.objs.size := let ⟨_, q, _⟩ := hit; Heap.lt_size q
    refine wpAny_pyNext_enum_itemC (Draws.text (show X.A.in1.handled = none from I.ok.hd hc) it z t) he hit hg hne (by simp [hne]) fun y h' tk hy ho st' hT hsz hk => ?_
    obtain ⟨c, u, hcx, rfl⟩ := hy
    refine ⟨_, rfl, wpAny_letOwnedTupleGo_enum (s := { s with heap := h', toks := tk + 1 }) ho fun h'' he' sb => ?_⟩
    have hT2 : h''.get? s.heap.objs.size = some { cls := .type "tuple", data := .seq #[.int i tk, .str ⟨#[c]⟩ u] } := (sb.2 _ (Nat.ne_of_gt el)).trans hT
    have new : ObjOk X.prog X.w (upd H s.heap.objs.size (.tup [.int (i : Nat), .str ⟨#[c]⟩])) h'' s.heap.objs.size (.tup [.int (i : Nat), .str ⟨#[c]⟩]) := ⟨(by decide : 2 ≤ sizeLine), [.int i tk, .str ⟨#[c]⟩ u], .cons ⟨_, rfl⟩ (.cons ⟨_, rfl⟩ .nil), ⟨_, hT2, rfl, _, rfl⟩⟩
    have out : ∀ b ob, b ∉ [e, it] → s.heap.get? b = some ob → h''.get? b = some ob := fun b ob hb q => by
      simp only [List.mem_cons, List.not_mem_nil, or_false, not_or] at hb
      exact (sb.2 b hb.1).trans (hk b ob hb.1 hb.2 q)
    have I1 : Inv X pins σ (upd H s.heap.objs.size (.tup [.int (i : Nat), .str ⟨#[c]⟩])) { s with heap := h'', toks := tk + 1 } := I.turnedNew (ch := [e, it]) out hf (Nat.le_refl _) new
    obtain ⟨o2, ho2, r2⟩ := st'
    refine ⟨.ref s.heap.objs.size, _, I1, rfl, ⟨_, c, rfl, I.hok.fresh (Nat.le_refl _), hcx, rfl⟩, ⟨⟨.str ⟨#[c]⟩ u, ?_⟩, ⟨o2, (sb.2 it (Ne.symm hne)).trans ho2, r2⟩, hne⟩, fun b hb => ?_⟩
    · rw [show ((i + 1 : Nat) : Int) = (i : Int) + 1 by omega]
      exact he'
    · have lt : b < s.heap.objs.size := by
        simp only [List.mem_cons, List.not_mem_nil, or_false] at hb
        rcases hb with z | z <;> rw [z]
        · exact el
        · exact il
      rw [upd_ne (Nat.ne_of_lt lt)]
      exact (hf b hb).1
  · intro X hP hw hK hc i pins s σ H E I hf st hg
    subst hP hw hK
    obtain ⟨⟨old, he⟩, hit, hne⟩ := st
    obtain ⟨f0, f1, f2, f3, f4, f5⟩ := hf it (by simp)
    exact enumS_end (show X.A.in1.handled = none from I.ok.hd hc) he hit hg fun h' eb => ⟨rfl, I.turned (t' := s.toks) (fun b o hb q => eb b o hb q) f0 f1 f3 f4 f5⟩
  · rintro A i s Q E ⟨⟨_, he⟩, _⟩ h
    exact wpAny_pyIter_enum he h
def iEnS (ta : TA) : TI := fun σ H R => ta σ H fun vs H1 => ∃ z, vs = [.str z] ∧ R (IeS z) H1
theorem pi_enumS {X : Cx} {e : Expr} {ta : TA} {p pos tpos : Pos} {elts : List Expr} {kk : Nat} (hg : Gl X "enumerate") (hm : X.mg "enumerate" = none) (ha : PA X [e] ta) (hs : starEach [e] X.env = [(false, eval e X.env)] := by rfl) : PI X (.Tuple elts kk tpos) (.Call (.Name "enumerate" p) [e] [] pos) (iEnS ta) := by
  refine ⟨fun pins s σ H R I h => ?_⟩
  refine Call_ (ld_blt I hg hm boot_enumerate (callWith_type1 (thn (ha.run pos pins s σ H _ I h) fun us s1 ⟨vs, H1, I1, r1, q1⟩ => ?_) hs rfl))
  obtain ⟨z, rfl, q⟩ := q1
  cases r1 with
  | cons r rr =>
    cases rr
    obtain ⟨t, rfl⟩ := r
    refine call_enumerate_str fun h' he hit hsz hk => wpAny_pyIter_enum he ?_
    have I2 : Inv X pins σ H1 { s1 with heap := h' } := I1.kept (t' := s1.toks) hk
    refine ⟨s1.heap.objs.size + 1, [s1.heap.objs.size + 1, s1.heap.objs.size], _, _, H1, rfl, I2, turn_enumS z t (s1.heap.objs.size + 1) s1.heap.objs.size, ⟨⟨.none, he⟩, hit, Nat.succ_ne_self _⟩, fun b hb => ?_, q⟩
    have le : s1.heap.objs.size ≤ b := by
      simp only [List.mem_cons, List.not_mem_nil, or_false] at hb
      rcases hb with z | z <;> rw [z]
      · exact Nat.le_add_right _ _
      · exact Nat.le_refl _
    exact I1.fpOk le (I1.hok.fresh le)
theorem walk_enumS {z : Str} : Walk (IeS z) z.cps.size (fun _ => True) (fun i H v H' => ∃ T c, v = .ref T ∧ H T = none ∧ z.cps[i]? = some c ∧ H' = upd H T (.tup [.int (i : Nat), .str ⟨#[c]⟩])) :=
  ⟨fun _ _ hi _ => hi, fun _ _ => rfl, fun _ _ _ _ _ _ y => y⟩
end Zq
set_option maxRecDepth 100000
set_option maxHeartbeats 4000000
/-! the program: row_of, pausing -/
namespace Pr
open PySem PySem.Spec PyProof.Rows L2 GxR Gx Rp Dl Pd Tx Zq Zs Zt Zd

/-- the entries of parts, from part i on -/
def rowL (u : Int) : Nat → List (List Nat) → List RE
  | _, [] => []
  | i, p :: r => p.map (fun c => RE.key c (u * (i : Int))) ++ rowL u (i + 1) r
theorem rowL_len {u : Int} : ∀ (ps : List (List Nat)) (i : Nat), (rowL u i ps).length = ps.flatten.length
  | [], _ => rfl
  | p :: r, i => by
    show (p.map _ ++ rowL u (i + 1) r).length = (p ++ r.flatten).length
    rw [List.length_append, List.length_append, List.length_map, rowL_len r (i + 1)]
theorem rowL_append {u : Int} : ∀ (a b : List (List Nat)) (i : Nat), rowL u i (a ++ b) = rowL u i a ++ rowL u (i + a.length) b
  | [], b, i => rfl
  | p :: a, b, i => by
    show _ ++ rowL u (i + 1) (a ++ b) = (_ ++ rowL u (i + 1) a) ++ _
    rw [rowL_append a b (i + 1), List.append_assoc]
    have : i + 1 + a.length = i + (p :: a).length := by simp; omega
    rw [this]
def PartAt (H : Hp) (v : V) (ks : List Nat) : Prop := ∃ a d, v = .ref a ∧ H a = some (.tup [.str (mkS ks), .ref d]) ∧ H d = some (.dK [])
theorem PartAt.ge {H H' : Hp} {v : V} {ks : List Nat} (h : PartAt H v ks) (g : Ge H H') : PartAt H' v ks := by
  obtain ⟨a, d, rfl, h1, h2⟩ := h
  exact ⟨a, d, rfl, g.1 a _ h1 (fun ps z => by cases z), g.dk h2⟩
section
variable {P : Program} {w : World} {K : PySem.W.Frag} {mg : Str → Option Value} {base : Heap} {T : List Addr}
def spRof (K : PySem.W.Frag) : Sp := fun vs H Q _ => ∃ (wt : Int) (L : Addr) (ps : List V) (ds : List (List Nat)), vs = [.int wt, .ref L] ∧ H L = some (.lst ps) ∧ Paired (PartAt H) ps ds ∧ ds.flatten.length ≤ 100 ∧ ∀ H' R us, Ge H H' → Nw H R → H' R = some (.lst us) → Paired (EntAt H') us (rowL (wt + 1) 0 ds) → Q (.ref R) H'
abbrev nRof : List Str := ["wait", "parts", "row", "time", "keys", "settings", "letter", "flag"]
theorem scRof : FnScope nRof ["wait", "parts"] (defScope s_row_of) := ⟨rfl, rfl, rfl, by decide +kernel, rfl, by decide +kernel, by decide +kernel⟩
theorem ok_row_of {f c : Addr} {fd : FuncData} (F : FunC K "row_of" s_row_of f fd c) (B : Bn mg) : FnOk P w K mg base CX0 1 f fd ["wait", "parts"] (spRof K) := by
  refine F.ok scRof (fun vs H Q E ⟨_, _, _, _, h, _⟩ => by rw [h]; rfl) (fun A outer s0 H vs Q E hr h => ?_)
  have hu := hu_of hr
  obtain ⟨wt, L, ps, ds, rfl, hL, pw, hl, q⟩ := h
  refine ⟨_, pss_cons (ps_asg (pe_lst pa_nil) (pg_name (i := 2) scRof.nd rfl (Or.inl rfl)))
    (pss_cons (ps_asg pe_int (pg_name (i := 3) scRof.nd rfl (Or.inr rfl)))
    (pss_cons (ps_for PassesOwn.never rfl (pi_list (pv 1)) (pg_tup rfl (pgs_cons (pg_name (i := 4) scRof.nd rfl (Or.inl rfl)) (pgs_cons (pg_name (i := 5) scRof.nd rfl (Or.inr rfl)) pgs_nil)))
      (pss_cons (ps_expr (pe_bm PySem.F.plainAttrs_list PySem.F.slot_list_extend PySem.F.type_list_extend mt_extend (pv 2) (pa_cons (pe_lc (own := [("letter", 6)]) (g := gName 6) (tt := tYes) rfl scRof.nd (pi_str (pv 4)) (blkOk_by (N := nRof) (sc := defScope s_row_of) (by decide +kernel)) (fun _ _ _ _ _ => (pg_name (i := 6) scRof.nd rfl (Or.inl rfl))) (fun _ _ _ _ _ => pts_nil) (fun _ _ _ _ _ => (pe_tup (pa_cons pe_str (pa_cons (pv 6) (pa_cons (pv 3) pa_nil)))))) pa_nil)))
      (pss_cons (ps_expr (pe_bm PySem.F.plainAttrs_list PySem.F.slot_list_extend PySem.F.type_list_extend mt_extend (pv 2) (pa_cons (pe_lock (pe_lc (own := [("flag", 7)]) (g := gName 7) (tt := tYes) rfl scRof.nd (pi_keys (pv 5)) (blkOk_by (N := nRof) (sc := defScope s_row_of) (by decide +kernel)) (fun _ _ _ _ _ => (pg_name (i := 7) scRof.nd rfl (Or.inl rfl))) (fun _ _ _ _ _ => pts_nil) (fun _ _ _ _ _ => (pe_tup (pa_cons pe_str (pa_cons (pv 7) (pa_cons (pe_dget hu (pv 5) (pv 7) (fun _ _ => rfl)) (pa_cons (pv 3) pa_nil)))))))) pa_nil)))
      (pss_one (ps_aug (i := 3) scRof.nd rfl (Or.inr rfl) (pe_op op_add (pv 0) pe_int) iop_add)))))
    (pss_one (ps_ret (pv 2))))), ?_⟩
  have small : ∀ n : Nat, n ≤ 10000 → n ≤ sizeLine := fun n hn => Nat.le_trans hn (by decide)
  refine ⟨by decide, fun R hR => ?_⟩
  have gR := Ge.new (o := .lst []) hR
  have nwR := Nw.none hR
  dsimp only [gName]
  refine ⟨_, rfl, L, rfl, ⟨_, SqL.of (gR.1 L _ hL (fun ps z => by cases z))⟩, ?_⟩
  refine for_list (K := K) (xs := ps) (fun i σ H' => i ≤ ds.length ∧ Ge H H' ∧ (∃ us, H' R = some (.lst us) ∧ Paired (EntAt H') us (rowL (wt + 1) 0 (ds.take i))) ∧ ∃ x4 x5, σ = [some (.int wt), some (.ref L), some (.ref R), some (.int ((wt + 1) * (i : Int))), x4, x5, none, none])
    ⟨Nat.zero_le _, gR, ⟨[], upd_same, .nil⟩, _, _, by rw [Int.mul_comm]; simp; rfl⟩ (fun i σ H' _ z => SqL.of (z.2.1.1 L _ hL (fun ps z => by cases z))) ?_ ?_
  · rintro i y σ H1 hy ⟨_, g1, ⟨us, h1, p1⟩, x4, x5, rfl⟩
    obtain ⟨ks, hks, a, d, rfl, ha, hd⟩ := paired_at pw hy
    have hi : i < ds.length := (List.getElem?_eq_some_iff.mp hks).1
    have ha1 := g1.1 a _ ha (fun ps z => by cases z)
    have hd1 := g1.dk hd
    refine ⟨a, _, rfl, Or.inl (Or.inl ha1), rfl, _, _, rfl, _, _, rfl, rfl, ?_⟩
    refine ⟨_, rfl, .inl ⟨rfl, _, SqL.of h1⟩, _, rfl, mkS ks, rfl, fun D hD => ?_⟩
    have nRD : R ≠ D := ne_of_none h1 hD
    have sum : ∀ j, j ≤ i + 1 → (rowL (wt + 1) 0 (ds.take j)).length ≤ 100 := fun j _ => by
      rw [rowL_len]
      have e : ds.flatten = (ds.take j).flatten ++ (ds.drop j).flatten := by rw [← List.flatten_append, List.take_append_drop]
      rw [e, List.length_append] at hl
      omega
    have et : ds.take (i + 1) = ds.take i ++ [ks] := by rw [List.take_succ, hks]; rfl
    have er : rowL (wt + 1) 0 (ds.take (i + 1)) = rowL (wt + 1) 0 (ds.take i) ++ ks.map fun c => RE.key c ((wt + 1) * (i : Int)) := by
      rw [et, rowL_append]
      show _ ++ (ks.map (fun c => RE.key c ((wt + 1) * ((0 + (ds.take i).length : Nat) : Int))) ++ []) = _
      rw [List.append_nil, Nat.zero_add, List.length_take, Nat.min_eq_left (Nat.le_of_lt hi)]
    have k100 : ks.length ≤ 100 := by
      have z := sum (i + 1) (Nat.le_refl _)
      rw [er, List.length_append, List.length_map] at z
      omega
    refine lc_it (n := (mkS ks).cps.size) walk_str (fun j H' => j ≤ ks.length ∧ Ge H1 H' ∧ ∃ ws, H' D = some (.lst ws) ∧ Paired (EntAt H') ws ((ks.take j).map fun c => RE.key c ((wt + 1) * (i : Int))))
      ⟨Nat.zero_le _, Ge.new hD, [], upd_same, .nil⟩ (fun _ _ _ _ => True.intro) ?_ ?_
    · rintro j x H3 H4 hj ⟨_, g3, ws, hD3, pw3⟩ ⟨rfl, c, hc, rfl⟩
      have hc : ks[j]? = some c := by rw [← List.getElem?_toArray]; exact hc
      have hj' : j < ks.length := (List.getElem?_eq_some_iff.mp hc).1
      have lw := Paired.length pw3
      rw [List.length_map, List.length_take] at lw
      refine ⟨rfl, _, rfl, _, rfl, (by decide : 3 ≤ sizeLine), fun p hp => ?_⟩
      have gp := Ge.new (o := .tup (RE.key c ((wt + 1) * (i : Int))).vs) hp
      have hD4 := gp.1 D _ hD3 (fun ps z => by cases z)
      have gl := GeP.set (p := D) (o := .lst (ws ++ [.ref p])) hD4
      refine ⟨ws, hD4, Nat.lt_of_le_of_lt (show ws.length ≤ 1000 by omega) (by decide), hj', Ge.upd (g3.trans gp) hD, ws ++ [.ref p], upd_same, ?_⟩
      have et : ks.take (j + 1) = ks.take j ++ [c] := by rw [List.take_succ, hc]; rfl
      rw [et, List.map_append]
      exact Paired.imp (fun _ _ z => EntAt.gp z gl hD4) (paired_snoc (F := EntAt _) (a := .ref p) (b := RE.key c ((wt + 1) * (i : Int))) ⟨p, rfl, upd_same⟩ (Paired.imp (fun _ _ z => EntAt.ge z gp) pw3))
    · rintro H3 ⟨_, g3, ws, hD3, pw3⟩
      have ecs : ks.take (mkS ks).cps.size = ks := by rw [show (mkS ks).cps.size = ks.length from mkS_len ks, List.take_length]
      rw [ecs] at pw3
      have lw := Paired.length pw3
      rw [List.length_map] at lw
      have h3 := g3.1 R _ h1 (fun ps z => by cases z)
      have lu := Paired.length p1
      have su := sum i (by omega)
      have p3 := Paired.imp (fun _ _ z => EntAt.ge z g3) p1
      refine ⟨R, D, us, ws, rfl, rfl, h3, hD3, small _ (by omega), ?_⟩
      have gs := GeP.set (p := R) (o := .lst (us ++ ws)) h3
      have g4 : Ge H (upd H3 R (.lst (us ++ ws))) := ge_updW (g1.trans g3) nwR
      have p4 : Paired (EntAt (upd H3 R (.lst (us ++ ws)))) (us ++ ws) (rowL (wt + 1) 0 (ds.take (i + 1))) := by
        rw [er]
        exact Paired.imp (fun _ _ z => EntAt.gp z gs h3) (paired_app pw3 p3)
      have h4 : upd H3 R (.lst (us ++ ws)) R = some (.lst (us ++ ws)) := upd_same
      generalize upd H3 R (.lst (us ++ ws)) = H4 at *
      have hd4 := g4.dk hd
      have l4 := Paired.length p4
      refine ⟨_, rfl, .inl ⟨rfl, _, SqL.of h4⟩, d, _, hd4, trivial, fun od => ?_⟩
      refine ⟨_, rfl, d, od, rfl, Or.inl ⟨[], upd_same, fun D2 hD2 => ?_⟩⟩
      have nd : d ≠ D2 := fun z => by
        rw [← z, upd_same] at hD2
        cases hD2
      have hD4 : H4 D2 = none := by rw [← hD2, upd_ne nd.symm]
      refine lc_it (n := 0) (walk_keys (kvs := [])) (fun j H' => H' = upd (upd H4 d (.frz od (.dK []))) D2 (.lst [])) rfl (fun j H' _ z => ?_) (fun j x H H' hj => absurd hj (Nat.not_lt_zero j)) ?_
      · rw [z, upd_ne nd]
        exact upd_same
      · rintro H' rfl
        refine ⟨by rw [upd_ne nd]; exact upd_same, ?_⟩
        have e : upd (upd (upd H4 d (.frz od (.dK []))) D2 (.lst [])) d (.dK []) = upd H4 D2 (.lst []) := by
          funext b
          by_cases z : b = d
          · rw [z, upd_same, upd_ne nd, hd4]
          · rw [upd_ne z]
            by_cases z2 : b = D2
            · rw [z2, upd_same, upd_same]
            · rw [upd_ne z2, upd_ne z, upd_ne z2]
        rw [e]
        have g5 := Ge.new (o := .lst []) hD4
        have h5 := g5.1 R _ h4 (fun ps z => by cases z)
        refine ⟨R, D2, us ++ ws, [], rfl, rfl, h5, upd_same, small _ (by rw [l4]; have := sum (i + 1) (Nat.le_refl _); show _ + 0 ≤ _; omega), ?_⟩
        rw [List.append_nil]
        have gs2 := GeP.set (p := R) (o := .lst (us ++ ws)) h5
        refine ⟨_, rfl, _, rfl, _, _, rfl, rfl, _, _, rfl, rfl, hi, ge_updW (g4.trans g5) nwR, ⟨us ++ ws, upd_same, Paired.imp (fun _ _ z => EntAt.gp (EntAt.ge z g5) gs2 h5) p4⟩, some (.str (mkS ks)), some (.ref d), ?_⟩
        have e1 : (wt + 1) * (((i + 1 : Nat)) : Int) = (wt + 1) * (i : Int) + (wt + 1) := by
          rw [show (((i + 1 : Nat)) : Int) = (i : Int) + 1 from rfl, Int.mul_add, Int.mul_one]
        rw [e1]
        rfl
  · rintro σ H1 ⟨_, g1, ⟨us, h1, p1⟩, x4, x5, rfl⟩
    have ep : ps.length = ds.length := Paired.length pw
    rw [ep, List.take_length] at p1
    exact ⟨_, rfl, q H1 R us g1 nwR h1 p1⟩
end
end Pr
set_option maxRecDepth 100000
set_option maxHeartbeats 4000000
/-! the program: pausing -/
namespace Pr
open PySem PySem.Spec PyProof.Rows L2 GxR Gx Rp Dl Pd Tx Zq Zs Zt Zd
section
variable {P : Program} {w : World} {K : PySem.W.Frag} {mg : Str → Option Value} {base : Heap} {T : List Addr}
theorem cut_sb {cs : List Nat} {s e : Nat} (h : s ≤ e) (he : e ≤ cs.length) : cutS (mkS cs) (some ((s : Nat) : Int)) (some ((e : Nat) : Int)) = sbS cs s e := by
  have e1 : ((e : Nat) : Int) = ((s + (e - s) : Nat) : Int) := by omega
  rw [e1, cut_mid cs s (e - s) (by omega)]
  have e2 : s + (e - s) - s = e - s := by omega
  rfl
def inTb (kvs : List (Key × V)) (x : Str) : Bool := (valV kvs (Sum.inr x : Key)).isSome
theorem iteTx {c : Bool} {a b : Prop} (h : c = true) (ha : a) : if c = true then a else b := by rw [if_pos h]; exact ha
theorem iteFx {c : Bool} {a b : Prop} (h : c = false) (hb : b) : if c = true then a else b := by rw [if_neg (by rw [h]; exact Bool.false_ne_true)]; exact hb
def spPau (K : PySem.W.Frag) : Sp := fun vs H Q _ => ∃ (tb : Addr) (kvs : List (Key × V)) (cs : List Nat), vs = [.ref tb, .str (mkS cs)] ∧ H tb = some (.dK kvs) ∧ cs.length ≤ 40 ∧ ∀ H' L xs, Ge H H' → Nw H L → H' L = some (.lst xs) → DaAll K H' xs (((pz (inTb kvs) cs cs.length).1.map (occZ cs)).map occD) → Q (.ref L) H'
abbrev nPau : List Str := ["table", "text", "found", "begin", "last", "earliest", "ending", "start"]
theorem scPau : FnScope nPau ["table", "text"] (defScope s_pausing) := ⟨rfl, rfl, rfl, by decide +kernel, rfl, by decide +kernel, by decide +kernel⟩
theorem ok_pausing {f c : Addr} {fd : FuncData} (F : FunC K "pausing" s_pausing f fd c) (B : Bn mg) (hmax : mg "max" = none) {tk : Tok} (hc : mg "MOST_KEYS" = some (.int 4 tk)) : FnOk P w K mg base CX0 1 f fd ["table", "text"] (spPau K) := by
  refine F.ok scPau (fun vs H Q E ⟨_, _, _, h, _⟩ => by rw [h]; rfl) (fun A outer s0 H vs Q E hr h => ?_)
  have hu := hu_of hr
  obtain ⟨tb, kvs, cs, rfl, htb, hl, q⟩ := h
  refine ⟨_, pss_cons (ps_asg (pe_lst pa_nil) (pg_name (i := 2) scPau.nd rfl (Or.inl rfl)))
    (pss_cons (ps_asg pe_int (pg_name (i := 3) scPau.nd rfl (Or.inl rfl)))
    (pss_cons (ps_for PassesOwn.never rfl (pi_range1 rfl B.range (pa_cons (pe_callB call_len_str rfl B.len PySem.boot_len (pa_cons (pv 1) pa_nil)) pa_nil)) (pg_name (i := 4) scPau.nd rfl (Or.inr rfl))
      (pss_cons (ps_asg (pe_callB (call_max2 rfl) rfl hmax (by decide +kernel) (pa_cons (pv 3) (pa_cons (pe_op op_add (pe_op op_sub (pv 4) (pe_glob (v := .int 4) rfl hc ⟨_, rfl⟩)) pe_int) pa_nil))) (pg_name (i := 5) scPau.nd rfl (Or.inl rfl)))
      (pss_cons (ps_setLc (i := 6) (own := [("start", 7)]) (g := gName 7) rfl scPau.nd rfl rfl (sw_true rfl rfl rfl (by decide +kernel)) (pi_range2 rfl B.range (pa_cons (pv 5) (pa_cons (pv 4) pa_nil))) (blkOk_by (N := nPau) (sc := defScope s_pausing) (by decide +kernel)) (fun _ _ _ _ _ => (pg_name (i := 7) scPau.nd rfl (Or.inl rfl))) (fun _ _ _ _ _ => pts_one (pt_cmp (pc_din hu (pe_slice sl_str (pv 1) (po_some (pv 7)) (po_some (pe_op op_add (pv 4) pe_int))) (pv 0)))) (fun _ _ _ _ _ => (pv 7)))
      (pss_one (ps_if (pt_truth (pv 6) (by intro _; rfl)) (pss_cons (ps_expr (pe_bm PySem.F.plainAttrs_list PySem.F.slot_list_append PySem.F.type_list_append mt_append (pv 2) (pa_cons (pe_tup (pa_cons (pe_ix ix_list (pv 6) pe_int (fun _ _ => rfl)) (pa_cons (pe_slice sl_str (pv 1) (po_some (pe_ix ix_list (pv 6) pe_int (fun _ _ => rfl))) (po_some (pe_op op_add (pv 4) pe_int))) pa_nil))) pa_nil)))
        (pss_one (ps_asg (pv 4) (pg_name (i := 3) scPau.nd rfl (Or.inl rfl))))) pss_nil)))))
    (pss_one (ps_ret (pv 2))))), ?_⟩
  have small : ∀ n : Nat, n ≤ 10000 → n ≤ sizeLine := fun n hn => Nat.le_trans hn (by decide)
  have xlen : (mkS cs).length = cs.length := mkS_len cs
  refine ⟨by decide, fun L hL => ?_⟩
  have gL := Ge.new (o := .lst []) hL
  have nwL := Nw.none hL
  dsimp only [gName]
  refine ⟨_, rfl, mkS cs, rfl, small _ (by omega), _, rfl, by omega, by omega, ?_⟩
  rw [xlen]
  refine for_range (lo := 0) (n := ((cs.length : Nat) : Int).toNat) (fun l σ H' => l ≤ cs.length ∧ Ge H H' ∧ (∃ xs, H' L = some (.lst xs) ∧ DaAll K (wos (· = L) H') xs (((pz (inTb kvs) cs l).1.map (occZ cs)).map occD)) ∧ ∃ x4 x5 x6, σ = [some (.ref tb), some (.str (mkS cs)), some (.ref L), some (.int ((pz (inTb kvs) cs l).2 : Int)), x4, x5, x6, none])
    ⟨Nat.zero_le _, gL, ⟨[], upd_same, .nil⟩, _, _, _, rfl⟩ ?_ ?_
  · rintro l σ H1 hl1 ⟨_, g1, ⟨xs, h1, d1⟩, x4, x5, x6, rfl⟩
    have hl' : l < cs.length := by omega
    have hb := pz_le (T := inTb kvs) (cs := cs) l
    generalize eb : (pz (inTb kvs) cs l).2 = b at hb
    have e1 : (if ((0 : Int) + (l : Int)) - 4 + 1 > (b : Int) then ((0 : Int) + (l : Int)) - 4 + 1 else (b : Int)) = ((max b (l - 3) : Nat) : Int) := by split <;> omega
    refine ⟨_, rfl, _, rfl, _, _, rfl, rfl, _, _, rfl, rfl, _, _, rfl, ?_⟩
    rw [e1]
    dsimp only [gName]
    refine ⟨_, rfl, _, rfl, _, _, rfl, by omega, fun D hD => ?_⟩
    have en : (((0 : Int) + (l : Int)) - ((max b (l - 3) : Nat) : Int)).toNat = l - max b (l - 3) := by omega
    rw [en]
    have nLD : L ≠ D := ne_of_none h1 hD
    have htb1 := g1.dk htb
    refine lc_range (lo := ((max b (l - 3) : Nat) : Int)) (n := l - max b (l - 3)) (fun j H' => j ≤ l - max b (l - 3) ∧ Ge H1 H' ∧ H' D = some (.lst ((((List.range j).map (max b (l - 3) + ·)).filter fun s => inTb kvs (sbS cs s (l + 1))).map fun s => V.int (s : Nat))))
      ⟨Nat.zero_le _, Ge.new hD, upd_same⟩ ?_ ?_
    · rintro j H2 hj ⟨_, g2, h2⟩
      have es : ((max b (l - 3) : Nat) : Int) + (j : Int) = ((max b (l - 3) + j : Nat) : Int) := rfl
      have el : (0 : Int) + (l : Int) + 1 = ((l + 1 : Nat) : Int) := by omega
      rw [es]
      have ec : cutS (mkS cs) (some ((max b (l - 3) + j : Nat) : Int)) (some ((0 : Int) + (l : Int) + 1)) = sbS cs (max b (l - 3) + j) (l + 1) := by rw [el]; exact cut_sb (by omega) (by omega)
      generalize esj : max b (l - 3) + j = sj at ec
      refine ⟨rfl, _, rfl, _, rfl, _, rfl, _, rfl, _, _, rfl, rfl, _, rfl, mkS cs, rfl, small _ (by omega), _, rfl, tb, _, rfl, DGet.k (k := Sum.inr (cutS (mkS cs) (some (sj : Int)) (some ((0 : Int) + (l : Int) + 1)))) (g2.dk htb1), _, rfl, ?_⟩
      rw [ec]
      have lf : ((((List.range j).map (max b (l - 3) + ·)).filter fun s => inTb kvs (sbS cs s (l + 1))).map fun s => V.int (s : Nat)).length ≤ j := by
        rw [List.length_map]
        refine Nat.le_trans (List.length_filter_le _ _) ?_
        rw [List.length_map, List.length_range]
        exact Nat.le_refl _
      have ef : ((List.range (j + 1)).map (max b (l - 3) + ·)).filter (fun s => inTb kvs (sbS cs s (l + 1))) = ((List.range j).map (max b (l - 3) + ·)).filter (fun s => inTb kvs (sbS cs s (l + 1))) ++ [sj].filter (fun s => inTb kvs (sbS cs s (l + 1))) := by
        rw [List.range_succ, List.map_append, List.filter_append, ← esj]
        rfl
      rw [ef, List.map_append]
      cases hT : inTb kvs (sbS cs sj (l + 1)) with
      | true =>
        have hT' : (valV kvs (Sum.inr (sbS cs sj (l + 1)) : Key)).isSome = true := hT
        refine iteTx hT' ?_
        rw [List.filter_cons_of_pos (by exact hT)]
        exact ⟨_, rfl, _, h2, Nat.lt_of_le_of_lt (Nat.le_trans lf (show j ≤ 1000 by omega)) (by decide), hj, Ge.upd g2 hD, upd_same⟩
      | false =>
        have hT' : (valV kvs (Sum.inr (sbS cs sj (l + 1)) : Key)).isSome = false := hT
        refine iteFx hT' ?_
        rw [List.filter_cons_of_neg (by rw [hT]; exact Bool.false_ne_true), List.filter_nil, List.map_nil, List.append_nil]
        exact ⟨hj, g2, h2⟩
    · rintro H2 ⟨_, g2, h2⟩
      have h2 : H2 D = some (.lst ((hits (inTb kvs) cs b l).map fun s => V.int (s : Nat))) := h2
      have hp := fun s => hits_mem (T := inTb kvs) (cs := cs) (b := b) (l := l) (s := s)
      have ho := pz_none (T := inTb kvs) (cs := cs) (l := l)
      have hs := fun s r => pz_some (T := inTb kvs) (cs := cs) (l := l) (s := s) (r := r)
      simp only [eb] at ho hs
      have hL2 := g2.1 L _ h1 (fun ps z => by cases z)
      refine ⟨_, rfl, _, Or.inl ⟨_, SqL.of h2, rfl⟩, ?_⟩
      cases eh : hits (inTb kvs) cs b l with
      | nil =>
        refine iteF ?_
        refine ⟨hl', g1.trans g2, ⟨xs, hL2, ?_⟩, some (.int (0 + (l : Int))), some (.int ((max b (l - 3) : Nat) : Int)), some (.ref D), ?_⟩
        · rw [ho eh]
          exact (geW g2).daAll d1
        · rw [ho eh, eb]
          rfl
      | cons s r =>
        refine iteT ?_
        rw [eh] at h2
        obtain ⟨⟨hs1, hs2, hs3⟩, hs4⟩ := (hp s).mp (show s ∈ hits (inTb kvs) cs b l by rw [eh]; exact List.mem_cons_self)
        have ec : cutS (mkS cs) (some ((s : Nat) : Int)) (some ((0 : Int) + (l : Int) + 1)) = sbS cs s (l + 1) := by
          rw [show (0 : Int) + (l : Int) + 1 = ((l + 1 : Nat) : Int) by omega]
          exact cut_sb (by omega) (by omega)
        refine ⟨_, rfl, .inl ⟨rfl, _, SqL.of hL2⟩, _, rfl, D, _, _, _, rfl, rfl, SqL.of h2, atI_nat (j := 0) rfl, _, rfl, _, rfl, D, _, _, _, rfl, rfl, SqL.of h2, atI_nat (j := 0) rfl, _, rfl, _, rfl, _, _, rfl, rfl, _, rfl, mkS cs, rfl, small _ (by omega), (by decide : 2 ≤ sizeLine), fun t ht => ?_⟩
        rw [ec]
        have gt := Ge.new (o := .tup [.int (s : Nat), .str (sbS cs s (l + 1))]) ht
        have hL3 := gt.1 L _ hL2 (fun ps z => by cases z)
        have g3 := (g1.trans g2).trans gt
        have tL : t ≠ L := (ne_of_none hL2 ht).symm
        have lx := daAll_len d1
        rw [List.length_map, List.length_map] at lx
        have lp := pz_len (T := inTb kvs) (cs := cs) l
        refine ⟨L, xs, .ref t, rfl, rfl, hL3, Nat.lt_of_le_of_lt (show xs.length ≤ 200 by omega) (by decide), ?_⟩
        refine ⟨_, rfl, hl', ge_updW g3 nwL, ⟨xs ++ [.ref t], upd_same, ?_⟩, some (.int (0 + (l : Int))), some (.int ((max b (l - 3) : Nat) : Int)), some (.ref D), ?_⟩
        · rw [hs s r eh, wos_upd (S := (· = L)) rfl, List.map_append, List.map_append]
          refine daAll_appU ((geW gt).daAll ((geW g2).daAll d1)) (.cons (.tup (Or.inl ?_) (.cons (.int _) (.cons (.str _) .nil))) .nil)
          rw [wos_ne (S := (· = L)) tL]
          exact upd_same
        · rw [hs s r eh]
          rw [show (0 : Int) + (l : Int) = (l : Int) from Int.zero_add _]
          rfl
  · rintro σ H1 ⟨_, g1, ⟨xs, h1, d1⟩, x4, x5, x6, rfl⟩
    rw [Int.toNat_natCast] at d1
    exact ⟨_, rfl, q H1 L xs g1 nwL h1 (wos_ge.daAll d1)⟩
end
end Pr
set_option maxRecDepth 100000
set_option maxHeartbeats 4000000
/-! the program: type_text -/
namespace Pr
open PySem PySem.Spec PyProof.Rows L2 GxR Gx Rp Dl Pd Tx Zq Zs Zt Zd
theorem row_key {cs : List Nat} {u : Int} : ∀ (ps : List (Nat × Nat)) (i : Nat), rowL u i (ps.map fun p => (cs.drop p.1).take (p.2 - p.1)) = (rowOf cs u i ps).map fun q => RE.key q.1 q.2
  | [], _ => rfl
  | p :: r, i => by
    show ((cs.drop p.1).take (p.2 - p.1)).map _ ++ rowL u (i + 1) (r.map _) = (((cs.drop p.1).take (p.2 - p.1)).map (fun c => (c, u * (i : Int))) ++ rowOf cs u (i + 1) r).map _
    rw [row_key r (i + 1), List.map_append, List.map_map]
    rfl
theorem pairs_ok {n : Nat} : ∀ (os : List (Nat × Nat)) (lo : Nat), Ch lo os → lo ≤ n → (∀ o ∈ os, o.2 ≤ n) → ∀ p ∈ pairsZ lo (cutsZ os) n, p.1 ≤ p.2 ∧ p.2 ≤ n
  | [], lo, _, h, _, p, hp => by
    rw [List.mem_singleton.mp hp]
    exact ⟨h, Nat.le_refl _⟩
  | o :: r, lo, hc, h, ho, p, hp => by
    have h1 := ho o List.mem_cons_self
    have h2 := hc.1
    have h3 := hc.2.1
    rcases List.mem_cons.mp (show p ∈ (lo, o.2 - 1) :: pairsZ (o.2 - 1) (cutsZ r) n from hp) with rfl | hp
    · exact ⟨by show lo ≤ o.2 - 1; omega, by show o.2 - 1 ≤ n; omega⟩
    · exact pairs_ok r (o.2 - 1) hc.2.2 (by omega) (fun o' h' => ho o' (List.mem_cons_of_mem _ h')) p hp
def typedR (kvs : List (Key × V)) (cs : List Nat) (wt : Int) : List RE := (rowZ (inTb kvs) cs (wt + 1) cs.length).map fun q => RE.key q.1 q.2
theorem sb_one {cs : List Nat} {j c : Nat} (h : cs[j]? = some c) : sbS cs j (j + 1) = (⟨#[c]⟩ : Str) := by
  obtain ⟨h1, h2⟩ := List.getElem?_eq_some_iff.mp h
  unfold sbS
  rw [show j + 1 - j = 1 by omega, List.drop_eq_getElem_cons h1, h2]
  rfl
section
variable {P : Program} {w : World} {K : PySem.W.Frag} {mg : Str → Option Value} {base : Heap} {T : List Addr}
def spTyT (K : PySem.W.Frag) (T : List Addr) : Sp := fun vs H Q _ => ∃ u v m t o cd ly s fl bss bs wt, ∃ (cs : List Nat) (kvs : List (Key × V)), vs = [u, v, .str (mkS cs)] ∧ KS K T H u v m t o cd ly s fl bss bs wt ∧ bss.flatten.length ≤ 100 ∧ kvs = boundK (factsK fl bs) bss ∧ isWord 40 (.str (mkS cs)) = true ∧ 1 ≤ cs.length ∧ cs.length ≤ 40 ∧
  (∀ H' a k, Ge H H' → k < cs.length → inTb kvs (sbS cs k (k + 1)) = true → (∀ j, j < k → inTb kvs (sbS cs j (j + 1)) = false) → H' a = some (.tup [.str "blocked", .int (k : Nat)]) → Q (.ref a) H') ∧
  (∀ H' a R F us xs, Ge H H' → (∀ j, j < cs.length → inTb kvs (sbS cs j (j + 1)) = false) → H' a = some (.tup [.str "row", .ref R, .ref F]) → Nw H R → Nw H F → R ≠ F → H' R = some (.lst us) → Paired (EntAt H') us (typedR kvs cs wt) → H' F = some (.lst xs) → DaAll K H' xs (((pz (inTb kvs) cs cs.length).1.map (occZ cs)).map occD) → Q (.ref a) H')
abbrev nTyT : List Str := ["keymap", "state", "text", "table", "place", "letter", "found", "cuts", "parts", "start", "keys", "cut", "end", "part"]
theorem scTyT : FnScope nTyT ["keymap", "state", "text"] (defScope s_type_text) := ⟨rfl, rfl, rfl, by decide +kernel, rfl, by decide +kernel, by decide +kernel⟩
theorem ok_type_text {f c : Addr} {fd : FuncData} (F : FunC K "type_text" s_type_text f fd c) (B : Bn mg) (D1 : DfP P w K mg base 10 "check_text" ["keymap", "state", "text"] (spChTx K T)) (D2 : DfP P w K mg base 3 "bound_in" ["keymap", "state"] (spBoundIn K T)) (D3 : DfP P w K mg base 1 "pausing" ["table", "text"] (spPau K)) (D4 : DfP P w K mg base 1 "row_of" ["wait", "parts"] (spRof K)) : FnOk P w K mg base CX0 11 f fd ["keymap", "state", "text"] (spTyT K T) := by
  refine F.ok scTyT (fun vs H Q E ⟨_, _, _, _, _, _, _, _, _, _, _, _, _, _, h, _⟩ => by rw [h]; rfl) (fun A outer s0 H vs Q E hr h => ?_)
  have hu := hu_of hr
  obtain ⟨u, v, m, t, o, cd, ly, s, fl, bss, bs, wt, cs, kvs, rfl, k, h100, ekv, hw, hl1, hl, qb, qr⟩ := h
  refine ⟨_, pss_cons (ps_expr (pcall D1 (hr.mono (by decide)) pass0 rfl (pa_cons (pv 0) (pa_cons (pv 1) (pa_cons (pv 2) pa_nil)))))
    (pss_cons (ps_asg (pcall D2 (hr.mono (by decide)) pass0 rfl (pa_cons (pv 0) (pa_cons (pv 1) pa_nil))) (pg_name (i := 3) scTyT.nd rfl (Or.inl rfl)))
    (pss_cons (ps_for PassesOwn.never rfl (pi_enumS rfl B.enumerate (pa_cons (pv 2) pa_nil)) (pg_tup rfl (pgs_cons (pg_name (i := 4) scTyT.nd rfl (Or.inl rfl)) (pgs_cons (pg_name (i := 5) scTyT.nd rfl (Or.inl rfl)) pgs_nil)))
      (pss_one (ps_if (pt_cmp (pc_din hu (pv 5) (pv 3))) (pss_one (ps_ret (pe_tup (pa_cons pe_str (pa_cons (pv 4) pa_nil))))) pss_nil)))
    (pss_cons (ps_asg (pcall D3 (hr.mono (by decide)) pass0 rfl (pa_cons (pv 3) (pa_cons (pv 2) pa_nil))) (pg_name (i := 6) scTyT.nd rfl (Or.inl rfl)))
    (pss_cons (ps_setLc (i := 7) (own := [("start", 9), ("keys", 10)]) (g := gTup K 2 (gCons (gName 9) (gCons (gName 10) gNil))) (tt := tYes) rfl scTyT.nd rfl rfl (sw_true rfl rfl rfl (by decide +kernel)) (pi_list (pv 6)) (blkOk_by (N := nTyT) (sc := defScope s_type_text) (by decide +kernel)) (fun _ _ _ _ _ => (pg_tup rfl (pgs_cons (pg_name (i := 9) scTyT.nd rfl (Or.inl rfl)) (pgs_cons (pg_name (i := 10) scTyT.nd rfl (Or.inl rfl)) pgs_nil)))) (fun _ _ _ _ _ => pts_nil) (fun _ _ _ _ _ => (pe_op op_sub (pe_op op_add (pv 9) (pe_callB call_len_str rfl B.len PySem.boot_len (pa_cons (pv 10) pa_nil))) pe_int)))
    (pss_cons (ps_setLc (i := 8) (own := [("cut", 11), ("end", 12)]) (g := gTup K 2 (gCons (gName 11) (gCons (gName 12) gNil))) (tt := tYes) rfl scTyT.nd rfl rfl (sw_true rfl rfl rfl (by decide +kernel)) (pi_zip rfl B.zip (pa_cons (pe_op op_cat (pe_lst (pa_cons pe_int pa_nil)) (pv 7)) (pa_cons (pe_op op_cat (pv 7) (pe_lst (pa_cons (pe_callB call_len_str rfl B.len PySem.boot_len (pa_cons (pv 2) pa_nil)) pa_nil))) pa_nil))) (blkOk_by (N := nTyT) (sc := defScope s_type_text) (by decide +kernel)) (fun _ _ _ _ _ => (pg_tup rfl (pgs_cons (pg_name (i := 11) scTyT.nd rfl (Or.inl rfl)) (pgs_cons (pg_name (i := 12) scTyT.nd rfl (Or.inl rfl)) pgs_nil)))) (fun _ _ _ _ _ => pts_nil) (fun _ _ _ _ _ => (pe_slice sl_str (pv 2) (po_some (pv 11)) (po_some (pv 12)))))
    (pss_one (ps_ret (pe_tup (pa_cons pe_str (pa_cons (pcall D4 (hr.mono (by decide)) pass0 rfl (pa_cons (pe_ix ix_tup (pv 0) pe_int (fun _ _ => rfl)) (pa_cons (pe_lc (own := [("part", 13)]) (g := gName 13) (tt := tYes) rfl scTyT.nd (pi_list (pv 8)) (blkOk_by (N := nTyT) (sc := defScope s_type_text) (by decide +kernel)) (fun _ _ _ _ _ => (pg_name (i := 13) scTyT.nd rfl (Or.inl rfl))) (fun _ _ _ _ _ => pts_nil) (fun _ _ _ _ _ => (pe_tup (pa_cons (pv 13) (pa_cons pe_dnewK pa_nil))))) pa_nil))) (pa_cons (pv 6) pa_nil))))))))))), ?_⟩
  have small : ∀ n : Nat, n ≤ 10000 → n ≤ sizeLine := fun n hn => Nat.le_trans hn (by decide)
  have xlen : (mkS cs).length = cs.length := mkS_len cs
  refine ⟨u, rfl, v, rfl, _, rfl, u, v, m, t, o, cd, ly, s, fl, bs, wt, mkS cs, rfl, k.toKS0, hw, by omega, fun H1 g1 => ?_⟩
  refine ⟨u, rfl, v, rfl, u, v, m, t, o, cd, ly, s, fl, bss, bs, wt, rfl, k.ge g1, h100, fun H2 tb g2 _ htb => ?_⟩
  rw [← ekv] at htb
  have g12 := g1.trans g2
  have k2 := k.ge g12
  dsimp only [gName]
  refine ⟨_, rfl, mkS cs, rfl, ?_⟩
  refine for_it (n := (mkS cs).cps.size) walk_enumS (fun i σ H' => i ≤ cs.length ∧ Ge H2 H' ∧ (∀ j, j < i → inTb kvs (sbS cs j (j + 1)) = false) ∧ ∃ x4 x5, σ = [some u, some v, some (.str (mkS cs)), some (.ref tb), x4, x5, none, none, none, none, none, none, none, none])
    ⟨Nat.zero_le _, Ge.refl _, (fun j hj => absurd hj (Nat.not_lt_zero j)), _, _, rfl⟩ (fun _ _ _ _ _ => True.intro) ?_ ?_
  · rintro i y σ H3 H4 hi ⟨_, g3, no, x4, x5, rfl⟩ ⟨t', c', rfl, ht, hc, rfl⟩
    have hc : cs[i]? = some c' := by rw [← List.getElem?_toArray]; exact hc
    have hi' : i < cs.length := (List.getElem?_eq_some_iff.mp hc).1
    have gt := Ge.new (o := .tup [.int (i : Nat), .str (⟨#[c']⟩ : Str)]) ht
    refine ⟨t', _, rfl, Or.inl (Or.inl upd_same), rfl, _, _, rfl, _, _, rfl, rfl, ?_⟩
    refine ⟨_, rfl, _, rfl, tb, _, rfl, DGet.k (k := Sum.inr (⟨#[c']⟩ : Str)) ((g3.trans gt).dk htb), _, rfl, ?_⟩
    rw [← sb_one hc] at gt ⊢
    cases hT : inTb kvs (sbS cs i (i + 1)) with
    | true =>
      have hT' : (valV kvs (Sum.inr (sbS cs i (i + 1)) : Key)).isSome = true := hT
      refine iteTx hT' ?_
      exact ⟨_, rfl, (by decide : 2 ≤ sizeLine), fun a ha => qb _ a i (((g12.trans g3).trans gt).trans (Ge.new ha)) hi' hT no upd_same⟩
    | false =>
      have hT' : (valV kvs (Sum.inr (sbS cs i (i + 1)) : Key)).isSome = false := hT
      refine iteFx hT' ⟨hi', g3.trans gt, fun j hj => ?_, some (.int (i : Nat)), some (.str (sbS cs i (i + 1))), by rw [sb_one hc]; rfl⟩
      rcases Nat.lt_or_ge j i with h | h
      · exact no j h
      · have : j = i := by omega
        rw [this]
        exact hT
  · rintro σ H3 ⟨_, g3, no, x4, x5, rfl⟩
    rw [show (mkS cs).cps.size = cs.length from mkS_len cs] at no
    refine ⟨_, rfl, _, rfl, tb, kvs, cs, rfl, g3.dk htb, hl, fun H4 F xs g4 nwF hF hFd => ?_⟩
    obtain ⟨hch, _⟩ := pz_ch (T := inTb kvs) (cs := cs) cs.length
    have hall := pz_all (T := inTb kvs) (cs := cs) cs.length
    have hlen := pz_len (T := inTb kvs) (cs := cs) cs.length
    have hrow := row_is (T := inTb kvs) (cs := cs) (u := wt + 1) cs.length (Nat.le_refl _)
    generalize eos : (pz (inTb kvs) cs cs.length).1 = os at hch hall hlen hrow hFd
    have lx := daAll_len hFd
    rw [List.length_map, List.length_map] at lx
    dsimp only [gName]
    refine ⟨_, rfl, F, rfl, ⟨xs, SqL.of hF⟩, fun D hD => ?_⟩
    refine lc_list (K := K) (xs := xs) (fun j H' => j ≤ xs.length ∧ Ge H4 H' ∧ H' D = some (.lst (((cutsZ os).take j).map fun c => V.int (c : Nat))))
      ⟨Nat.zero_le _, Ge.new hD, upd_same⟩ (fun j H' _ z => SqL.of (z.2.1.1 F _ hF (fun ps z => by cases z))) ?_ ?_
    · rintro j y H5 hy ⟨_, g5, h5⟩
      have hj : j < xs.length := (List.getElem?_eq_some_iff.mp hy).1
      obtain ⟨d', e1, e2⟩ := daAll_get hFd hy
      rw [List.getElem?_map, List.getElem?_map] at e1
      obtain ⟨oz, e3, rfl⟩ := Option.map_eq_some_iff.mp e1
      obtain ⟨o', e4, rfl⟩ := Option.map_eq_some_iff.mp e3
      obtain ⟨oa, rfl, hoa⟩ := occ_at (g5.da e2)
      have ho := hall o' (List.mem_of_getElem? e4)
      have hsl := sbS_len (cs := cs) (s := o'.1) ho.2.2.1
      refine ⟨oa, _, rfl, Or.inl hoa, rfl, _, _, rfl, _, _, rfl, rfl, ?_⟩
      refine ⟨rfl, _, rfl, _, rfl, sbS cs o'.1 o'.2, rfl, small _ (by omega), _, _, rfl, rfl, _, _, rfl, rfl, _, h5, ?_, hj, Ge.upd g5 hD, ?_⟩
      · rw [List.length_map, List.length_take]
        exact Nat.lt_of_le_of_lt (Nat.min_le_left _ _) (Nat.lt_of_lt_of_le (show j < 1000 by omega) (by decide))
      · have ec : ((o'.1 : Nat) : Int) + ((sbS cs o'.1 o'.2).length : Int) - 1 = ((o'.2 - 1 : Nat) : Int) := by omega
        have et : (cutsZ os).take (j + 1) = (cutsZ os).take j ++ [o'.2 - 1] := by
          rw [List.take_succ]
          unfold cutsZ
          rw [List.getElem?_map, e4]
          rfl
        rw [upd_same, et, List.map_append]
        show _ = some (HO.lst (_ ++ [V.int _]))
        rw [← ec]
        rfl
    · rintro H5 ⟨_, g5, h5⟩
      have etk : (cutsZ os).take xs.length = cutsZ os := List.take_of_length_le (by unfold cutsZ; rw [List.length_map]; omega)
      rw [etk] at h5
      have hF5 := g5.1 F _ hF (fun ps z => by cases z)
      have lcz : (cutsZ os).length = os.length := by unfold cutsZ; rw [List.length_map]
      refine ⟨(by decide : 1 ≤ sizeLine), fun q1 hq1 => ⟨_, rfl, ?_⟩⟩
      have gq1 := Ge.new (o := .lst [.int 0]) hq1
      refine ⟨q1, D, _, _, rfl, rfl, upd_same, gq1.1 D _ h5 (fun ps z => by cases z), small _ (by rw [List.length_map, lcz]; show 1 + _ ≤ _; omega), fun q2 hq2 => ?_⟩
      have gq2 := Ge.new (o := .lst ([V.int 0] ++ (cutsZ os).map fun c => V.int (c : Nat))) hq2
      refine ⟨_, rfl, _, rfl, mkS cs, rfl, small _ (by omega), (by decide : 1 ≤ sizeLine), fun q3 hq3 => ?_⟩
      have gq3 := Ge.new (o := .lst [.int ((mkS cs).length : Nat)]) hq3
      refine ⟨D, q3, _, _, rfl, rfl, (gq1.trans (gq2.trans gq3)).1 D _ h5 (fun ps z => by cases z), upd_same, small _ (by rw [List.length_map, lcz]; show _ + 1 ≤ _; omega), fun q4 hq4 => ?_⟩
      have gq4 := Ge.new (o := .lst (((cutsZ os).map fun c => V.int (c : Nat)) ++ [V.int ((mkS cs).length : Nat)])) hq4
      have hx2 := (gq3.trans gq4).1 q2 _ upd_same (fun ps z => by cases z)
      have hy4 : (upd (upd (upd (upd H5 q1 (.lst [V.int 0])) q2 (.lst ([V.int 0] ++ (cutsZ os).map fun c => V.int (c : Nat)))) q3 (.lst [V.int ((mkS cs).length : Nat)])) q4 (.lst (((cutsZ os).map fun c => V.int (c : Nat)) ++ [V.int ((mkS cs).length : Nat)]))) q4 = some (.lst (((cutsZ os).map fun c => V.int (c : Nat)) ++ [V.int ((mkS cs).length : Nat)])) := upd_same
      have g56 : Ge H5 (upd (upd (upd (upd H5 q1 (.lst [V.int 0])) q2 (.lst ([V.int 0] ++ (cutsZ os).map fun c => V.int (c : Nat)))) q3 (.lst [V.int ((mkS cs).length : Nat)])) q4 (.lst (((cutsZ os).map fun c => V.int (c : Nat)) ++ [V.int ((mkS cs).length : Nat)]))) := (gq1.trans gq2).trans (gq3.trans gq4)
      clear gq1 gq2 gq3 gq4 hq1 hq2 hq3 hq4
      generalize upd (upd (upd (upd H5 q1 (.lst [V.int 0])) q2 (.lst ([V.int 0] ++ (cutsZ os).map fun c => V.int (c : Nat)))) q3 (.lst [V.int ((mkS cs).length : Nat)])) q4 (.lst (((cutsZ os).map fun c => V.int (c : Nat)) ++ [V.int ((mkS cs).length : Nat)])) = H6 at *
      rw [xlen] at hy4
      refine ⟨q2, q4, _, _, rfl, SqL.of hx2, SqL.of hy4, fun D2 hD2 => ?_⟩
      have hps := pairs_ok (n := cs.length) os 0 hch (Nat.zero_le _) (fun o ho => (hall o ho).2.2.1)
      have hpl := pairs_len (cutsZ os) 0 cs.length
      have hpz := pairs_zip (cutsZ os) 0 cs.length
      generalize pairsZ 0 (cutsZ os) cs.length = prs at *
      refine lc_it (n := prs.length) (walk_zip (K := K) (a := q2) (b := q4) (xs := [V.int 0] ++ (cutsZ os).map fun c => V.int (c : Nat)) (ys := ((cutsZ os).map fun c => V.int (c : Nat)) ++ [V.int (cs.length : Nat)]) (by simp; omega)) (fun j H' => j ≤ prs.length ∧ Ge H6 H' ∧ H' D2 = some (.lst ((prs.take j).map fun p => V.str (sbS cs p.1 p.2))))
        ⟨Nat.zero_le _, Ge.new hD2, upd_same⟩ (fun j H' _ z => ⟨SqL.of (z.2.1.1 q2 _ hx2 (fun ps z => by cases z)), SqL.of (z.2.1.1 q4 _ hy4 (fun ps z => by cases z))⟩) ?_ ?_
      · rintro j y H7 H8 hj ⟨_, g7, h7⟩ ⟨Tn, uu, vv, rfl, hTn, rfl, hu', hv'⟩
        have e0 : [V.int 0] ++ (cutsZ os).map (fun c => V.int (c : Nat)) = (0 :: cutsZ os).map fun c => V.int ((c : Nat) : Int) := rfl
        have e1 : (cutsZ os).map (fun c => V.int (c : Nat)) ++ [V.int (cs.length : Nat)] = (cutsZ os ++ [cs.length]).map fun c => V.int ((c : Nat) : Int) := by rw [List.map_append]; rfl
        have hu' : ((0 :: cutsZ os).map fun c => V.int ((c : Nat) : Int))[j]? = some uu := hu'
        have hv' : ((cutsZ os).map (fun c => V.int (c : Nat)) ++ [V.int (cs.length : Nat)])[j]? = some vv := hv'
        rw [List.getElem?_map] at hu'
        rw [e1, List.getElem?_map] at hv'
        obtain ⟨ca, hca, rfl⟩ := Option.map_eq_some_iff.mp hu'
        obtain ⟨ce, hce, rfl⟩ := Option.map_eq_some_iff.mp hv'
        have hpj : prs[j]? = some (ca, ce) := by
          rw [hpz]
          exact List.getElem?_zip_eq_some.mpr ⟨hca, hce⟩
        have hok := hps (ca, ce) (List.mem_of_getElem? hpj)
        have ecut := cut_sb (cs := cs) hok.1 hok.2
        have gT := Ge.new (o := .tup [V.int (ca : Nat), .int (ce : Nat)]) hTn
        refine ⟨Tn, _, rfl, Or.inl (Or.inl upd_same), rfl, _, _, rfl, _, _, rfl, rfl, rfl, ?_⟩
        refine ⟨_, rfl, _, rfl, _, rfl, _, rfl, _, rfl, mkS cs, rfl, small _ (by omega), _, gT.1 D2 _ h7 (fun ps z => by cases z), ?_, hj, Ge.upd (g7.trans gT) hD2, ?_⟩
        · rw [List.length_map, List.length_take]
          exact Nat.lt_of_le_of_lt (Nat.min_le_left _ _) (Nat.lt_of_lt_of_le (show j < 1000 by omega) (by decide))
        · have et : prs.take (j + 1) = prs.take j ++ [(ca, ce)] := by rw [List.take_succ, hpj]; rfl
          rw [upd_same, et, List.map_append, ecut]
          rfl
      · rintro H7 ⟨_, g7, h7⟩
        rw [List.take_length] at h7
        have g67 := g56.trans g7
        have g27 : Ge H2 H7 := ((g3.trans g4).trans g5).trans g67
        have k7 := k2.ge g27
        have em := k7.eu
        subst em
        dsimp only [gName]
        refine ⟨_, rfl, m, _, 4, _, rfl, rfl, SqT.of k7.hm, atI_nat (j := 4) rfl, _, rfl, D2, rfl, ⟨_, SqL.of h7⟩, fun D3 hD3 => ?_⟩
        refine lc_list (K := K) (xs := prs.map fun p => V.str (sbS cs p.1 p.2)) (fun j H' => j ≤ prs.length ∧ Ge H7 H' ∧ ∃ ws, H' D3 = some (.lst ws) ∧ Paired (PartAt H') ws ((prs.take j).map fun p => (cs.drop p.1).take (p.2 - p.1)))
          ⟨Nat.zero_le _, Ge.new hD3, [], upd_same, .nil⟩ (fun j H' _ z => SqL.of (z.2.1.1 D2 _ h7 (fun ps z => by cases z))) ?_ ?_
        · rintro j y H8 hy ⟨_, g8, ws, h8, p8⟩
          rw [List.getElem?_map] at hy
          obtain ⟨pj, hpj, rfl⟩ := Option.map_eq_some_iff.mp hy
          have hj : j < prs.length := (List.getElem?_eq_some_iff.mp hpj).1
          have lw := Paired.length p8
          rw [List.length_map, List.length_take] at lw
          refine ⟨rfl, _, rfl, fun d hd => ⟨(by decide : 2 ≤ sizeLine), fun a ha => ?_⟩⟩
          have gd := Ge.new (o := .dK []) hd
          have ga := Ge.new (o := .tup [.str (sbS cs pj.1 pj.2), .ref d]) ha
          have gda := gd.trans ga
          have h9 := gda.1 D3 _ h8 (fun ps z => by cases z)
          have gl := GeP.set (p := D3) (o := .lst (ws ++ [.ref a])) h9
          refine ⟨ws, h9, Nat.lt_of_le_of_lt (show ws.length ≤ 1000 by omega) (by decide), hj, Ge.upd (g8.trans gda) hD3, ws ++ [.ref a], upd_same, ?_⟩
          have et : prs.take (j + 1) = prs.take j ++ [pj] := by rw [List.take_succ, hpj]; rfl
          rw [et, List.map_append]
          have mv : ∀ {v : V} {ks : List Nat}, PartAt _ v ks → PartAt _ v ks := fun ⟨a', d', q1, q2, q3⟩ => ⟨a', d', q1, gl.1 a' _ (fun z => by rw [z, h9] at q2; cases q2) q2 (fun ps z => by cases z), gl.dk h9 q3⟩
          exact Paired.imp (fun _ _ z => mv z) (paired_snoc (F := PartAt _) (a := .ref a) (b := (cs.drop pj.1).take (pj.2 - pj.1)) ⟨a, d, rfl, upd_same, ga.dk (kvs := []) upd_same⟩ (Paired.imp (fun _ _ z => z.ge gda) p8))
        · rintro H8 ⟨_, g8, ws, h8, p8⟩
          rw [List.length_map, List.take_length] at p8
          have hF8 := (g67.trans g8).1 F _ hF5 (fun ps z => by cases z)
          have hds : (prs.map fun p => (cs.drop p.1).take (p.2 - p.1)).flatten.length ≤ 100 := by
            rw [← rowL_len (u := wt + 1) _ 0, row_key prs 0, hrow, List.length_map]
            unfold rowZ
            rw [List.length_map, List.length_range]
            omega
          refine ⟨wt, D3, ws, _, rfl, h8, p8, hds, fun H9 R us g9 nwR hR9 pR9 => ⟨_, rfl, (by decide : 3 ≤ sizeLine), fun a ha => ?_⟩⟩
          rw [row_key prs 0, hrow] at pR9
          have ga := Ge.new (o := .tup [.str "row", .ref R, .ref F]) ha
          have nRF : R ≠ F := fun z => by
            obtain ⟨ps, e⟩ := nwR.1 _ (z ▸ hF8)
            cases e
          have gall : Ge H H8 := (g12.trans g27).trans g8
          exact qr _ a R F us xs ((gall.trans g9).trans ga) no upd_same (Nw.back gall nwR) (Nw.back (g12.trans g3) nwF) nRF (ga.1 R _ hR9 (fun ps z => by cases z)) (Paired.imp (fun _ _ z => EntAt.ge z ga) pR9) (ga.1 F _ (g9.1 F _ hF8 (fun ps z => by cases z)) (fun ps z => by cases z)) ((g9.trans ga).daAll ((g5.trans (g67.trans g8)).daAll (by rw [eos]; exact hFd)))
end
end Pr
set_option maxRecDepth 100000
set_option maxHeartbeats 4000000
/-! the program: type_text and is_apart, errors too -/
namespace Pr
open PySem PySem.Spec PyProof.Rows L2 GxR Gx Rp Dl Pd Tx Zq Zs Zt Zd
section
variable {P : Program} {w : World} {K : PySem.W.Frag} {mg : Str → Option Value} {base : Heap} {T : List Addr}
def dueE (K : PySem.W.Frag) (m d e : PyData) (H : Hp) (E : XK) : Prop := ∃ i c, due3 m d e = some i ∧ EXC[i]? = some c ∧ ∀ H', Ge H H' → E (.ref (He.ga K c)) none H'
def spTyTX (K : PySem.W.Frag) (T : List Addr) : Sp := fun vs H Q E => ∃ u v x m d e, vs = [u, v, x] ∧ Da K H u m ∧ small m = true ∧ Da K H v d ∧ small d = true ∧ Da K H x e ∧ small e = true ∧ Tb T H ∧ (dueE K m d e H E ∨ (due3 m d e = none ∧ spTyT K T vs H Q E))
def spIsApX (K : PySem.W.Frag) (T : List Addr) : Sp := fun vs H Q E => ∃ u v x w m d e, vs = [u, v, x, w] ∧ Da K H u m ∧ small m = true ∧ Da K H v d ∧ small d = true ∧ Da K H x e ∧ small e = true ∧ Tb T H ∧ (dueE K m d e H E ∨ (due3 m d e = none ∧ spIsAp K T vs H Q E))
theorem ok_type_textX {f c : Addr} {fd : FuncData} (F : FunC K "type_text" s_type_text f fd c) (B : Bn mg) (D1 : DfE P w K mg base 10 "check_text" ["keymap", "state", "text"] (spChTxX K T)) (D2 : DfP P w K mg base 3 "bound_in" ["keymap", "state"] (spBoundIn K T)) (D3 : DfP P w K mg base 1 "pausing" ["table", "text"] (spPau K)) (D4 : DfP P w K mg base 1 "row_of" ["wait", "parts"] (spRof K)) : FnOk P w K mg base (L2.CX P w) 11 f fd ["keymap", "state", "text"] (spTyTX K T) := by
  refine F.okX scTyT (fun vs H Q E ⟨_, _, _, _, _, _, h, _⟩ => by rw [h]; rfl) (fun A outer s0 H vs Q E hr h => ?_)
  have hu := hu_of hr
  obtain ⟨u0, v0, x0, mm, dd, ee, e0, hm0, sm0, hd0, sd0, he0, se0, hT0, h⟩ := h
  refine ⟨_, pss_cons (ps_expr (pcall D1 (hr.mono (by decide)) (passes_call (takes_of rfl rfl rfl rfl) (fun _ _ _ _ h => h)) rfl (pa_cons (pv 0) (pa_cons (pv 1) (pa_cons (pv 2) pa_nil)))))
    (PSs.nox (pss_cons (ps_asg (pcall D2 (hr.mono (by decide)) pass0 rfl (pa_cons (pv 0) (pa_cons (pv 1) pa_nil))) (pg_name (i := 3) scTyT.nd rfl (Or.inl rfl)))
    (pss_cons (ps_for PassesOwn.never rfl (pi_enumS rfl B.enumerate (pa_cons (pv 2) pa_nil)) (pg_tup rfl (pgs_cons (pg_name (i := 4) scTyT.nd rfl (Or.inl rfl)) (pgs_cons (pg_name (i := 5) scTyT.nd rfl (Or.inl rfl)) pgs_nil)))
      (pss_one (ps_if (pt_cmp (pc_din hu (pv 5) (pv 3))) (pss_one (ps_ret (pe_tup (pa_cons pe_str (pa_cons (pv 4) pa_nil))))) pss_nil)))
    (pss_cons (ps_asg (pcall D3 (hr.mono (by decide)) pass0 rfl (pa_cons (pv 3) (pa_cons (pv 2) pa_nil))) (pg_name (i := 6) scTyT.nd rfl (Or.inl rfl)))
    (pss_cons (ps_setLc (i := 7) (own := [("start", 9), ("keys", 10)]) (g := gTup K 2 (gCons (gName 9) (gCons (gName 10) gNil))) (tt := tYes) rfl scTyT.nd rfl rfl (sw_true rfl rfl rfl (by decide +kernel)) (pi_list (pv 6)) (blkOk_by (N := nTyT) (sc := defScope s_type_text) (by decide +kernel)) (fun _ _ _ _ _ => (pg_tup rfl (pgs_cons (pg_name (i := 9) scTyT.nd rfl (Or.inl rfl)) (pgs_cons (pg_name (i := 10) scTyT.nd rfl (Or.inl rfl)) pgs_nil)))) (fun _ _ _ _ _ => pts_nil) (fun _ _ _ _ _ => (pe_op op_sub (pe_op op_add (pv 9) (pe_callB call_len_str rfl B.len PySem.boot_len (pa_cons (pv 10) pa_nil))) pe_int)))
    (pss_cons (ps_setLc (i := 8) (own := [("cut", 11), ("end", 12)]) (g := gTup K 2 (gCons (gName 11) (gCons (gName 12) gNil))) (tt := tYes) rfl scTyT.nd rfl rfl (sw_true rfl rfl rfl (by decide +kernel)) (pi_zip rfl B.zip (pa_cons (pe_op op_cat (pe_lst (pa_cons pe_int pa_nil)) (pv 7)) (pa_cons (pe_op op_cat (pv 7) (pe_lst (pa_cons (pe_callB call_len_str rfl B.len PySem.boot_len (pa_cons (pv 2) pa_nil)) pa_nil))) pa_nil))) (blkOk_by (N := nTyT) (sc := defScope s_type_text) (by decide +kernel)) (fun _ _ _ _ _ => (pg_tup rfl (pgs_cons (pg_name (i := 11) scTyT.nd rfl (Or.inl rfl)) (pgs_cons (pg_name (i := 12) scTyT.nd rfl (Or.inl rfl)) pgs_nil)))) (fun _ _ _ _ _ => pts_nil) (fun _ _ _ _ _ => (pe_slice sl_str (pv 2) (po_some (pv 11)) (po_some (pv 12)))))
    (pss_one (ps_ret (pe_tup (pa_cons pe_str (pa_cons (pcall D4 (hr.mono (by decide)) pass0 rfl (pa_cons (pe_ix ix_tup (pv 0) pe_int (fun _ _ => rfl)) (pa_cons (pe_lc (own := [("part", 13)]) (g := gName 13) (tt := tYes) rfl scTyT.nd (pi_list (pv 8)) (blkOk_by (N := nTyT) (sc := defScope s_type_text) (by decide +kernel)) (fun _ _ _ _ _ => (pg_name (i := 13) scTyT.nd rfl (Or.inl rfl))) (fun _ _ _ _ _ => pts_nil) (fun _ _ _ _ _ => (pe_tup (pa_cons (pv 13) (pa_cons pe_dnewK pa_nil))))) pa_nil))) (pa_cons (pv 6) pa_nil)))))))))))), ?_⟩
  subst e0
  rcases h with ⟨ei, ec, ed, ex, qe⟩ | ⟨en, h2⟩
  · exact ⟨u0, rfl, v0, rfl, x0, rfl, u0, v0, x0, mm, dd, ee, rfl, hm0, sm0, hd0, sd0, he0, se0, hT0, (fun z => by rw [ed] at z; cases z), fun i' c' z zc H' g => by
      rw [ed] at z
      cases z
      rw [ex] at zc
      cases zc
      exact qe H' g⟩
  obtain ⟨u, v, m, t, o, cd, ly, s, fl, bss, bs, wt, cs, kvs, e1, k, h100, ekv, hw, hl1, hl, qb, qr⟩ := h2
  cases e1
  have small : ∀ n : Nat, n ≤ 10000 → n ≤ sizeLine := fun n hn => Nat.le_trans hn (by decide)
  have xlen : (mkS cs).length = cs.length := mkS_len cs
  refine ⟨_, rfl, _, rfl, _, rfl, _, _, _, mm, dd, ee, rfl, hm0, sm0, hd0, sd0, he0, se0, hT0, fun _ H1 g1 => ?_, fun i' c' z => by rw [en] at z; cases z⟩
  refine ⟨_, rfl, _, rfl, _, _, m, t, o, cd, ly, s, fl, bss, bs, wt, rfl, k.ge g1, h100, fun H2 tb g2 _ htb => ?_⟩
  rw [← ekv] at htb
  have g12 := g1.trans g2
  have k2 := k.ge g12
  dsimp only [gName]
  refine ⟨_, rfl, mkS cs, rfl, ?_⟩
  refine for_it (n := (mkS cs).cps.size) walk_enumS (fun i σ H' => i ≤ cs.length ∧ Ge H2 H' ∧ (∀ j, j < i → inTb kvs (sbS cs j (j + 1)) = false) ∧ ∃ x4 x5, σ = [some u0, some v0, some (.str (mkS cs)), some (.ref tb), x4, x5, none, none, none, none, none, none, none, none])
    ⟨Nat.zero_le _, Ge.refl _, (fun j hj => absurd hj (Nat.not_lt_zero j)), _, _, rfl⟩ (fun _ _ _ _ _ => True.intro) ?_ ?_
  · rintro i y σ H3 H4 hi ⟨_, g3, no, x4, x5, rfl⟩ ⟨t', c', rfl, ht, hc, rfl⟩
    have hc : cs[i]? = some c' := by rw [← List.getElem?_toArray]; exact hc
    have hi' : i < cs.length := (List.getElem?_eq_some_iff.mp hc).1
    have gt := Ge.new (o := .tup [.int (i : Nat), .str (⟨#[c']⟩ : Str)]) ht
    refine ⟨t', _, rfl, Or.inl (Or.inl upd_same), rfl, _, _, rfl, _, _, rfl, rfl, ?_⟩
    refine ⟨_, rfl, _, rfl, tb, _, rfl, DGet.k (k := Sum.inr (⟨#[c']⟩ : Str)) ((g3.trans gt).dk htb), _, rfl, ?_⟩
    rw [← sb_one hc] at gt ⊢
    cases hT : inTb kvs (sbS cs i (i + 1)) with
    | true =>
      have hT' : (valV kvs (Sum.inr (sbS cs i (i + 1)) : Key)).isSome = true := hT
      refine iteTx hT' ?_
      exact ⟨_, rfl, (by decide : 2 ≤ sizeLine), fun a ha => qb _ a i (((g12.trans g3).trans gt).trans (Ge.new ha)) hi' hT no upd_same⟩
    | false =>
      have hT' : (valV kvs (Sum.inr (sbS cs i (i + 1)) : Key)).isSome = false := hT
      refine iteFx hT' ⟨hi', g3.trans gt, fun j hj => ?_, some (.int (i : Nat)), some (.str (sbS cs i (i + 1))), by rw [sb_one hc]; rfl⟩
      rcases Nat.lt_or_ge j i with h | h
      · exact no j h
      · have : j = i := by omega
        rw [this]
        exact hT
  · rintro σ H3 ⟨_, g3, no, x4, x5, rfl⟩
    rw [show (mkS cs).cps.size = cs.length from mkS_len cs] at no
    refine ⟨_, rfl, _, rfl, tb, kvs, cs, rfl, g3.dk htb, hl, fun H4 F xs g4 nwF hF hFd => ?_⟩
    obtain ⟨hch, _⟩ := pz_ch (T := inTb kvs) (cs := cs) cs.length
    have hall := pz_all (T := inTb kvs) (cs := cs) cs.length
    have hlen := pz_len (T := inTb kvs) (cs := cs) cs.length
    have hrow := row_is (T := inTb kvs) (cs := cs) (u := wt + 1) cs.length (Nat.le_refl _)
    generalize eos : (pz (inTb kvs) cs cs.length).1 = os at hch hall hlen hrow hFd
    have lx := daAll_len hFd
    rw [List.length_map, List.length_map] at lx
    dsimp only [gName]
    refine ⟨_, rfl, F, rfl, ⟨xs, SqL.of hF⟩, fun D hD => ?_⟩
    refine lc_list (K := K) (xs := xs) (fun j H' => j ≤ xs.length ∧ Ge H4 H' ∧ H' D = some (.lst (((cutsZ os).take j).map fun c => V.int (c : Nat))))
      ⟨Nat.zero_le _, Ge.new hD, upd_same⟩ (fun j H' _ z => SqL.of (z.2.1.1 F _ hF (fun ps z => by cases z))) ?_ ?_
    · rintro j y H5 hy ⟨_, g5, h5⟩
      have hj : j < xs.length := (List.getElem?_eq_some_iff.mp hy).1
      obtain ⟨d', e1, e2⟩ := daAll_get hFd hy
      rw [List.getElem?_map, List.getElem?_map] at e1
      obtain ⟨oz, e3, rfl⟩ := Option.map_eq_some_iff.mp e1
      obtain ⟨o', e4, rfl⟩ := Option.map_eq_some_iff.mp e3
      obtain ⟨oa, rfl, hoa⟩ := occ_at (g5.da e2)
      have ho := hall o' (List.mem_of_getElem? e4)
      have hsl := sbS_len (cs := cs) (s := o'.1) ho.2.2.1
      refine ⟨oa, _, rfl, Or.inl hoa, rfl, _, _, rfl, _, _, rfl, rfl, ?_⟩
      refine ⟨rfl, _, rfl, _, rfl, sbS cs o'.1 o'.2, rfl, small _ (by omega), _, _, rfl, rfl, _, _, rfl, rfl, _, h5, ?_, hj, Ge.upd g5 hD, ?_⟩
      · rw [List.length_map, List.length_take]
        exact Nat.lt_of_le_of_lt (Nat.min_le_left _ _) (Nat.lt_of_lt_of_le (show j < 1000 by omega) (by decide))
      · have ec : ((o'.1 : Nat) : Int) + ((sbS cs o'.1 o'.2).length : Int) - 1 = ((o'.2 - 1 : Nat) : Int) := by omega
        have et : (cutsZ os).take (j + 1) = (cutsZ os).take j ++ [o'.2 - 1] := by
          rw [List.take_succ]
          unfold cutsZ
          rw [List.getElem?_map, e4]
          rfl
        rw [upd_same, et, List.map_append]
        show _ = some (HO.lst (_ ++ [V.int _]))
        rw [← ec]
        rfl
    · rintro H5 ⟨_, g5, h5⟩
      have etk : (cutsZ os).take xs.length = cutsZ os := List.take_of_length_le (by unfold cutsZ; rw [List.length_map]; omega)
      rw [etk] at h5
      have hF5 := g5.1 F _ hF (fun ps z => by cases z)
      have lcz : (cutsZ os).length = os.length := by unfold cutsZ; rw [List.length_map]
      refine ⟨(by decide : 1 ≤ sizeLine), fun q1 hq1 => ⟨_, rfl, ?_⟩⟩
      have gq1 := Ge.new (o := .lst [.int 0]) hq1
      refine ⟨q1, D, _, _, rfl, rfl, upd_same, gq1.1 D _ h5 (fun ps z => by cases z), small _ (by rw [List.length_map, lcz]; show 1 + _ ≤ _; omega), fun q2 hq2 => ?_⟩
      have gq2 := Ge.new (o := .lst ([V.int 0] ++ (cutsZ os).map fun c => V.int (c : Nat))) hq2
      refine ⟨_, rfl, _, rfl, mkS cs, rfl, small _ (by omega), (by decide : 1 ≤ sizeLine), fun q3 hq3 => ?_⟩
      have gq3 := Ge.new (o := .lst [.int ((mkS cs).length : Nat)]) hq3
      refine ⟨D, q3, _, _, rfl, rfl, (gq1.trans (gq2.trans gq3)).1 D _ h5 (fun ps z => by cases z), upd_same, small _ (by rw [List.length_map, lcz]; show _ + 1 ≤ _; omega), fun q4 hq4 => ?_⟩
      have gq4 := Ge.new (o := .lst (((cutsZ os).map fun c => V.int (c : Nat)) ++ [V.int ((mkS cs).length : Nat)])) hq4
      have hx2 := (gq3.trans gq4).1 q2 _ upd_same (fun ps z => by cases z)
      have hy4 : (upd (upd (upd (upd H5 q1 (.lst [V.int 0])) q2 (.lst ([V.int 0] ++ (cutsZ os).map fun c => V.int (c : Nat)))) q3 (.lst [V.int ((mkS cs).length : Nat)])) q4 (.lst (((cutsZ os).map fun c => V.int (c : Nat)) ++ [V.int ((mkS cs).length : Nat)]))) q4 = some (.lst (((cutsZ os).map fun c => V.int (c : Nat)) ++ [V.int ((mkS cs).length : Nat)])) := upd_same
      have g56 : Ge H5 (upd (upd (upd (upd H5 q1 (.lst [V.int 0])) q2 (.lst ([V.int 0] ++ (cutsZ os).map fun c => V.int (c : Nat)))) q3 (.lst [V.int ((mkS cs).length : Nat)])) q4 (.lst (((cutsZ os).map fun c => V.int (c : Nat)) ++ [V.int ((mkS cs).length : Nat)]))) := (gq1.trans gq2).trans (gq3.trans gq4)
      clear gq1 gq2 gq3 gq4 hq1 hq2 hq3 hq4
      generalize upd (upd (upd (upd H5 q1 (.lst [V.int 0])) q2 (.lst ([V.int 0] ++ (cutsZ os).map fun c => V.int (c : Nat)))) q3 (.lst [V.int ((mkS cs).length : Nat)])) q4 (.lst (((cutsZ os).map fun c => V.int (c : Nat)) ++ [V.int ((mkS cs).length : Nat)])) = H6 at *
      rw [xlen] at hy4
      refine ⟨q2, q4, _, _, rfl, SqL.of hx2, SqL.of hy4, fun D2 hD2 => ?_⟩
      have hps := pairs_ok (n := cs.length) os 0 hch (Nat.zero_le _) (fun o ho => (hall o ho).2.2.1)
      have hpl := pairs_len (cutsZ os) 0 cs.length
      have hpz := pairs_zip (cutsZ os) 0 cs.length
      generalize pairsZ 0 (cutsZ os) cs.length = prs at *
      refine lc_it (n := prs.length) (walk_zip (K := K) (a := q2) (b := q4) (xs := [V.int 0] ++ (cutsZ os).map fun c => V.int (c : Nat)) (ys := ((cutsZ os).map fun c => V.int (c : Nat)) ++ [V.int (cs.length : Nat)]) (by simp; omega)) (fun j H' => j ≤ prs.length ∧ Ge H6 H' ∧ H' D2 = some (.lst ((prs.take j).map fun p => V.str (sbS cs p.1 p.2))))
        ⟨Nat.zero_le _, Ge.new hD2, upd_same⟩ (fun j H' _ z => ⟨SqL.of (z.2.1.1 q2 _ hx2 (fun ps z => by cases z)), SqL.of (z.2.1.1 q4 _ hy4 (fun ps z => by cases z))⟩) ?_ ?_
      · rintro j y H7 H8 hj ⟨_, g7, h7⟩ ⟨Tn, uu, vv, rfl, hTn, rfl, hu', hv'⟩
        have e0 : [V.int 0] ++ (cutsZ os).map (fun c => V.int (c : Nat)) = (0 :: cutsZ os).map fun c => V.int ((c : Nat) : Int) := rfl
        have e1 : (cutsZ os).map (fun c => V.int (c : Nat)) ++ [V.int (cs.length : Nat)] = (cutsZ os ++ [cs.length]).map fun c => V.int ((c : Nat) : Int) := by rw [List.map_append]; rfl
        have hu' : ((0 :: cutsZ os).map fun c => V.int ((c : Nat) : Int))[j]? = some uu := hu'
        have hv' : ((cutsZ os).map (fun c => V.int (c : Nat)) ++ [V.int (cs.length : Nat)])[j]? = some vv := hv'
        rw [List.getElem?_map] at hu'
        rw [e1, List.getElem?_map] at hv'
        obtain ⟨ca, hca, rfl⟩ := Option.map_eq_some_iff.mp hu'
        obtain ⟨ce, hce, rfl⟩ := Option.map_eq_some_iff.mp hv'
        have hpj : prs[j]? = some (ca, ce) := by
          rw [hpz]
          exact List.getElem?_zip_eq_some.mpr ⟨hca, hce⟩
        have hok := hps (ca, ce) (List.mem_of_getElem? hpj)
        have ecut := cut_sb (cs := cs) hok.1 hok.2
        have gT := Ge.new (o := .tup [V.int (ca : Nat), .int (ce : Nat)]) hTn
        refine ⟨Tn, _, rfl, Or.inl (Or.inl upd_same), rfl, _, _, rfl, _, _, rfl, rfl, rfl, ?_⟩
        refine ⟨_, rfl, _, rfl, _, rfl, _, rfl, _, rfl, mkS cs, rfl, small _ (by omega), _, gT.1 D2 _ h7 (fun ps z => by cases z), ?_, hj, Ge.upd (g7.trans gT) hD2, ?_⟩
        · rw [List.length_map, List.length_take]
          exact Nat.lt_of_le_of_lt (Nat.min_le_left _ _) (Nat.lt_of_lt_of_le (show j < 1000 by omega) (by decide))
        · have et : prs.take (j + 1) = prs.take j ++ [(ca, ce)] := by rw [List.take_succ, hpj]; rfl
          rw [upd_same, et, List.map_append, ecut]
          rfl
      · rintro H7 ⟨_, g7, h7⟩
        rw [List.take_length] at h7
        have g67 := g56.trans g7
        have g27 : Ge H2 H7 := ((g3.trans g4).trans g5).trans g67
        have k7 := k2.ge g27
        have em := k7.eu
        subst em
        dsimp only [gName]
        refine ⟨_, rfl, m, _, 4, _, rfl, rfl, SqT.of k7.hm, atI_nat (j := 4) rfl, _, rfl, D2, rfl, ⟨_, SqL.of h7⟩, fun D3 hD3 => ?_⟩
        refine lc_list (K := K) (xs := prs.map fun p => V.str (sbS cs p.1 p.2)) (fun j H' => j ≤ prs.length ∧ Ge H7 H' ∧ ∃ ws, H' D3 = some (.lst ws) ∧ Paired (PartAt H') ws ((prs.take j).map fun p => (cs.drop p.1).take (p.2 - p.1)))
          ⟨Nat.zero_le _, Ge.new hD3, [], upd_same, .nil⟩ (fun j H' _ z => SqL.of (z.2.1.1 D2 _ h7 (fun ps z => by cases z))) ?_ ?_
        · rintro j y H8 hy ⟨_, g8, ws, h8, p8⟩
          rw [List.getElem?_map] at hy
          obtain ⟨pj, hpj, rfl⟩ := Option.map_eq_some_iff.mp hy
          have hj : j < prs.length := (List.getElem?_eq_some_iff.mp hpj).1
          have lw := Paired.length p8
          rw [List.length_map, List.length_take] at lw
          refine ⟨rfl, _, rfl, fun d hd => ⟨(by decide : 2 ≤ sizeLine), fun a ha => ?_⟩⟩
          have gd := Ge.new (o := .dK []) hd
          have ga := Ge.new (o := .tup [.str (sbS cs pj.1 pj.2), .ref d]) ha
          have gda := gd.trans ga
          have h9 := gda.1 D3 _ h8 (fun ps z => by cases z)
          have gl := GeP.set (p := D3) (o := .lst (ws ++ [.ref a])) h9
          refine ⟨ws, h9, Nat.lt_of_le_of_lt (show ws.length ≤ 1000 by omega) (by decide), hj, Ge.upd (g8.trans gda) hD3, ws ++ [.ref a], upd_same, ?_⟩
          have et : prs.take (j + 1) = prs.take j ++ [pj] := by rw [List.take_succ, hpj]; rfl
          rw [et, List.map_append]
          have mv : ∀ {v : V} {ks : List Nat}, PartAt _ v ks → PartAt _ v ks := fun ⟨a', d', q1, q2, q3⟩ => ⟨a', d', q1, gl.1 a' _ (fun z => by rw [z, h9] at q2; cases q2) q2 (fun ps z => by cases z), gl.dk h9 q3⟩
          exact Paired.imp (fun _ _ z => mv z) (paired_snoc (F := PartAt _) (a := .ref a) (b := (cs.drop pj.1).take (pj.2 - pj.1)) ⟨a, d, rfl, upd_same, ga.dk (kvs := []) upd_same⟩ (Paired.imp (fun _ _ z => z.ge gda) p8))
        · rintro H8 ⟨_, g8, ws, h8, p8⟩
          rw [List.length_map, List.take_length] at p8
          have hF8 := (g67.trans g8).1 F _ hF5 (fun ps z => by cases z)
          have hds : (prs.map fun p => (cs.drop p.1).take (p.2 - p.1)).flatten.length ≤ 100 := by
            rw [← rowL_len (u := wt + 1) _ 0, row_key prs 0, hrow, List.length_map]
            unfold rowZ
            rw [List.length_map, List.length_range]
            omega
          refine ⟨wt, D3, ws, _, rfl, h8, p8, hds, fun H9 R us g9 nwR hR9 pR9 => ⟨_, rfl, (by decide : 3 ≤ sizeLine), fun a ha => ?_⟩⟩
          rw [row_key prs 0, hrow] at pR9
          have ga := Ge.new (o := .tup [.str "row", .ref R, .ref F]) ha
          have nRF : R ≠ F := fun z => by
            obtain ⟨ps, e⟩ := nwR.1 _ (z ▸ hF8)
            cases e
          have gall : Ge H H8 := (g12.trans g27).trans g8
          exact qr _ a R F us xs ((gall.trans g9).trans ga) no upd_same (Nw.back gall nwR) (Nw.back (g12.trans g3) nwF) nRF (ga.1 R _ hR9 (fun ps z => by cases z)) (Paired.imp (fun _ _ z => EntAt.ge z ga) pR9) (ga.1 F _ (g9.1 F _ hF8 (fun ps z => by cases z)) (fun ps z => by cases z)) ((g9.trans ga).daAll ((g5.trans (g67.trans g8)).daAll (by rw [eos]; exact hFd)))
theorem ok_is_apartX {f c Pt : Addr} {fd : FuncData} (F : FunC K "is_apart" s_is_apart f fd c) (B : Bn mg) (TB : TabB base mg c Pt) (hPt : Pt ∈ T) (D1 : DfE P w K mg base 10 "check_text" ["keymap", "state", "text"] (spChTxX K T)) (D2 : DfP P w K mg base 3 "bound_in" ["keymap", "state"] (spBoundIn K T)) (D3 : DfP P w K mg base 4 "is_occurrence" ["table", "text", "thing"] (spIsOc K T)) (D4 : DfP P w K mg base 1 "is_ascending" ["things"] (spIsAs K)) (D5 : DfP P w K mg base 1 "are_apart" ["occurrences"] (spArAp K)) : FnOk P w K mg base (L2.CX P w) 12 f fd ["keymap", "state", "text", "thing"] (spIsApX K T) := by
  refine F.okX scIsAp (fun vs H Q E ⟨_, _, _, _, _, _, _, h, _⟩ => by rw [h]; rfl) (fun A outer s0 H vs Q E hr h => ?_)
  obtain ⟨u0, v0, x0, w0, mm, dd, ee, e0, hm0, sm0, hd0, sd0, he0, se0, hT0, h⟩ := h
  refine ⟨_, pss_cons (ps_expr (pcall D1 (hr.mono (by decide)) (passes_call (takes_of rfl rfl rfl rfl) (fun _ _ _ _ h => h)) rfl (pa_cons (pv 0) (pa_cons (pv 1) (pa_cons (pv 2) pa_nil)))))
    (PSs.nox (pss_cons (ps_asg (pcall D2 (hr.mono (by decide)) pass0 rfl (pa_cons (pv 0) (pa_cons (pv 1) pa_nil))) (pg_name (i := 4) scIsAp.nd rfl (Or.inr rfl)))
    (pss_cons (ps_if (PW.pt (pw_or (pt_not (pt_val (pe_isi (pv 3) rfl B.isinstance rfl B.list bt_list))) (pw_or1 (pt_not (pt_val (pe_allX (k := 10) (own := [("one", 5)]) hr rfl B.all TB rfl scIsAp.nd (gxs (N := nIsAp) (sc := defScope s_is_apart) (by decide +kernel) rfl (by decide +kernel) rfl) (pi_list (pv 3)) (fun _ _ _ _ _ _ _ _ _ => pg_name (i := 5) scIsAp.nd rfl (Or.inl rfl)) (fun _ _ _ _ _ _ _ _ _ => pts_nil) (fun _ _ _ _ _ _ _ _ r => pcall D3 (r.mono (by decide)) pass0 rfl (pa_cons (pv 4) (pa_cons (pv 2) (pa_cons (pv 5) pa_nil)))))))))) (pss_one (ps_ret pe_bl)) pss_nil)
    (pss_one (ps_ret (pe_and (pcall D4 (hr.mono (by decide)) pass0 rfl (pa_cons (pv 3) pa_nil)) (pe_one (pcall D5 (hr.mono (by decide)) pass0 rfl (pa_cons (pv 3) pa_nil))))))))), ?_⟩
  subst e0
  rcases h with ⟨ei, ec, ed, ex, qe⟩ | ⟨en, h2⟩
  · exact ⟨u0, rfl, v0, rfl, x0, rfl, u0, v0, x0, mm, dd, ee, rfl, hm0, sm0, hd0, sd0, he0, se0, hT0, (fun z => by rw [ed] at z; cases z), fun i' c' z zc H' g => by
      rw [ed] at z
      cases z
      rw [ex] at zc
      cases zc
      exact qe H' g⟩
  obtain ⟨u, v, m, t, o, cd, ly, s, fl, bss, bs, wt, x, w, d, e1, k, h100, hw, hx, hd, ask, q⟩ := h2
  cases e1
  refine ⟨_, rfl, _, rfl, _, rfl, _, _, _, mm, dd, ee, rfl, hm0, sm0, hd0, sd0, he0, se0, hT0, fun _ H1 g1 => ?_, fun i' c' z => by rw [en] at z; cases z⟩
  refine ⟨_, rfl, _, rfl, _, _, m, t, o, cd, ly, s, fl, bss, bs, wt, rfl, k.ge g1, h100, fun H2 tb g2 _ htb => ?_⟩
  have g12 := g1.trans g2
  refine rd_tIsi rfl (g12.da hd) ⟨_, rfl, ?_⟩
  cases ty : isTy "list" d with
  | false =>
    have z := q H2 g12
    have e1 : apartB (boundK (factsK fl bs) bss) x d = false := by
      cases d <;> first | rfl | simp [isTy, tyName] at ty
    rw [e1] at z
    exact iteT (iteT z)
  | true =>
    obtain ⟨ds, rfl⟩ := isTy_list ty
    have hd2 := g12.da hd
    cases hd2 with
    | @lst a xs _ ha hda =>
      obtain ⟨ask1, ask2⟩ := ask
      have hT := g12.tb k.tb
      refine iteF ?_
      refine rd_allL (occB (boundK (factsK fl bs) bss) x) rfl ha hda (hT Pt hPt) (fun _ => rfl) (fun y d' H' hm g hd' R hR => ⟨_, rfl, _, rfl, _, rfl, tb, x, y, d', _, rfl, g.dk htb, hx, hd', ask2 d' hm, g.tb hT, hR⟩) fun H3 g3 => ⟨_, rfl, ?_⟩
      have q' : ∀ H', Ge H H' → Q (.bl (ds.all (occB (boundK (factsK fl bs) bss) x) && (ascO (ds.map toOcc) && apartI 0 (ds.map toOcc)))) H' := q
      cases e1 : ds.all (occB (boundK (factsK fl bs) bss) x) with
      | false =>
        have z := q' H3 (g12.trans g3)
        rw [e1] at z
        exact iteT z
      | true =>
        rw [e1, Bool.true_and] at q'
        have eo := occ_to e1
        have hda3 : DaAll K H3 xs ((ds.map toOcc).map occD) := by rw [← eo]; exact g3.daAll hda
        have l100 : ∀ o ∈ ds.map toOcc, o.2.length ≤ 100 := fun o ho => by
          obtain ⟨d', hd', rfl⟩ := List.mem_map.mp ho
          obtain ⟨i, y, rfl, _, _, hk, _⟩ := occ_shape (List.all_eq_true.mp e1 d' hd')
          exact Nat.le_trans (keys_len hk) (by decide)
        have hL3 : SqL K H3 a xs := Or.inl (g3.rd (fun ps z => by cases z) ha)
        refine iteF ⟨_, rfl, a, xs, ds.map toOcc, rfl, hL3, hda3, fun H4 g4 => ?_⟩
        cases e2 : ascO (ds.map toOcc) with
        | false =>
          have z := q' H4 ((g12.trans g3).trans g4)
          rw [e2] at z
          exact ⟨_, rfl, iteF z⟩
        | true =>
          rw [e2, Bool.true_and] at q'
          exact ⟨_, rfl, iteT ⟨_, rfl, a, xs, ds.map toOcc, rfl, g4.sqL hL3, g4.daAll hda3, l100, fun H5 g5 => q' H5 (((g12.trans g3).trans g4).trans g5)⟩⟩
end
end Pr
set_option maxRecDepth 100000
set_option maxHeartbeats 4000000
/-! the law: how a function refuses -/
namespace Pr
open PySem PySem.Spec PyProof.Rows L2 GxR Gx Rp Dl Pd Tx Zq Zs Zt Zd
section
variable {X : Cx} {CX : CXT} {k : Nat} {x : Str} {ps : List Str} {sp : Sp} {e : Expr} {es : List Expr} {t : TA} {E : L2.St → XK} {p pos : Pos}
theorem pcallS (D : Df X.prog X.w X.K X.mg X.base CX k x ps sp) (hr : Room k X.A) (hx : ∀ σ, PassesAt CX X σ (E σ)) (hg : Gl X x) (ha : PA X (e :: es) t) (hdb : (x == ("__debug__" : Str)) = false := by decide)
    (he : starEach (e :: es) X.env = (false, eval e X.env) :: starEach es X.env := by rfl) (hpl : (backTo pos (starEach es X.env)).any (·.1) = false := by rfl) : PE X (.Call (.Name x p) (e :: es) [] pos) (tCallS sp E t) := by
  obtain ⟨f, fd, hm, hk, hb, F⟩ := D.ex
  exact pe_callS F hr hg hm hk hb hx ha hdb he hpl
end
structure DoorK (K : PySem.W.Frag) (mg : Str → Option Value) : Prop where
  kw : mg "KeywaitError" = some (.ref (He.ga K "KeywaitError"))
  ex : ∀ c ∈ EXC, PySem.W.exmOne K (.ref (He.ga K c)) (.ref (He.ga K "KeywaitError")) = some true
theorem iteTn {c : Bool} {a b : Prop} (h : c = true) (ha : a) : if c = true then a else b := by rw [if_pos h]; exact ha
def dueW (m d e : PyData) : V := match due3 m d e with
  | some 0 => .str "map"
  | some 1 => .str "state"
  | some 2 => .str "keys"
  | _ => .non
theorem due_lt {m d e : PyData} {i : Nat} (h : due3 m d e = some i) : i = 0 ∨ i = 1 ∨ i = 2 := by
  unfold due3 due2 at h
  by_cases h1 : isMap m = true
  · by_cases h2 : fitsState (lenT (flagsOf m)) d = true
    · rw [if_pos h1, if_pos h2] at h
      by_cases h3 : isWord 40 e = true
      · simp only [h3, if_true] at h
        cases h
      · simp only [h3] at h
        cases h
        exact Or.inr (Or.inr rfl)
    · rw [if_pos h1, if_neg h2] at h
      cases h
      exact Or.inr (Or.inl rfl)
  · rw [if_neg h1] at h
    cases h
    exact Or.inl rfl
section
variable {P : Program} {w : World} {K : PySem.W.Frag} {mg : Str → Option Value} {base : Heap} {T : List Addr}
def spDoo (K : PySem.W.Frag) (T : List Addr) : Sp := fun vs H Q _ => ∃ (way : Int) (u v x w : V) (m d e t : PyData), vs = [.int way, u, v, x, w] ∧ Da K H u m ∧ small m = true ∧ Da K H v d ∧ small d = true ∧ Da K H x e ∧ small e = true ∧ Da K H w t ∧ AskL t ∧ Tb T H ∧
  (due3 m d e = none → ∃ m t o cd ly s fl bss bs wt, ∃ cs : List Nat, x = .str (mkS cs) ∧ KS K T H u v m t o cd ly s fl bss bs wt ∧ bss.flatten.length ≤ 100 ∧ isWord 40 (.str (mkS cs)) = true ∧ 1 ≤ cs.length ∧ cs.length ≤ 40) ∧ ∀ H', Ge H H' → Q (dueW m d e) H'
abbrev nDoo : List Str := ["_law_way", "_law_keymap", "_law_state", "_law_text", "_law_thing", "_law_caught_here", "_law_told", "e"]
theorem scDoo : FnScope nDoo ["_law_way", "_law_keymap", "_law_state", "_law_text", "_law_thing"] (defScope s_law_door) := ⟨rfl, rfl, rfl, by decide +kernel, rfl, by decide +kernel, by decide +kernel⟩
theorem ok_law_door {f c : Addr} {fd : FuncData} (F : FunC K "_law_door" s_law_door f fd c) (DK : DoorK K mg) (Dt : DfE P w K mg base 11 "type_text" ["keymap", "state", "text"] (spTyTX K T)) (Da : DfE P w K mg base 12 "is_apart" ["keymap", "state", "text", "thing"] (spIsApX K T)) (Dc : DfP P w K mg base 1 "_law_caught" ["_law_caught_here"] (spCau K)) : FnOk P w K mg base CX0 13 f fd ["_law_way", "_law_keymap", "_law_state", "_law_text", "_law_thing"] (spDoo K T) := by
  refine F.ok scDoo (fun vs H Q E ⟨_, _, _, _, _, _, _, _, _, h, _⟩ => by rw [h]; rfl) (fun A outer s0 H vs Q E hr h => ?_)
  obtain ⟨way, u, v, x, w, m, d, e, t, rfl, hm, sm, hd, sd, he, se, hw, ask, hT, ok, q⟩ := h
  refine ⟨_, pss_cons (ps_asg pe_non (pg_name (i := 5) scDoo.nd rfl (Or.inl rfl)))
    (pss_cons (ps_try_keep (i := 7) rfl rfl rfl scDoo.nd rfl rfl ⟨rfl, by decide, .inl DK.kw⟩ takes0
      (fun W pn xe tk _ => pss_one (ps_asg (pe_ifExp (pt_cmpR op_eq (pv 0) pe_int (nomark _)) (pcallS Dt (hr.mono (by decide)) (fun σ => passAt tk σ) rfl (pa_cons (pv 1) (pa_cons (pv 2) (pa_cons (pv 3) pa_nil)))) (pcallS Da (hr.mono (by decide)) (fun σ => passAt tk σ) rfl (pa_cons (pv 1) (pa_cons (pv 2) (pa_cons (pv 3) (pa_cons (pv 4) pa_nil)))))) (pg_name (i := 6) scDoo.nd rfl (Or.inl rfl))))
      (fun a oe k d qs _ _ => pss_one (ps_asg (pv 7) (pg_name (i := 5) scDoo.nd rfl (Or.inl rfl)))))
    (pss_one (ps_ret (pe_ifExp (pt_cmp (pc_isN (pv 5))) pe_non (pcall Dc (hr.mono (by decide)) pass0 rfl (pa_cons (pv 5) pa_nil)))))), ?_⟩
  have names : ∀ i, due3 m d e = some i → ∃ c y, EXC[i]? = some c ∧ WRD[i]? = some y ∧ c ∈ EXC ∧ dueW m d e = .str y := fun i hi => by
    unfold dueW
    rw [hi]
    rcases due_lt hi with rfl | rfl | rfl
    · exact ⟨"NoMap", "map", rfl, rfl, by decide +kernel, rfl⟩
    · exact ⟨"NoState", "state", rfl, rfl, by decide +kernel, rfl⟩
    · exact ⟨"NoKeys", "keys", rfl, rfl, by decide +kernel, rfl⟩
  refine ⟨_, rfl, rfl, _, rfl, ?_⟩
  by_cases hway : V.int way = V.int 0
  · rw [decide_eq_true hway]
    refine iteT ?_
    refine ⟨_, rfl, _, rfl, _, rfl, u, v, x, m, d, e, rfl, hm, sm, hd, sd, he, se, hT, ?_⟩
    cases hdue : due3 m d e with
    | some i =>
      obtain ⟨c, y, hc, hy, hmem, hdw⟩ := names i hdue
      refine Or.inl ⟨i, c, hdue, hc, fun H1 g1 => ⟨true, DK.ex c hmem, fun _ a na => ?_, fun z => by cases z⟩⟩
      have gE := g1.trans (Ge.new (o := ErrO (.ref (He.ga K c)) none a) na)
      refine ⟨_, rfl, ?_⟩
      refine ⟨_, rfl, _, rfl, ?_⟩
      rw [decide_eq_false (fun z => by cases z)]
      refine iteF ⟨_, rfl, a, i, c, y, rfl, hc, hy, upd_same, fun H2 g2 => ?_⟩
      have z := q H2 (gE.trans g2)
      rw [hdw] at z
      exact z
    | none =>
      have q0 : ∀ H', Ge H H' → Q .non H' := fun H' g => by
        have z := q H' g
        unfold dueW at z
        rw [hdue] at z
        exact z
      obtain ⟨m0, t0, o, cd, ly, s, fl, bss, bs, wt, cs, rfl, k, h100, hw40, c1, c40⟩ := ok hdue
      refine Or.inr ⟨rfl, u, v, m0, t0, o, cd, ly, s, fl, bss, bs, wt, cs, _, rfl, k, h100, rfl, hw40, c1, c40, ?_, ?_⟩
      · intro H1 a9 k9 g1 _ _ _ _
        refine ⟨_, rfl, _, rfl, ?_⟩
        exact iteTn (by decide) (q0 H1 g1)
      · intro H1 a9 R9 F9 us9 xs9 g1 _ _ _ _ _ _ _ _ _
        refine ⟨_, rfl, _, rfl, ?_⟩
        exact iteTn (by decide) (q0 H1 g1)
  · rw [decide_eq_false hway]
    refine iteF ?_
    refine ⟨_, rfl, _, rfl, _, rfl, _, rfl, u, v, x, w, m, d, e, rfl, hm, sm, hd, sd, he, se, hT, ?_⟩
    cases hdue : due3 m d e with
    | some i =>
      obtain ⟨c, y, hc, hy, hmem, hdw⟩ := names i hdue
      refine Or.inl ⟨i, c, hdue, hc, fun H1 g1 => ⟨true, DK.ex c hmem, fun _ a na => ?_, fun z => by cases z⟩⟩
      have gE := g1.trans (Ge.new (o := ErrO (.ref (He.ga K c)) none a) na)
      refine ⟨_, rfl, ?_⟩
      refine ⟨_, rfl, _, rfl, ?_⟩
      rw [decide_eq_false (fun z => by cases z)]
      refine iteF ⟨_, rfl, a, i, c, y, rfl, hc, hy, upd_same, fun H2 g2 => ?_⟩
      have z := q H2 (gE.trans g2)
      rw [hdw] at z
      exact z
    | none =>
      have q0 : ∀ H', Ge H H' → Q .non H' := fun H' g => by
        have z := q H' g
        unfold dueW at z
        rw [hdue] at z
        exact z
      obtain ⟨m0, t0, o, cd, ly, s, fl, bss, bs, wt, cs, rfl, k, h100, hw40, c1, c40⟩ := ok hdue
      refine Or.inr ⟨rfl, u, v, m0, t0, o, cd, ly, s, fl, bss, bs, wt, mkS cs, w, t, rfl, k, h100, hw40, by rw [mkS_len]; omega, hw, ask, fun H1 g1 => ?_⟩
      refine ⟨_, rfl, _, rfl, ?_⟩
      exact iteTn (by decide) (q0 H1 g1)
end
end Pr
set_option maxRecDepth 100000
set_option maxHeartbeats 4000000
/-! what the law knows of a keymap that it drew -/
namespace Pr
open PySem PySem.Spec PyProof.Rows L2 GxR Gx Rp Dl Pd Tx Zq
section
variable {K : PySem.W.Frag} {H : Hp}
theorem map_x {v : V} (mh : MapH H v) : ∃ m t o cd ly fl ns bss wt cks eks d, v = .ref m ∧ MapK K H m t o cd ly fl ns bss wt cks eks d ∧ (∀ f ∈ fl, f ∈ FLAGS) ∧ ∀ q ∈ cks, ∃ n v, q = (Sum.inr n, v) ∧ n ∈ ns := by
  obtain ⟨d, hd, hm⟩ := map_da (K := K) mh
  obtain ⟨m, t, o, cd, ly, fl, ol, ns, ks, i, rfl, em, et, _, s1, _, s3, ⟨cks, c1, c2, c3, _, _⟩, _, _, hly, _, k4, kc, hk⟩ := mh
  obtain ⟨bss, h1, h2, h3⟩ := lays_at ks hk
  obtain ⟨a1, a2⟩ := cmd_at c1 c2 c3 s3
  have l3 : fl.length ≤ 3 := s1.length_le
  refine ⟨m, t, o, cd, ly, fl, ns, bss, i, cks, eksOf H cks, d, rfl, ⟨em, et, (by decide : FLAGS.Nodup).sublist s1, l3, ⟨_, hly, h1⟩, hd, hm, flag_len hd em et, c1, a1, fun n c z => Nat.le_trans (a2 n c z) l3, h2, ?_, ?_, s3⟩, fun f hf => s1.subset hf, fun q hq => ?_⟩
  · have z := Paired.length h1
    rw [List.length_map] at z
    omega
  · rw [List.length_flatten, h3]
    exact kc
  · obtain ⟨n, v, e, hn, _⟩ := c3 q hq
    exact ⟨n, v, e, hn⟩
theorem daAll_strs : ∀ {fl : List Str} {ds : List PyData}, DaAll K H (fl.map V.str) ds → ds = fl.map PyData.str
  | [], _, h => by cases h; rfl
  | b :: r, _, h => by
    cases h with
    | cons h1 h2 =>
      cases h1
      rw [daAll_strs h2]
      rfl
theorem memS_no : ∀ {fl : List Str} {s : Str}, s ∉ fl → memS (fl.map PyData.str) (.str s) = false
  | [], _, _ => rfl
  | f :: r, s, h => by
    show ((f == s) || memS (r.map PyData.str) (.str s)) = false
    rw [memS_no (fun z => h (List.mem_cons_of_mem _ z)), Bool.or_false]
    exact beq_eq_false_iff_ne.mpr fun z => h (by rw [z]; exact List.mem_cons_self)
theorem sw_flag : ∀ f ∈ FLAGS, Sw (.str f) 60 0 := by
  intro f hf
  have z : ∀ f ∈ FLAGS, swB 60 0 (.str f) = true := by decide +kernel
  exact sw_cl (z f hf)
theorem swA_flags : ∀ {fl : List Str}, (∀ f ∈ fl, f ∈ FLAGS) → SwA (fl.map PyData.str) (62 * fl.length) 0
  | [], _ => sw_nil
  | f :: r, h => by
    have q := swA_flags (fl := r) fun x hx => h x (List.mem_cons_of_mem _ hx)
    have z := sw_cons (sw_flag f (h f List.mem_cons_self)) q
    exact ⟨z.s, Nat.le_trans z.p (by rw [List.length_cons]; omega), Nat.le_trans z.d (by decide), z.m⟩
theorem km_parts {m t o cd ly : Addr} {fl ns : List Str} {bss : List (List BI)} {wt : Int} {cks : List (Key × V)} {eks : Str → List (Key × V)} {d : PyData} (k : MapK K H m t o cd ly fl ns bss wt cks eks d) (ff : ∀ f ∈ fl, f ∈ FLAGS) (cn : ∀ q ∈ cks, ∃ n v, q = (Sum.inr n, v) ∧ n ∈ ns) :
    ∃ (do_ dc dl dw : PyData) (nf no nc nl nw : Nat), d = .tuple [.tuple (fl.map PyData.str), do_, dc, dl, dw] ∧ noL (.tuple (fl.map PyData.str)) = true ∧ noL do_ = true ∧ noL dc = true ∧ noL dl = true ∧ noL dw = true ∧ Da K H (.ref t) (.tuple (fl.map PyData.str)) ∧ Da K H (.ref o) do_ ∧ Da K H (.ref cd) dc ∧ Da K H (.ref ly) dl ∧ Da K H (.int wt) dw ∧
      Sw (.tuple (fl.map PyData.str)) nf 9 ∧ Sw do_ no 9 ∧ Sw dc nc 9 ∧ Sw dl nl 9 ∧ Sw dw nw 9 ∧ nf + no + nc + nl + nw ≤ 2000000 ∧ memS (fl.map PyData.str) (.str "zz") = false ∧ memC (itemsD dc) (.str "zz") = false ∧ SwA (fl.map PyData.str) 250 8 := by
  obtain ⟨mp, f1, f2, f3, f4⟩ := k.dm
  obtain ⟨a0, xs0, e0, h1, h2⟩ : ∃ a xs, (V.ref m) = .ref a ∧ (∃ ds, d = .tuple ds ∧ Rd H a (.tup xs) ∧ DaAll K H xs ds) ∧ True := by
    have z := k.da
    cases z with
    | tup h1 h2 => exact ⟨_, _, rfl, ⟨_, rfl, h1, h2⟩, trivial⟩
    | lst h1 _ => have e := rd_one (fun o w z => by cases z) (fun o w z => by cases z) h1 (Or.inl k.hm); cases e
    | dct h1 _ _ => have e := rd_one (fun o w z => by cases z) (fun o w z => by cases z) h1 (Or.inl k.hm); cases e
  cases e0
  obtain ⟨ds, rfl, hr, hd⟩ := h1
  have e := rd_one (fun o w z => by cases z) (fun o w z => by cases z) hr (Or.inl k.hm)
  have e : xs0 = [.ref t, .ref o, .ref cd, .ref ly, .int wt] := by injection e
  subst e
  cases hd with
  | @cons _ _ d1 _ q1 hd =>
  cases hd with
  | @cons _ _ d2 _ q2 hd =>
  cases hd with
  | @cons _ _ d3 _ q3 hd =>
  cases hd with
  | @cons _ _ d4 _ q4 hd =>
  cases hd with
  | @cons _ _ d5 _ q5 hd =>
  cases hd
  have e1 : d1 = .tuple (fl.map PyData.str) := by
    cases q1 with
    | tup h1 h2 =>
      have e := rd_one (fun o w z => by cases z) (fun o w z => by cases z) h1 k.ht
      have e := HO.tup.inj e
      subst e
      rw [daAll_strs h2]
    | lst h1 _ => have e := rd_one (fun o w z => by cases z) (fun o w z => by cases z) h1 k.ht; cases e
    | dct h1 _ _ => have e := rd_one (fun o w z => by cases z) (fun o w z => by cases z) h1 k.ht; cases e
  subst e1
  have okk : okD (.tuple (fl.map PyData.str)) = true ∧ okD d2 = true ∧ okD d3 = true ∧ okD d4 = true ∧ okD d5 = true := by
    have z := f1
    simp only [okD, okAll, Bool.and_eq_true] at z ⊢
    exact ⟨z.2.1, z.2.2.1, z.2.2.2.1, z.2.2.2.2.1, z.2.2.2.2.2.1⟩
  have nn : noL (.tuple (fl.map PyData.str)) = true ∧ noL d2 = true ∧ noL d3 = true ∧ noL d4 = true ∧ noL d5 = true := by
    have z := f2
    simp only [noL, noLAll, Bool.and_eq_true] at z ⊢
    exact ⟨z.1, z.2.1, z.2.2.1, z.2.2.2.1, z.2.2.2.2.1⟩
  have dd := f4
  simp only [PyData.depth, PyData.depthAll] at dd
  have ww := f3
  simp only [wgt, wgtAll] at ww
  refine ⟨d2, d3, d4, d5, wgt (.tuple (fl.map PyData.str)), wgt d2, wgt d3, wgt d4, wgt d5, rfl, nn.1, nn.2.1, nn.2.2.1, nn.2.2.2.1, nn.2.2.2.2, q1, q2, q3, q4, q5, sw_ok okk.1 (by simp only [PyData.depth]; omega), sw_ok okk.2.1 (by omega), sw_ok okk.2.2.1 (by omega), sw_ok okk.2.2.2.1 (by omega), sw_ok okk.2.2.2.2 (by omega), by simp only [wgt]; omega, memS_no fun z => ?_, ?_, ?_⟩
  · exact absurd (ff _ z) (by decide +kernel)
  · cases q3 with
    | dct h1 _ h3 =>
      have e := rd_one (fun o w z => by cases z) (fun o w z => by cases z) h1 (Or.inl k.hcd)
      have e := HO.dK.inj e
      rw [e] at h3
      have e9 := in_keys h3 "zz"
      refine Eq.trans e9.symm ?_
      cases hv : valV cks (Sum.inr ("zz" : Str) : Key) with
      | none => rfl
      | some u =>
        have hin : (Sum.inr ("zz" : Str) : Key) ∈ cks.map (·.1) := L2.valV_in hv
        obtain ⟨q, hq, e⟩ := List.mem_map.mp hin
        obtain ⟨n, v, rfl, hn⟩ := cn q hq
        have e3 : (Sum.inr n : Key) = (Sum.inr ("zz" : Str) : Key) := e
        have e2 : n = ("zz" : Str) := Sum.inr.inj e3
        rw [e2] at hn
        exact absurd (k.sn.subset hn) (by decide +kernel)
    | tup h1 h2 => have e := rd_one (fun o w z => by cases z) (fun o w z => by cases z) h1 (Or.inl k.hcd); cases e
    | lst h1 _ => have e := rd_one (fun o w z => by cases z) (fun o w z => by cases z) h1 (Or.inl k.hcd); cases e
  · have z := swA_flags ff
    have := k.l3
    exact ⟨z.s, Nat.le_trans z.p (by omega), Nat.le_trans z.d (by decide), z.m⟩
end
end Pr
set_option maxRecDepth 100000
set_option maxHeartbeats 2000000
/-! text * number; texts put together, told just as they are -/
namespace Pr
open PySem PySem.Spec PyProof.Rows L2 GxR Gx Rp Dl Pd Tx
def repZ (z : Str) (n : Nat) : Str := ⟨(List.replicate n z.cps).foldl (· ++ ·) #[]⟩
section
variable {X : Cx}
def rMulZ : R2 := fun x y H Q => ∃ (z : Str) (n : Nat), x = .str z ∧ y = .int (n : Nat) ∧ 2 ≤ n ∧ n ≤ 1000 ∧ 1 ≤ z.length ∧ z.length ≤ 1000 ∧ (repZ z n).length ≤ 100000 ∧ Q (.str (repZ z n)) H
theorem op_mulZ : OpR X (binaryOp .Mult) rMulZ := by
  rintro pins s σ H x y v u Q I rx ry ⟨z, n, rfl, rfl, h1, h2, h3, h4, h5, q⟩
  obtain ⟨t, rfl⟩ := rx
  obtain ⟨t', rfl⟩ := ry
  have e2 : (((n : Nat) : Int) == 1 || z.length == 0) = false := by
    rw [Bool.or_eq_false_iff]
    exact ⟨beq_eq_false_iff_ne.mpr (by omega), beq_eq_false_iff_ne.mpr (by omega)⟩
  refine P.mul_str ?_ (fun _ _ => ?_) (fun _ _ => ?_) ?_
  · rw [decide_eq_false (by omega), decide_eq_false (by omega)]
    rfl
  · intro hh
    have : (2 ^ 63 - 1 : Int) / (n : Nat) ≥ 1000 := by
      rw [ge_iff_le, Int.le_ediv_iff_mul_le (by omega)]
      omega
    omega
  · have : z.length * n ≤ 1000 * 1000 := Nat.mul_le_mul h4 h2
    have e : (((n : Nat) : Int)).toNat = n := rfl
    rw [e]
    refine decide_eq_false ?_
    have e2 : sizeLine = 16777216 := by decide
    omega
  · rw [if_neg (by omega), if_neg (by rw [e2]; exact Bool.false_ne_true)]
    exact ⟨Nat.le_trans h5 (by decide), ⟨.str (repZ z n), H, I.tok _, ⟨_, rfl⟩, q⟩⟩
end
section
variable {p cc : Addr} {S : Addr → Prop} {H0 : Hp} {K : PySem.W.Frag} {σ : L2.St} {t1 t2 : TE}
theorem dx_addS {x y : Str} (h1 : DX K p S cc H0 σ t1 (.str x)) (h2 : DX K p S cc H0 σ t2 (.str y)) (hl : x.length + y.length ≤ 1000) : DX K p S cc H0 σ (tOp (fun x y H Q => ∃ i j, x = .str i ∧ y = .str j ∧ i.length + j.length ≤ sizeLine ∧ Q (.str (i ++ j)) H) t1 t2) (.str (x ++ y)) := fun H a Q g hp ha q =>
  h1 H a _ g hp ha fun v e H1 g1 hp1 hd1 z1 => h2 H1 a _ (g.trans g1) hp1 ha fun u f H2 g2 hp2 hd2 z2 => by
    have z1 : e = .str x := z1
    have z2 : f = .str y := z2
    subst z1 z2
    cases hd1
    cases hd2
    exact ⟨x, y, rfl, rfl, Nat.le_trans hl (by decide), q (.str (x ++ y)) (.str (x ++ y)) H2 (g1.trans g2) hp2 (.str _) rfl⟩
theorem dx_mulZ {x : Str} {n : Nat} (h1 : DX K p S cc H0 σ t1 (.str x)) (a1 : 2 ≤ n) (a2 : n ≤ 1000) (a3 : 1 ≤ x.length) (a4 : x.length ≤ 1000) (a5 : (repZ x n).length ≤ 100000) : DX K p S cc H0 σ (tOp rMulZ t1 (tC (.int (n : Nat)))) (.str (repZ x n)) := fun H a Q g hp ha q =>
  h1 H a _ g hp ha fun v e H1 g1 hp1 hd1 z1 => by
    have z1 : e = .str x := z1
    subst z1
    cases hd1
    exact ⟨x, n, rfl, rfl, a1, a2, a3, a4, a5, q (.str _) (.str _) H1 g1 hp1 (.str _) rfl⟩
theorem cps_cat (x y : Str) : (x ++ y).cps.toList = x.cps.toList ++ y.cps.toList := by
  show (x.cps ++ y.cps).toList = _
  rw [Array.toList_append]
theorem word_bad {x : Str} {c : Nat} {m : Int} (hc : c ∈ x.cps.toList) (h : ¬ (97 ≤ c ∧ c ≤ 122)) : isWord m (.str x) = false := by
  have hl : letters x = false := by
    cases e : letters x with
    | false => rfl
    | true =>
      have z := List.all_eq_true.mp e c hc
      rw [Bool.and_eq_true] at z
      exact absurd ⟨of_decide_eq_true z.1, of_decide_eq_true z.2⟩ h
  show (_ && _ && letters x) = false
  rw [hl, Bool.and_false]
theorem sw_str {x : Str} {n : Nat} (h : ∀ c ∈ x.cps.toList, c < 128) (hl : x.length ≤ n) (hn : n ≤ 100000) : Sw (.str x) (10 * n + 2) 0 := ⟨sz_str h hl, decide_eq_true (Nat.le_trans hl hn)⟩
end
end Pr
set_option maxRecDepth 100000
set_option maxHeartbeats 4000000
/-! the law of k53: what is due; the texts and things that it draws -/
namespace Pr
open PySem PySem.Spec PyProof.Rows L2 GxR Gx Rp Dl Pd Tx
def dueB (b0 b1 b2 : Bool) : V := if b0 then .str "map" else if b1 then .str "state" else if b2 then .str "keys" else .non
theorem due_eq {m d e : PyData} {n : Nat} {b0 b1 b2 : Bool} (h0 : isMap m = !b0) (h1 : b0 = false → lenT (flagsOf m) = n) (h2 : fitsState n d = !b1) (h3 : isWord 40 e = !b2) : dueW m d e = dueB b0 b1 b2 ∧ (due3 m d e = none → b0 = false ∧ b1 = false ∧ b2 = false) := by
  cases b0 with
  | true =>
    have h0 : isMap m = false := h0
    have e3 : due3 m d e = some 0 := by simp [due3, due2, h0]
    exact ⟨by unfold dueW; rw [e3]; rfl, fun z => by rw [e3] at z; cases z⟩
  | false =>
    have h0 : isMap m = true := h0
    rw [← h1 rfl] at h2
    cases b1 with
    | true =>
      have h2 : fitsState (lenT (flagsOf m)) d = false := h2
      have e3 : due3 m d e = some 1 := by simp [due3, due2, h0, h2]
      exact ⟨by unfold dueW; rw [e3]; rfl, fun z => by rw [e3] at z; cases z⟩
    | false =>
      have h2 : fitsState (lenT (flagsOf m)) d = true := h2
      cases b2 with
      | true =>
        have h3 : isWord 40 e = false := h3
        have e3 : due3 m d e = some 2 := by simp [due3, due2, h0, h2, h3]
        exact ⟨by unfold dueW; rw [e3]; rfl, fun z => by rw [e3] at z; cases z⟩
      | false =>
        have h3 : isWord 40 e = true := h3
        have e3 : due3 m d e = none := by simp [due3, due2, h0, h2, h3]
        exact ⟨by unfold dueW; rw [e3]; rfl, fun _ => ⟨rfl, rfl, rfl⟩⟩
/-- the words of the first j that are wrong -/
def dlB (b0 b1 b2 : Bool) : Nat → List V
  | 0 => []
  | 1 => if b0 then [.str "map"] else []
  | 2 => (if b0 then [.str "map"] else []) ++ if b1 then [.str "state"] else []
  | _ => ((if b0 then [.str "map"] else []) ++ if b1 then [.str "state"] else []) ++ if b2 then [.str "keys"] else []
theorem dl_head (b0 b1 b2 : Bool) : ∃ r, dlB b0 b1 b2 3 ++ [V.non] = dueB b0 b1 b2 :: r := by
  cases b0 <;> cases b1 <;> cases b2 <;> exact ⟨_, rfl⟩
theorem fits_good {bs : List Bool} {n : Nat} (h : bs.length = n) : fitsState n (.tuple (bs.map PyData.bool)) = true := by
  have h1 : ∀ bs : List Bool, (bs.map PyData.bool).all isBoolD = true := fun bs => by
    induction bs with
    | nil => rfl
    | cons b r ih => exact ih
  show (_ && _) = true
  simp [h, h1]
def PX (d : PyData) : Prop := Sw d 500 3 ∧ isWord 40 d = false
def PTh (d : PyData) : Prop := Sw d 100 3 ∧ AskL d
theorem good_cl {d : PyData} (h : swB 100 3 d = true) (h2 : AskL d) : PTh d := ⟨sw_cl h, h2⟩
theorem px_cl {d : PyData} (h : swB 500 3 d = true) (h2 : isWord 40 d = false) : PX d := ⟨sw_cl h, h2⟩
theorem px_sign {x : Str} {c : Nat} (hx : ∀ e ∈ x.cps.toList, e < 128) (hl : x.length ≤ 3) (hc : c ∈ x.cps.toList) (h : ¬ (97 ≤ c ∧ c ≤ 122)) : PX (.str x) := ⟨(sw_str hx hl (by decide)).mono (by decide) (by decide), word_bad hc h⟩
section
variable {p cc : Addr} {S : Addr → Prop} {H0 : Hp} {K : PySem.W.Frag} {σ : L2.St}
theorem pick_cand {G : PyData → Prop} {H2 : Hp} {l : Addr} {n b : Nat} {Q : VK} {E : XK} (w : Wd p cc S H2 b) (hb : b ≤ 90000) (c : CandAt K S H2 l n G) (h0 : 0 < n) (h1 : n ≤ 1000) (q : ∀ H' v d, GeP p H2 H' → Wd p cc S H' (b + 1) → Da K (wos S H') v d → G d → Q v H') : spPick [.ref p, .ref l] H2 Q E := by
  obtain ⟨vs, es, y1, y2, y3, y4, y5⟩ := c
  exact ⟨p, cc, _, _, fun v => ∃ d, Da K (wos S H2) v d ∧ G d, rfl, w.pen, by omega, Or.inl ⟨_, vs, rfl, fun z => y2 (z ▸ w.sp), y1, by omega, by omega, fun v hv => by
    obtain ⟨d, hd⟩ := daAll_v y4 y5 hv
    exact ⟨d, hd⟩⟩, fun H16 v g16 hp16 ⟨dv, hdv, hgv⟩ => q H16 v dv g16 (w.gp g16 hp16) ((g16.w w.sp).da hdv) hgv⟩
abbrev tAddS : TE → TE → TE := tOp fun x y H Q => ∃ i j, x = .str i ∧ y = .str j ∧ i.length + j.length ≤ sizeLine ∧ Q (.str (i ++ j)) H
theorem co_odd1 {c i : Nat} (e : σ[i]? = some (some (.str ⟨#[c]⟩))) (hc : c < 128) (h : ¬ (97 ≤ c ∧ c ≤ 122)) : CO K p S cc H0 σ 0 8 (tLst (tCons (tC .non) (tCons (tC (.str "")) (tCons (tOp rMulZ (tC (.str "j")) (tC (.int 41))) (tCons (tVar i) (tCons (tAddS (tAddS (tC (.str "j")) (tVar i)) (tC (.str "k"))) (tCons (tAddS (tVar i) (tC (.str "j"))) (tCons (tAddS (tC (.str "j")) (tVar i)) (tCons (tC (.int 0)) tNil))))))))) PX := by
  have hs : ∀ H, Da K H (.str ⟨#[c]⟩) (.str ⟨#[c]⟩) := fun H => .str _
  have l1 : (⟨#[c]⟩ : Str).length = 1 := rfl
  have lj : ("j" : Str).length = 1 := by decide +kernel
  have lk : ("k" : Str).length = 1 := by decide +kernel
  have cj : ("j" : Str).cps.toList = [106] := by decide +kernel
  have ck : ("k" : Str).cps.toList = [107] := by decide +kernel
  have len : ∀ x y : Str, (x ++ y).length = x.length + y.length := fun x y => by
    show (x.cps ++ y.cps).size = _
    rw [Array.size_append]; rfl
  refine co_lst (go_cons (dx_non.g (px_cl (by decide +kernel) rfl)) (go_cons (dx_str.g (px_cl (by decide +kernel) (by decide +kernel))) (go_cons ((dx_mulZ (n := 41) dx_str (by decide) (by decide) (by decide +kernel) (by decide +kernel) (by decide +kernel)).g (px_cl (by decide +kernel) (by decide +kernel))) (go_cons ((dx_var e (hs _)).g (px_sign ?a1 ?a2 (c := c) ?a3 h)) (go_cons ((dx_addS (dx_addS dx_str (dx_var e (hs _)) ?b1) dx_str ?b2).g (px_sign ?b3 ?b4 (c := c) ?b5 h)) (go_cons ((dx_addS (dx_var e (hs _)) dx_str ?c1).g (px_sign ?c2 ?c3 (c := c) ?c4 h)) (go_cons ((dx_addS dx_str (dx_var e (hs _)) ?d1).g (px_sign ?d2 ?d3 (c := c) ?d4 h)) (go_cons (dx_int.g (px_cl (by decide +kernel) rfl)) go_nil))))))))
  all_goals first
    | (simp only [len, l1, lj, lk]; omega)
    | (intro z hz; simp [cps_cat, cj, ck] at hz; omega)
    | (simp [cps_cat, cj, ck]; done)
theorem co_odd2 : CO K p S cc H0 σ 0 5 (tLst (tCons (tC (.bl true)) (tCons (tLst (tCons (tC (.str "j")) tNil)) (tCons (tTup (tCons (tC (.str "j")) (tCons (tC (.str "k")) tNil))) (tCons tDNewK (tCons (tC (.str "j\n")) tNil)))))) PX :=
  co_lst (go_cons (dx_bl.g (px_cl (by decide +kernel) rfl)) (go_cons ((dx_lst (ax_cons dx_str ax_nil)).g (px_cl (by decide +kernel) rfl)) (go_cons ((dx_tup (ax_cons dx_str (ax_cons dx_str ax_nil))).g (px_cl (by decide +kernel) rfl)) (go_cons (dx_dict0.g (px_cl (by decide +kernel) rfl)) (go_cons (dx_str.g (px_cl (by decide +kernel) (by decide +kernel))) go_nil)))))
theorem co_thing : CO K p S cc H0 σ 0 7 (tLst (tCons (tC .non) (tCons (tLst tNil) (tCons tDNewK (tCons (tC (.str "")) (tCons (tC (.int 0)) (tCons (tLst (tCons (tC .non) tNil)) (tCons (tLst (tCons (tTup (tCons (tC (.int 0)) (tCons (tC (.str "j")) tNil))) tNil)) tNil)))))))) PTh := by
  refine co_lst (go_cons (dx_non.g (good_cl (by decide +kernel) trivial)) (go_cons ((dx_lst ax_nil).g (good_cl (by decide +kernel) ⟨by simp, fun x hx => by cases hx⟩)) (go_cons (dx_dict0.g (good_cl (by decide +kernel) trivial)) (go_cons (dx_str.g (good_cl (by decide +kernel) trivial)) (go_cons (dx_int.g (good_cl (by decide +kernel) trivial)) (go_cons ((dx_lst (ax_cons dx_non ax_nil)).g (good_cl (by decide +kernel) ⟨by simp, fun x hx => ?_⟩)) (go_cons ((dx_lst (ax_cons (dx_tup (ax_cons dx_int (ax_cons dx_str ax_nil))) ax_nil)).g (good_cl (by decide +kernel) ⟨by simp, fun x hx => ?_⟩)) go_nil)))))))
  · rw [List.mem_singleton.mp hx]
    exact good_askE (Good.none.mono (by decide) (by decide) (by decide))
  · rw [List.mem_singleton.mp hx]
    exact good_askE ((Good.tup ((Good.int (i := 0) (by decide)).cons ((Good.str (x := "j") (k := 1) (by decide +kernel) (by decide +kernel)).cons (Good.nil (g := true) (W := 0) (n := 0))))).mono (by decide) (by decide) (by decide))
end
end Pr
set_option maxRecDepth 100000
set_option maxHeartbeats 4000000
/-! the law k53 -/
namespace Pr
open PySem PySem.Spec PyProof.Rows L2 GxR Gx Rp Dl Pd Tx Zq Zs Zt
section
variable {P : Program} {w : World} {K : PySem.W.Frag} {mg : Str → Option Value} {base : Heap} {T : List Addr}
theorem da_bls {H : Hp} : ∀ bs : List Bool, DaAll K H (bs.map V.bl) (bs.map PyData.bool)
  | [] => .nil
  | b :: r => .cons (.bl b) (da_bls r)
theorem three_of {α : Type} {xs : List α} (h : xs.length = 3) : ∃ x y z, xs = [x, y, z] := by
  rcases xs with _ | ⟨x, _ | ⟨y, _ | ⟨z, _ | ⟨_, _⟩⟩⟩⟩
  all_goals first | exact ⟨_, _, _, rfl⟩ | (simp at h)
theorem word_of {x : Str} (h1 : 1 ≤ x.length) (h2 : x.length ≤ 40) (h : letters x = true) : isWord 40 (.str x) = true := by
  show (decide (1 ≤ (x.length : Int)) && decide ((x.length : Int) ≤ 40) && letters x) = true
  rw [h, decide_eq_true (show 1 ≤ (x.length : Int) by omega), decide_eq_true (show (x.length : Int) ≤ 40 by omega)]
  rfl
def spLaw (K : PySem.W.Frag) (T : List Addr) : Sp := fun vs H Q _ => ∃ (a : Addr) (ns : List Int), vs = [.ref a] ∧ SqL K H a (ns.map V.int) ∧ ns.length ≤ 63 ∧ Tb T H ∧ ∀ H', Q (.bl true) H'
abbrev nLaw : List Str := ["_law_script", "_law_pen", "_law_turn", "_law_keymap", "_law_state", "_law_good", "_law_sign", "_law_odd", "_law_bad", "_law_way", "_law_wrong", "_law_some", "_law_due", "_law_thing", "_law_kept", "_law_one", "_law_k"]
theorem scLaw : FnScope nLaw ["_law_script"] (defScope s_law) := ⟨rfl, rfl, rfl, by decide +kernel, rfl, by decide +kernel, by decide +kernel⟩
theorem ok_law {f c : Addr} {fd : FuncData} (F : FunC K "law" s_law f fd c) (B : Bn mg) (Do : DfP P w K mg base 1 "_law_open" ["_law_script"] (spOpen K)) (Dp : DfP P w K mg base 3 "_law_one_of" ["_law_pen", "_law_some"] spPick) (Df : DfP P w K mg base 4 "_law_any_form" ["_law_pen"] spForm) (Dm : DfP P w K mg base 5 "_law_any_map" ["_law_pen", "_law_form", "_law_letters"] spMapB) (Ds : DfP P w K mg base 3 "_law_any_state" ["_law_pen", "_law_keymap"] spState) (Dx : DfP P w K mg base 3 "_law_any_text" ["_law_pen", "_law_letters", "_law_most"] spText) (Dt : DfP P w K mg base 2 "_law_take" ["_law_pen", "_law_many"] spTake) (Dw : DfP P w K mg base 3 "_law_wrong_sign" ["_law_pen"] spWS) (Dk : DfP P w K mg base 3 "_law_odd_map" ["_law_pen", "_law_keymap"] (spOdm K)) (Dj : DfP P w K mg base 4 "_law_odd_state" ["_law_pen", "_law_state"] (spOst K)) (Dd : DfP P w K mg base 13 "_law_door" ["_law_way", "_law_keymap", "_law_state", "_law_text", "_law_thing"] (spDoo K T)) : Lw.FnG P w K mg base CX0 14 f fd ["_law_script"] (spLaw K T) := by
  refine F.okG scLaw (fun vs H Q E ⟨_, _, h, _⟩ => by rw [h]; rfl) (fun A outer s0 H vs Q E hg hr h => ?_)
  have hu2 := hr.units
  obtain ⟨a, ns0, rfl, hs, hl, hT, q⟩ := h
  refine ⟨_, pss_cons (ps_asg (pcall Do (hr.mono (by decide)) pass0 rfl (pa_cons (pv 0) pa_nil)) (pg_name (i := 1) scLaw.nd rfl (Or.inr rfl)))
    (pss_cons (ps_for PassesOwn.never rfl (pi_range1 rfl B.range (pa_cons pe_int pa_nil)) (pg_name (i := 2) scLaw.nd rfl (Or.inl rfl))
      (pss_cons (ps_asg (pcall Dm (hr.mono (by decide)) pass0 rfl (pa_cons (pv 1) (pa_cons (pcall Df (hr.mono (by decide)) pass0 rfl (pa_cons (pv 1) pa_nil)) (pa_cons pe_str pa_nil)))) (pg_name (i := 3) scLaw.nd rfl (Or.inl rfl)))
      (pss_cons (ps_asg (pcall Ds (hr.mono (by decide)) pass0 rfl (pa_cons (pv 1) (pa_cons (pv 3) pa_nil))) (pg_name (i := 4) scLaw.nd rfl (Or.inl rfl)))
      (pss_cons (ps_asg (pe_lst (pa_cons (pv 3) (pa_cons (pv 4) (pa_cons (pcall Dx (hr.mono (by decide)) pass0 rfl (pa_cons (pv 1) (pa_cons pe_str (pa_cons (pcall Dp (hr.mono (by decide)) pass0 rfl (pa_cons (pv 1) (pa_cons (pe_lst (pa_cons pe_int (pa_cons pe_int pa_nil))) pa_nil))) pa_nil)))) pa_nil)))) (pg_name (i := 5) scLaw.nd rfl (Or.inr rfl)))
      (pss_cons (ps_asg (pcall Dw (hr.mono (by decide)) pass0 rfl (pa_cons (pv 1) pa_nil)) (pg_name (i := 6) scLaw.nd rfl (Or.inl rfl)))
      (pss_cons (ps_asg (pe_lst (pa_cons pe_non (pa_cons pe_str (pa_cons (pe_op op_mulZ pe_str pe_int) (pa_cons (pv 6) (pa_cons (pe_op op_add_str (pe_op op_add_str pe_str (pv 6)) pe_str) (pa_cons (pe_op op_add_str (pv 6) pe_str) (pa_cons (pe_op op_add_str pe_str (pv 6)) (pa_cons pe_int pa_nil))))))))) (pg_name (i := 7) scLaw.nd rfl (Or.inl rfl)))
      (pss_cons (ps_asg (pe_op op_cat (pv 7) (pe_lst (pa_cons pe_bl (pa_cons (pe_lst (pa_cons pe_str pa_nil)) (pa_cons (pe_tup (pa_cons pe_str (pa_cons pe_str pa_nil))) (pa_cons pe_dnewK (pa_cons pe_str pa_nil))))))) (pg_name (i := 7) scLaw.nd rfl (Or.inl rfl)))
      (pss_cons (ps_asg (pe_lst (pa_cons (pcall Dk (hr.mono (by decide)) pass0 rfl (pa_cons (pv 1) (pa_cons (pv 3) pa_nil))) (pa_cons (pcall Dj (hr.mono (by decide)) pass0 rfl (pa_cons (pv 1) (pa_cons (pv 4) pa_nil))) (pa_cons (pcall Dp (hr.mono (by decide)) pass0 rfl (pa_cons (pv 1) (pa_cons (pv 7) pa_nil))) pa_nil)))) (pg_name (i := 8) scLaw.nd rfl (Or.inr rfl)))
      (pss_one (ps_for PassesOwn.never rfl (pi_range1 rfl B.range (pa_cons pe_int pa_nil)) (pg_name (i := 9) scLaw.nd rfl (Or.inl rfl))
        (pss_cons (ps_asg (pe_lc (own := [("_law_one", 15)]) (g := gName 15) (tt := tYes) rfl scLaw.nd (pi_list (pv 5)) (blkOk_by (N := nLaw) (sc := defScope s_law) (by decide +kernel)) (fun _ _ _ _ _ => (pg_name (i := 15) scLaw.nd rfl (Or.inl rfl))) (fun _ _ _ _ _ => pts_nil) (fun _ _ _ _ _ => (pe_cmp (pc_eqI (pcall Dt (hr.mono (by decide)) pass0 rfl (pa_cons (pv 1) (pa_cons pe_int pa_nil))) pe_int)))) (pg_name (i := 10) scLaw.nd rfl (Or.inr rfl)))
        (pss_cons (ps_setLc (i := 11) (own := [("_law_k", 16)]) (g := gName 16) (tt := tYes) rfl scLaw.nd rfl rfl (sw_true rfl rfl rfl (by decide +kernel)) (pi_range1 rfl B.range (pa_cons pe_int pa_nil)) (blkOk_by (N := nLaw) (sc := defScope s_law) (by decide +kernel)) (fun _ _ _ _ _ => (pg_name (i := 16) scLaw.nd rfl (Or.inl rfl))) (fun _ _ _ _ _ => pts_nil) (fun _ _ _ _ _ => (pe_ifExp (pt_val (pe_ix (ix_listK (K := K) rfl) (pv 10) (pv 16) (fun _ _ => rfl))) (pe_ix (ix_listK (K := K) rfl) (pv 8) (pv 16) (fun _ _ => rfl)) (pe_ix (ix_listK (K := K) rfl) (pv 5) (pv 16) (fun _ _ => rfl)))))
        (pss_cons (ps_asg (pe_ix ix_list (pe_op op_cat (pe_lc (own := [("_law_k", 16)]) (g := gName 16) rfl scLaw.nd (pi_range1 rfl B.range (pa_cons pe_int pa_nil)) (blkOk_by (N := nLaw) (sc := defScope s_law) (by decide +kernel)) (fun _ _ _ _ _ => (pg_name (i := 16) scLaw.nd rfl (Or.inl rfl))) (fun _ _ _ _ _ => pts_one (pt_val (pe_ix (ix_listK (K := K) rfl) (pv 10) (pv 16) (fun _ _ => rfl)))) (fun _ _ _ _ _ => (pe_ix (ix_listK (K := K) rfl) (pe_lst (pa_cons pe_str (pa_cons pe_str (pa_cons pe_str pa_nil)))) (pv 16) (fun _ _ => rfl)))) (pe_lst (pa_cons pe_non pa_nil))) pe_int (fun _ _ => rfl)) (pg_name (i := 12) scLaw.nd rfl (Or.inl rfl)))
        (pss_cons (ps_asg (pcall Dp (hr.mono (by decide)) pass0 rfl (pa_cons (pv 1) (pa_cons (pe_lst (pa_cons pe_non (pa_cons (pe_lst pa_nil) (pa_cons pe_dnewK (pa_cons pe_str (pa_cons pe_int (pa_cons (pe_lst (pa_cons pe_non pa_nil)) (pa_cons (pe_lst (pa_cons (pe_tup (pa_cons pe_int (pa_cons pe_str pa_nil))) pa_nil)) pa_nil)))))))) pa_nil))) (pg_name (i := 13) scLaw.nd rfl (Or.inl rfl)))
        (pss_cons (ps_asg (pe_callB (call_reprD hg hu2) rfl B.repr bt_repr (pa_cons (pe_tup (pa_cons (pv 11) (pa_cons (pv 13) pa_nil))) pa_nil)) (pg_name (i := 14) scLaw.nd rfl (Or.inl rfl)))
        (pss_one (ps_if (PW.pt (pw_or (pt_cmpR op_ne (pcall Dd (hr.mono (by decide)) pass0 rfl (pa_cons (pv 9) (pa_cons (pe_ix ix_list (pv 11) pe_int (fun _ _ => rfl)) (pa_cons (pe_ix ix_list (pv 11) pe_int (fun _ _ => rfl)) (pa_cons (pe_ix ix_list (pv 11) pe_int (fun _ _ => rfl)) (pa_cons (pv 13) pa_nil)))))) (pv 12) (nomark _)) (pw_or1 (pt_cmpR op_ne (pe_callB (call_reprD hg hu2) rfl B.repr bt_repr (pa_cons (pe_tup (pa_cons (pv 11) (pa_cons (pv 13) pa_nil))) pa_nil)) (pv 14) (nomark _))))) (pss_one (ps_ret pe_bl)) pss_nil)))))))))))))))))
    (pss_one (ps_ret pe_bl))), ?_⟩
  refine ⟨_, rfl, a, ns0, rfl, hs, hl, fun H1 p cc g1 hp1 => ?_⟩
  refine ⟨4, rfl, by decide, by decide, for_range (lo := 0) (n := 4) (fun k σ H' => k ≤ 4 ∧ Tb T H' ∧ PenAt H' p cc (500 * k) ∧ ∃ x2 x3 x4 x5 x6 x7 x8 x9 x10 x11 x12 x13 x14, σ = [some (.ref a), some (.ref p), x2, x3, x4, x5, x6, x7, x8, x9, x10, x11, x12, x13, x14, none, none])
    ⟨Nat.zero_le _, g1.tb hT, hp1, _, _, _, _, _, _, _, _, _, _, _, _, _, rfl⟩ ?_ ?_⟩
  · rintro k σ H2 hk ⟨_, hT2, hp2, x2, x3, x4, x5, x6, x7, x8, x9, x10, x11, x12, x13, x14, rfl⟩
    have hz : LetS "jk" := by unfold LetS; decide +kernel
    dsimp only [gName]
    refine ⟨_, rfl, _, rfl, p, cc, _, rfl, hp2, by omega, fun H4 F t o cd fl ol ns g4 hp4 form => ⟨p, cc, F, t, o, cd, _, fl, ol, ns, "jk", rfl, hp4, by omega, form, hz, fun H5 v g5 hp5 mh => ?_⟩⟩
    clear form
    obtain ⟨m, t, o, cd, ly, fl, ns, bss, wt, cks, eks, d, rfl, mk, ff, cn⟩ := map_x (K := K) mh
    clear mh
    have hT5 := g5.tb (g4.tb hT2)
    refine ⟨_, rfl, _, rfl, p, cc, m, t, _, _, fl, rfl, hp5, by omega, mk.hm, mk.ht, mk.l3, fun H6 s bs g6 hp6 hs6 hbl => ?_⟩
    have mk6 := mk.gp g6 hp5.lst.choose_spec
    have hT6 := g6.tb hT5
    refine ⟨_, rfl, _, rfl, _, rfl, _, rfl, (by decide : 2 ≤ sizeLine), fun q2 hq2 => ?_⟩
    have gq2 := Ge.new (o := .lst [.int 3, .int 40]) hq2
    refine ⟨p, cc, _, _, fun v => v ∈ [V.int 3, V.int 40], rfl, hp6.ge gq2, by omega, Or.inl ⟨q2, _, rfl, (hp6.fresh hq2).1, upd_same, by decide, by decide, fun v hv => hv⟩, fun H7 v g7 hp7 hv => ?_⟩
    obtain ⟨most, rfl, mo1, mo40⟩ : ∃ n : Int, v = .int n ∧ 1 ≤ n ∧ n ≤ 40 := by
      simp only [List.mem_cons, List.not_mem_nil, or_false] at hv
      rcases hv with rfl | rfl <;> exact ⟨_, rfl, by decide, by decide⟩
    refine ⟨p, cc, _, "jk", most, rfl, hp7, by omega, hz, by decide +kernel, mo1, mo40, fun H8 x g8 hp8 xl1 xl40 hlet => ?_⟩
    refine ⟨(by decide : 3 ≤ sizeLine), fun gd hgd => ?_⟩
    have gG := Ge.new (o := .lst [.ref m, .ref s, .str x]) hgd
    have nsp : s ≠ p := fun z => by
      obtain ⟨ys, hy⟩ := hp6.lst
      rw [z, hy] at hs6
      cases hs6
    have ngp : gd ≠ p := (hp8.fresh hgd).1
    have g69 : GeP p H6 (upd H8 gd (.lst [.ref m, .ref s, .str x])) := (((GeP.of gq2).trans g7).trans g8).trans (GeP.of gG)
    have mk9 := mk6.gp g69 hp6.lst.choose_spec
    have hs9 := g69.1 s _ nsp hs6 (fun ps z => by cases z)
    have hT9 := g69.tb hT6
    have hp9 := hp8.ge gG
    have hgd9 : (upd H8 gd (.lst [.ref m, .ref s, .str x])) gd = some (.lst [.ref m, .ref s, .str x]) := upd_same
    clear g69 gG hgd hq2 gq2 hs6 mk6 hT6 g6 g7 g8 mk hv
    generalize upd H8 gd (.lst [.ref m, .ref s, .str x]) = H9 at *
    dsimp only [gName]
    refine ⟨_, rfl, p, cc, _, rfl, hp9, by omega, fun H10 c g10 hp10 hc hno => ?_⟩
    have w10 : Wd p cc (· = p) H10 (500 * k + 385) := ⟨hp10.mono (by omega), rfl, fun b hb => by rw [hb]; exact hp10.lst⟩
    refine co_asgn (K := K) (p := p) (S := (· = p)) (cc := cc) (k := 0) (m := 8) (G := PX) (i := 7) (co_odd1 (i := 6) rfl hc hno) w10 (by omega) fun l7 H11 g11 w11 c11 => ?_
    refine co_asgn (K := K) (p := p) (S := (· = p)) (cc := cc) (k := 0) (m := 13) (G := PX) (i := 7) (co_cat (k1 := 0) (k2 := 0) (m1 := 8) (m2 := 5) (co_var rfl c11) co_odd2) w11 (by omega) fun l8 H12 g12 w12 c12 => ?_
    have g912 := (g10.trans g11).trans g12
    have mk12 := mk9.gp g912 hp9.lst.choose_spec
    have hs12 := g912.1 s _ nsp hs9 (fun ps z => by cases z)
    have hT12 := g912.tb hT9
    have hgd12 := g912.1 gd _ ngp hgd9 (fun ps z => by cases z)
    obtain ⟨do_, dc, dl, dw, nf, no, nc, nl, nw, rfl, n1, n2, n3, n4, n5, e1, e2, e3, e4, e5, z1, z2, z3, z4, z5, zs, zz, zc, za⟩ := km_parts mk12 ff cn
    have dst : ∀ H', H' s = some (.tup (bs.map V.bl)) → Da K (wos (· = p) H') (.ref s) (.tuple (bs.map PyData.bool)) := fun H' h => .tup (Or.inl (by rw [wos_ne (S := (· = p)) nsp]; exact h)) (da_bls bs)
    have dmw : ∀ {H'}, Wd p cc (· = p) H' 0 → True := fun _ => trivial
    refine ⟨_, rfl, _, rfl, p, cc, m, (· = p), _, fl.map PyData.str, do_, dc, dl, dw, _, _, _, _, _, nf, no, nc, nl, nw, rfl, w12, by omega, mk12.hm, w12.da mk12.dm.2.2.1 mk12.da, w12.da n1 e1, w12.da n2 e2, w12.da n3 e3, w12.da n4 e4, w12.da n5 e5, z1, z2, z3, z4, z5, zs, zz, zc, by rw [List.length_map]; exact mk12.l3, za, fun H13 v0 d0 g13 w13 hd0 hpm => ?_⟩
    have hs13 := g13.1 s _ nsp hs12 (fun ps z => by cases z)
    refine ⟨_, rfl, _, rfl, p, cc, (· = p), _, bs, .ref s, rfl, w13, by omega, dst _ hs13, by have := mk12.l3; omega, fun H14 v1 d1 g14 w14 hd1 hps => ?_⟩
    have g1214 := g13.trans g14
    refine ⟨_, rfl, _, rfl, pick_cand (K := K) (S := (· = p)) (cc := cc) (E := fun _ _ _ => True) w14 (by omega) (c12.gp g1214 rfl) (by decide) (by decide) fun H15 v2 d2 g15 w15 hd2 hpx => ?_⟩
    refine ⟨(by decide : 3 ≤ sizeLine), fun bd hbd => ?_⟩
    have gB := Ge.new (o := .lst [v0, v1, v2]) hbd
    have nbp : bd ≠ p := (w15.pen.fresh hbd).1
    have w16 : Wd p cc (· = p) (upd H15 bd (.lst [v0, v1, v2])) (500 * k + 389) := (w15.ge gB).mono (by omega)
    have g1516 : GeP p H15 (upd H15 bd (.lst [v0, v1, v2])) := GeP.of gB
    have g1216 := (g1214.trans g15).trans g1516
    have hbd16 : (upd H15 bd (.lst [v0, v1, v2])) bd = some (.lst [v0, v1, v2]) := upd_same
    have da0 := (((g14.trans g15).trans g1516).w (S := (· = p)) rfl).da hd0
    have da1 := ((g15.trans g1516).w (S := (· = p)) rfl).da hd1
    have da2 := (g1516.w (S := (· = p)) rfl).da hd2
    have mk16 := mk12.gp g1216 w12.pen.lst.choose_spec
    have hs16 := g1216.1 s _ nsp hs12 (fun ps z => by cases z)
    have hT16 := g1216.tb hT12
    have hgd16 := g1216.1 gd _ ngp hgd12 (fun ps z => by cases z)
    clear gB g1516 g1216 hbd hd0 hd1 hd2 mk12 hs12 hT12 hgd12 mk9 hs9 hT9 hgd9 g1214 g13 g14 g15 w13 w14 w15 c12 c11 e1 e2 e3 e4 e5 n1 n2 n3 n4 n5 w10 w11 w12 hs13 g912 g10 g11 g12 hp10 hp9 hp8 hp7 hp6
    generalize upd H15 bd (.lst [v0, v1, v2]) = H16 at *
    dsimp only [gName]
    refine ⟨2, rfl, by decide, by decide, for_range (lo := 0) (n := 2) (fun j σ H' => j ≤ 2 ∧ GeP p H16 H' ∧ PenAt H' p cc (500 * k + 389 + 4 * j) ∧ ∃ x9 x10 x11 x12 x13 x14, σ = [some (.ref a), some (.ref p), some (.int (0 + (k : Int))), some (.ref m), some (.ref s), some (.ref gd), some (.str ⟨#[c]⟩), some (.ref l8), some (.ref bd), x9, x10, x11, x12, x13, x14, none, none])
      ⟨Nat.zero_le _, GeP.refl, w16.pen, _, _, _, _, _, _, rfl⟩ ?_ ?_⟩
    · rintro j σ H17 hj ⟨_, g17, hp17, x9, x10, x11, x12, x13, x14, rfl⟩
      have hgd17 := g17.1 gd _ ngp hgd16 (fun ps z => by cases z)
      dsimp only [gName]
      refine ⟨_, rfl, gd, rfl, ⟨_, SqL.of hgd17⟩, fun D hD => ?_⟩
      have nDp := (hp17.fresh hD).1
      have nDc := (hp17.fresh hD).2
      refine lc_list (K := K) (xs := [V.ref m, .ref s, .str x]) (fun i H' => i ≤ 3 ∧ GeP p H17 H' ∧ PenAt H' p cc (500 * k + 389 + 4 * j + i) ∧ ∃ bz : List Bool, H' D = some (.lst (bz.map V.bl)) ∧ bz.length = i)
        ⟨Nat.zero_le _, GeP.of (Ge.new hD), hp17.ge (Ge.new hD), [], upd_same, rfl⟩ (fun i H' _ z => SqL.of (z.2.1.1 gd _ ngp hgd17 (fun ps z => by cases z))) ?_ ?_
      · rintro i y H18 hy ⟨hi, g18, hp18, bz, b1, b2⟩
        have hi3 : i < 3 := (List.getElem?_eq_some_iff.mp hy).1
        refine ⟨rfl, _, rfl, p, cc, 3, _, rfl, hp18, by omega, by decide, by decide, fun H19 r g19 hp19 _ _ => ?_⟩
        have b1' := g19.1 D _ nDp b1 (fun ps z => by cases z)
        refine ⟨_, _, rfl, rfl, bz.map V.bl, b1', by rw [List.length_map, b2]; exact Nat.lt_of_lt_of_le hi3 (by decide), hi3, (g18.trans g19).upd (Nw.none hD), (hp19.upd nDp nDc).mono (by omega), bz ++ [_], by rw [List.map_append]; exact upd_same, by rw [List.length_append, b2]; rfl⟩
      · rintro H18 ⟨_, g18, hp18, bz, b1, b2⟩
        obtain ⟨c0, c1, c2, rfl⟩ := three_of b2
        have b1 : H18 D = some (.lst [.bl c0, .bl c1, .bl c2]) := b1
        have g168 := g17.trans g18
        have hgd18 := g168.1 gd _ ngp hgd16 (fun ps z => by cases z)
        have hbd18 := g168.1 bd _ nbp hbd16 (fun ps z => by cases z)
        dsimp only [gName]
        refine ⟨3, rfl, by decide, by decide, fun E0 hE => ?_⟩
        have gE : ∀ o, Ge H18 (upd H18 E0 o) := fun o => Ge.new hE
        refine lc_range (lo := 0) (n := 3) (fun i H' => i ≤ 3 ∧ H' = upd H18 E0 (.lst ([if c0 then v0 else .ref m, if c1 then v1 else .ref s, if c2 then v2 else .str x].take i))) ⟨Nat.zero_le _, rfl⟩ ?_ ?_
        · rintro i H19 hi ⟨_, rfl⟩
          have gg := gE (.lst ([if c0 then v0 else .ref m, if c1 then v1 else .ref s, if c2 then v2 else .str x].take i))
          have f1 := gg.1 D _ b1 (fun ps z => by cases z)
          have f2 := gg.1 gd _ hgd18 (fun ps z => by cases z)
          have f3 := gg.1 bd _ hbd18 (fun ps z => by cases z)
          have ix : ∃ (b : Bool) (u v : V), ([.bl c0, .bl c1, .bl c2] : List V)[i]? = some (.bl b) ∧ [v0, v1, v2][i]? = some u ∧ [V.ref m, .ref s, .str x][i]? = some v ∧ [if c0 then v0 else V.ref m, if c1 then v1 else .ref s, if c2 then v2 else .str x].take (i + 1) = [if c0 then v0 else V.ref m, if c1 then v1 else .ref s, if c2 then v2 else .str x].take i ++ [if b then u else v] := by
            rcases (by omega : i = 0 ∨ i = 1 ∨ i = 2) with rfl | rfl | rfl <;> exact ⟨_, _, _, rfl, rfl, rfl, rfl⟩
          obtain ⟨b, u, v, y1, y2, y3, y4⟩ := ix
          have ei : (0 : Int) + (i : Int) = ((i : Nat) : Int) := by omega
          have lt : ([if c0 then v0 else V.ref m, if c1 then v1 else .ref s, if c2 then v2 else .str x].take i).length < sizeLine := by
            rw [List.length_take]
            exact Nat.lt_of_le_of_lt (Nat.min_le_left _ _) (Nat.lt_of_lt_of_le hi (by decide))
          refine ⟨rfl, _, rfl, _, rfl, D, _, _, _, rfl, rfl, SqL.of f1, (by rw [ei]; exact atI_nat y1), b, rfl, ?_⟩
          cases b with
          | true => exact iteT ⟨_, rfl, _, rfl, bd, _, _, _, rfl, rfl, SqL.of f3, (by rw [ei]; exact atI_nat y2), _, upd_same, lt, hi, by rw [upd_twice, y4]; rfl⟩
          | false => exact iteF ⟨_, rfl, _, rfl, gd, _, _, _, rfl, rfl, SqL.of f2, (by rw [ei]; exact atI_nat y3), _, upd_same, lt, hi, by rw [upd_twice, y4]; rfl⟩
        · rintro H19 ⟨_, rfl⟩
          have gE1 := gE (.lst ([if c0 then v0 else V.ref m, if c1 then v1 else .ref s, if c2 then v2 else .str x].take 3))
          have hE1 : (upd H18 E0 (.lst ([if c0 then v0 else V.ref m, if c1 then v1 else .ref s, if c2 then v2 else .str x].take 3))) E0 = some (.lst [if c0 then v0 else V.ref m, if c1 then v1 else .ref s, if c2 then v2 else .str x]) := upd_same
          have b19 := gE1.1 D _ b1 (fun ps z => by cases z)
          have g1619 : GeP p H16 _ := g168.trans (GeP.of gE1)
          have hp19 := hp18.ge gE1
          have nEp : E0 ≠ p := (hp18.fresh hE).1
          clear gE gE1 hE b1 hgd18 hbd18 hgd17 nDc hD b2 g18 hp18 g168 g17 hp17
          generalize upd H18 E0 (.lst ([if c0 then v0 else V.ref m, if c1 then v1 else .ref s, if c2 then v2 else .str x].take 3)) = H19 at *
          dsimp only [gName]
          refine ⟨3, rfl, by decide, by decide, fun D2 hD2 => ?_⟩
          refine lc_range (lo := 0) (n := 3) (fun i H' => i ≤ 3 ∧ Ge H19 H' ∧ H' D2 = some (.lst (dlB c0 c1 c2 i))) ⟨Nat.zero_le _, Ge.new hD2, upd_same⟩ ?_ ?_
          · rintro i H20 hi ⟨_, g20, h20⟩
            have ix : ∃ (b : Bool) (u : V), ([.bl c0, .bl c1, .bl c2] : List V)[i]? = some (.bl b) ∧ [V.str "map", .str "state", .str "keys"][i]? = some u ∧ dlB c0 c1 c2 (i + 1) = dlB c0 c1 c2 i ++ (if b then [u] else []) := by
              rcases (by omega : i = 0 ∨ i = 1 ∨ i = 2) with rfl | rfl | rfl <;> exact ⟨_, _, rfl, rfl, rfl⟩
            obtain ⟨b, u, y1, y2, y4⟩ := ix
            have ei : (0 : Int) + (i : Int) = ((i : Nat) : Int) := by omega
            have lt : (dlB c0 c1 c2 i).length < sizeLine := by
              have : ∀ c0 c1 c2 : Bool, ∀ i : Nat, i < 3 → (dlB c0 c1 c2 i).length ≤ 3 := by decide
              exact Nat.lt_of_le_of_lt (this c0 c1 c2 i hi) (by decide)
            refine ⟨rfl, _, rfl, _, rfl, D, _, _, _, rfl, rfl, SqL.of (g20.1 D _ b19 (fun ps z => by cases z)), (by rw [ei]; exact atI_nat y1), b, rfl, ?_⟩
            cases b with
            | true => exact iteT ⟨(by decide : 3 ≤ sizeLine), fun q5 hq5 => ⟨_, rfl, q5, _, _, _, rfl, rfl, SqL.of upd_same, (by rw [ei]; exact atI_nat y2), _, (Ge.new hq5).1 D2 _ h20 (fun ps z => by cases z), lt, hi, Ge.upd (g20.trans (Ge.new hq5)) hD2, by rw [y4]; exact upd_same⟩⟩
            | false => exact iteF ⟨hi, g20, by rw [y4, if_neg Bool.false_ne_true, List.append_nil]; exact h20⟩
          · rintro H20 ⟨_, g20, h20⟩
            obtain ⟨rr, hrr⟩ := dl_head c0 c1 c2
            refine ⟨(by decide : 1 ≤ sizeLine), fun q6 hq6 => ?_⟩
            have gq6 := Ge.new (o := .lst [.non]) hq6
            refine ⟨D2, q6, _, _, rfl, rfl, gq6.1 D2 _ h20 (fun ps z => by cases z), upd_same, ?_, fun q7 hq7 => ?_⟩
            · have : ∀ c0 c1 c2 : Bool, (dlB c0 c1 c2 3).length ≤ 3 := by decide
              have := this c0 c1 c2
              exact Nat.le_trans (show _ + 1 ≤ 4 by omega) (by decide)
            rw [hrr]
            refine ⟨q7, _, 0, _, rfl, rfl, SqL.of upd_same, atI_nat (j := 0) rfl, ?_⟩
            have g721 := (g20.trans gq6).trans (Ge.new (o := .lst (dueB c0 c1 c2 :: rr)) hq7)
            have hE21 := g721.1 E0 _ hE1 (fun ps z => by cases z)
            have g1621 := g1619.trans (GeP.of g721)
            have w21 : Wd p cc (· = p) _ (500 * k + 389 + 4 * j + 3) := w16.gp g1621 (hp19.ge g721)
            clear g721 hE1 hq7 hq6 gq6 h20 g20 hD2 g1619 hp19 b19
            generalize upd (upd H20 q6 (.lst [.non])) q7 (.lst (dueB c0 c1 c2 :: rr)) = H21 at *
            dsimp only [gName]
            refine ⟨_, rfl, co_thing (K := K) (p := p) (S := (· = p)) (cc := cc) (H0 := H21) H21 _ _ GeP.refl w21 (by omega) fun l9 H22 g22 w22 c22 => pick_cand (K := K) (S := (· = p)) (cc := cc) (E := fun _ _ _ => True) w22 (by omega) c22 (by decide) (by decide) fun H23 vt dt g23 w23 hdt hpt => ?_⟩
            have hE23 := g23.1 E0 _ nEp (g22.1 E0 _ nEp hE21 (fun ps z => by cases z)) (fun ps z => by cases z)
            have g1623 := (g1621.trans g22).trans g23
            have gw := g1623.w (S := (· = p)) rfl
            have q0 : ∃ e, Da K (wos (· = p) H16) (if c0 then v0 else V.ref m) e ∧ Sw e 2001500 30 ∧ isMap e = (!c0) ∧ (c0 = false → lenT (flagsOf e) = fl.length) := by
              cases c0 with
              | true => exact ⟨d0, da0, hpm.1, hpm.2, fun z => by cases z⟩
              | false => exact ⟨_, w16.da mk16.dm.2.2.1 mk16.da, (sw_tup (sw_cons z1 (sw_cons z2 (sw_cons z3 (sw_cons z4 (sw_cons z5 sw_nil)))))).mono (by omega) (by decide), mk16.dm.1, fun _ => mk16.dl⟩
            have q1 : ∃ e, Da K (wos (· = p) H16) (if c1 then v1 else V.ref s) e ∧ Sw e 300 6 ∧ fitsState fl.length e = (!c1) := by
              cases c1 with
              | true => exact ⟨d1, da1, hps.1, by rw [← hbl]; exact hps.2⟩
              | false => exact ⟨_, dst _ hs16, (sw_tup (swA_bools fun e he => by
                  obtain ⟨b, _, rfl⟩ := List.mem_map.mp he
                  exact ⟨b, rfl⟩) (by rw [List.length_map, hbl]; exact Nat.le_trans mk16.l3 (by decide))).mono (by rw [List.length_map, hbl]; have := mk16.l3; omega) (by decide), fits_good hbl⟩
            have q2 : ∃ e, Da K (wos (· = p) H16) (if c2 then v2 else V.str x) e ∧ Sw e 500 3 ∧ isWord 40 e = (!c2) := by
              cases c2 with
              | true => exact ⟨d2, da2, hpx.1, hpx.2⟩
              | false => exact ⟨_, .str x, (sw_str (n := 40) (fun c hc => Nat.lt_of_le_of_lt (letters_isL hlet c hc).2 (by decide)) xl40 (by decide)).mono (by decide) (by decide), word_of xl1 xl40 hlet⟩
            obtain ⟨m0, a0, s0', i0, i0'⟩ := q0
            obtain ⟨m1, a1, s1, i1⟩ := q1
            obtain ⟨m2, a2, s2, i2⟩ := q2
            obtain ⟨du, dn⟩ := due_eq i0 i0' i1 i2
            have kks : c0 = false → c1 = false → ∀ H', Ge H23 H' → KS K T H' (.ref m) (.ref s) m t o cd ly s fl bss bs wt := fun _ _ H' g' => ((mk16.gp g1623 w16.pen.lst.choose_spec).ge g').ks (g'.1 s _ (g1623.1 s _ nsp hs16 (fun ps z => by cases z)) (fun ps z => by cases z)) hbl (g'.tb (g1623.tb hT16))
            have hT23 := g1623.tb hT16
            have a0 := wos_ge.da (gw.da a0)
            have a1 := wos_ge.da (gw.da a1)
            have a2 := wos_ge.da (gw.da a2)
            have at_ := wos_ge.da hdt
            have hsz : Sw (.tuple [.list [m0, m1, m2], dt]) 2003000 35 := (sw_tup (sw_cons (sw_lst (sw_cons s0' (sw_cons s1 (sw_cons s2 sw_nil)))) (sw_cons hpt.1 sw_nil))).mono (by decide) (by decide)
            obtain ⟨z1', z2', z3'⟩ := hsz.1
            have dd : ∀ H' r, Ge H23 H' → H' r = some (.tup [.ref E0, vt]) → Da K H' (.ref r) (.tuple [.list [m0, m1, m2], dt]) := fun H' r g' h' => .tup (Or.inl h') (.cons (.lst (Or.inl (g'.1 E0 _ hE23 (fun ps z => by cases z))) (.cons (g'.da a0) (.cons (g'.da a1) (.cons (g'.da a2) .nil)))) (.cons (g'.da at_) .nil))
            clear hsz gw q c22 hE21 g22 w22 w21 hdt
            dsimp only [gName]
            refine ⟨_, rfl, _, rfl, (by decide : 2 ≤ sizeLine), fun q8 hq8 => ?_⟩
            have g24 := Ge.new (o := .tup [.ref E0, vt]) hq8
            refine ⟨.ref q8, _, rfl, dd _ q8 g24 upd_same, z1', Nat.le_trans z3' (by decide), Nat.le_trans z2' (by decide), ?_⟩
            clear hq8
            generalize upd H23 q8 (.tup [.ref E0, vt]) = H24 at *
            have hE24 := g24.1 E0 _ hE23 (fun ps z => by cases z)
            dsimp only [gName]
            refine ⟨_, rfl, _, rfl, E0, _, _, _, rfl, rfl, SqL.of hE24, atI_nat (j := 0) rfl, _, rfl, E0, _, _, _, rfl, rfl, SqL.of hE24, atI_nat (j := 1) rfl, _, rfl, E0, _, _, _, rfl, rfl, SqL.of hE24, atI_nat (j := 2) rfl, _, rfl, ?_⟩
            refine ⟨_, _, _, _, vt, m0, m1, m2, dt, rfl, g24.da a0, s0'.2, g24.da a1, s1.2, g24.da a2, s2.2, g24.da at_, hpt.2, g24.tb hT23, fun z => ?_, fun H25 g25 => ?_⟩
            · obtain ⟨rfl, rfl, rfl⟩ := dn z
              have hx : x = mkS x.cps.toList := by
                obtain ⟨arr⟩ := x
                show (⟨arr⟩ : Str) = ⟨arr.toList.toArray⟩
                rw [Array.toArray_toList]
              have hn : x.cps.toList.length = x.length := Array.length_toList
              exact ⟨m, t, o, cd, ly, s, fl, bss, bs, wt, x.cps.toList, congrArg V.str hx, kks rfl rfl H24 g24, by have := mk16.n16; omega, by rw [← hx]; exact word_of xl1 xl40 hlet, by rw [hn]; exact xl1, by rw [hn]; exact xl40⟩
            · have hsc : scal (dueB c0 c1 c2) (dueB c0 c1 c2) = true := by cases c0 <;> cases c1 <;> cases c2 <;> rfl
              rw [du]
              refine ⟨_, rfl, hsc, _, rfl, ?_⟩
              rw [decide_eq_true (rfl : dueB c0 c1 c2 = dueB c0 c1 c2)]
              refine iteF ⟨_, rfl, _, rfl, (by decide : 2 ≤ sizeLine), fun q9 hq9 => ?_⟩
              have g26 := (g24.trans g25).trans (Ge.new (o := .tup [.ref E0, vt]) hq9)
              refine ⟨.ref q9, _, rfl, dd _ q9 g26 upd_same, z1', Nat.le_trans z3' (by decide), Nat.le_trans z2' (by decide), _, rfl, rfl, ?_⟩
              rw [decide_eq_true (rfl : V.str (PyData.tuple [.list [m0, m1, m2], dt]).shown = V.str (PyData.tuple [.list [m0, m1, m2], dt]).shown)]
              exact ⟨_, rfl, iteF ⟨hj, g1623.trans (GeP.of g26), (w23.pen.ge g26).mono (by omega), _, _, _, _, _, _, rfl⟩⟩
    · rintro σ H17 ⟨_, g17, hp17, x9, x10, x11, x12, x13, x14, rfl⟩
      exact ⟨hk, g17.tb hT16, hp17.mono (by omega), _, _, _, _, _, _, _, _, _, _, _, _, _, rfl⟩
  · rintro σ H2 ⟨_, hT2, hp2, x2, x3, x4, x5, x6, x7, x8, x9, x10, x11, x12, x13, x14, rfl⟩
    exact q H2
end
end Pr
set_option maxRecDepth 100000
set_option maxHeartbeats 2000000
/-! a head by facts: a law over it, with classes and code tables -/
namespace Pr
open PySem PySem.Spec PyProof.Rows L2 GxR Gx Rp Dl Pd Tx
theorem walkX {l : PySem.W.OpenLaw} {n k : Nat} {q : Program} {loose : List Str} {XP : (Str → Option Value) → Heap → Prop} {YP : World → Heap → Prop} {d : DefRec} {x : Str}
    (h1 : l.most = some n) (h2 : n ≤ sizeLine) (h3 : d.params.defaults = []) (h4 : Room k callerA)
    (F : ∀ (w : World) (mg : Str → Option Value) (fa : Addr) (h : Heap), YP w h → h.Ns mainGlobals mg → mg d.name = some (.ref fa) → ∃ K : PySem.W.Frag, K.In h ∧ Lw.LawAtG l w K CX0 k n x mg fa h) :
    PySem.W.WalkO q loose XP YP l.row.toRowW d [] (fun f vs => PySem.call f vs) := by
  refine Att.attach_callB h1 h3 fun w s₀ s₁ mg mb fa o pm cd doc a vs ns G Y ho hd hcd hmg hobj hints hlen hbits hg => ?_
  obtain ⟨K, hK, fd, cs, sp, t1, t2, t3, t4, t5, t6⟩ := F w mg fa _ Y G.T.g hmg
  exact Lw.law_callG (CX := CX0) hK G.T.g G.T.b G.T.builtins G.T.nolimit hg t1 t2 t3 G.T.bmain hobj hints (Nat.le_trans hlen h2) h4 t6 t4 (fun H y1 y2 => t5 H a ns hlen hbits y1 y2) fun H e s' z => z
theorem dfl_nil {K : PySem.W.Frag} {dV : Value} (h : DflV K dV []) : dV = .none := by
  rcases h with ⟨_, z⟩ | ⟨z, _⟩
  · exact z
  · exact absurd rfl z
/-- a def told by its name -/
theorem def_told {K : PySem.W.Frag} {x : Str} {st : Stmt} {fd : FuncData} (g : (He.Fa.glo x).ok K = true) (F : FunD K x x (defArgs st) (defBody st) (defScope st) [] [] (He.fAd K (x, none)) fd) : ∃ c, DefAt K x st (He.ga K x) c fd ∧ He.codeOf K (x, none) = c := by
  obtain ⟨⟨oc, od, dV, kV, doc, pm, an, cdv, ct, osl, e, lk, hc, hd, _⟩, kp⟩ := F
  obtain ⟨c, rfl⟩ := He.codeIn_ref hc
  have z := dfl_nil hd
  subst z
  exact ⟨c, ⟨He.eqO_ok g, ⟨oc, od, kV, doc, pm, an, ct, osl, e, lk⟩, hc, kp⟩, He.codeOf_eq lk (by rw [e])⟩
/-- an empty code table at the head's end -/
structure TbX (K : PySem.W.Frag) (h : Heap) (c P : Addr) : Prop where
  e : h.get? P = some { cls := .none, data := .fields #[] }
  n : K.lookup P = none
  hd : PySem.W.CodeHd h c P
theorem tab_told {fa : List He.Fa} {fn : List He.DefD} {ts : List He.Tab} {tf : List He.Defn} {ex : PySem.W.Frag → Bool} {w : World} {h : Heap} {K : PySem.W.Frag} (X : K.In h) (S : He.SaysX fa fn ts tf ex w h K) {p : He.Defn} (hp : p ∈ tf) {c : Addr} (e : He.codeOf K p = c) : ∃ Pt, TbX K h c Pt := by
  refine ⟨(He.cT K p).2, S.empty p hp, S.out p hp, ?_⟩
  have z := PySem.W.codeHd_of_K X (S.hd p hp)
  rw [← e]
  exact z
theorem DefAt.dfX {P : Program} {w : World} {K : PySem.W.Frag} {mg : Str → Option Value} {base h : Heap} {n : Nat} {x : Str} {st : Stmt} {f c : Addr} {fd : FuncData} {ps : List Str} {sp : Sp} {CX : CXT} (d : DefAt K x st f c fd) (X : K.In h) (G : h.Ns mainGlobals mg) (ok : FnOk P w K mg base CX n f fd ps sp)
    (hb : ∀ (kV doc pm : Value) (an : Option Addr) (cdv ct : Value) (us : List Value), us.length = ps.length → bindArgs (PySem.W.fnOf x x (defArgs st) (defBody st) (defScope st) .none kV doc pm an cdv ct) ⟨us, []⟩ = pure (ps.zip us)) : Df P w K mg base CX n x ps sp :=
  ⟨f, fd, PySem.W.mg_of X G d.1, d.2.2.2, d.F.binds hb, ok⟩
/-! ### what the head tells of the classes of errors -/
def exC (K : PySem.W.Frag) (D : Addr) : Bool :=
  decide (PySem.W.findIn K (.ref D) "__getattribute__" = some (some (.builtin "BaseException.__getattribute__"))) && (decide (PySem.W.findIn K (.ref D) "__getattr__" = some none) && (decide (PySem.W.subIn K (.ref D) (.type "BaseException") = some true) && (PySem.W.hasDictIn K D && (decide (PySem.W.findIn K (.ref D) "__class__" = some (some (.builtin "object.__class__"))) && (decide (PySem.W.specialIn K (.builtin "object.__class__") "__get__" = some (some (.builtin "getset_descriptor.__get__"))) && (decide (PySem.W.takesIn K (.builtin "object.__class__") = some true) && decide (PySem.W.mroIn K D (.type "object") = some true)))))))
theorem bb {a b : Bool} (h : (a && b) = true) : a = true ∧ b = true := by rwa [Bool.and_eq_true] at h
theorem exC_ok {K : PySem.W.Frag} {D : Addr} (h : exC K D = true) : ExcC K D := by
  obtain ⟨h1, h⟩ := bb h
  obtain ⟨h2, h⟩ := bb h
  obtain ⟨h3, h⟩ := bb h
  obtain ⟨h4, h⟩ := bb h
  obtain ⟨h5, h⟩ := bb h
  obtain ⟨h6, h⟩ := bb h
  obtain ⟨h7, h8⟩ := bb h
  exact ⟨of_decide_eq_true h1, of_decide_eq_true h2, of_decide_eq_true h3, h4, of_decide_eq_true h5, of_decide_eq_true h6, of_decide_eq_true h7, of_decide_eq_true h8⟩
def RAI : List Str := ["NoMap", "NoState", "NoKeys"]
def exOne (K : PySem.W.Frag) (x : Str) : Bool := (He.Fa.glo x).ok K && (decide (PySem.W.exmOne K (.ref (He.ga K x)) (.ref (He.ga K "KeywaitError")) = some true) && (decide (PySem.W.kitOne K (.ref (He.ga K x)) (.type "ValueError") = some true) && exC K (He.ga K x)))
def exTwo (K : PySem.W.Frag) (i j : Nat) : Bool := decide (PySem.W.kitOne K (.ref (He.ga K (EXC.getD i ""))) (.ref (He.ga K (EXC.getD j ""))) = some (decide (i = j)))
def exB (K : PySem.W.Frag) : Bool := (He.Fa.glo "KeywaitError").ok K && ((RAI.all fun x => (He.Fa.exc x).ok K) && ((EXC.all (exOne K)) && ((List.range 12).all fun i => (List.range 12).all fun j => exTwo K i j)))
section
variable {K : PySem.W.Frag} {h : Heap} {mg : Str → Option Value}
theorem errK_of (X : K.In h) (G : h.Ns mainGlobals mg) (e : exB K = true) : ErrK K mg := by
  obtain ⟨_, e⟩ := bb e
  obtain ⟨_, e⟩ := bb e
  obtain ⟨e1, e2⟩ := bb e
  refine ⟨fun x hx => He.glo_ok X G (bb (List.all_eq_true.mp e1 x hx)).1, fun i j x y hi hj => ?_, fun x hx => of_decide_eq_true (bb (bb (bb (List.all_eq_true.mp e1 x hx)).2).2).1, fun x hx => exC_ok (bb (bb (bb (List.all_eq_true.mp e1 x hx)).2).2).2⟩
  have li : i < 12 := (List.getElem?_eq_some_iff.mp hi).1
  have lj : j < 12 := (List.getElem?_eq_some_iff.mp hj).1
  have z := of_decide_eq_true (List.all_eq_true.mp (List.all_eq_true.mp e2 i (List.mem_range.mpr li)) j (List.mem_range.mpr lj))
  rw [List.getD_eq_getElem?_getD, List.getD_eq_getElem?_getD, hi, hj] at z
  exact z
theorem doorK_of (X : K.In h) (G : h.Ns mainGlobals mg) (e : exB K = true) : DoorK K mg := by
  obtain ⟨e0, e⟩ := bb e
  obtain ⟨_, e⟩ := bb e
  obtain ⟨e1, e2⟩ := bb e
  exact ⟨He.glo_ok X G e0, fun x hx => of_decide_eq_true (bb (bb (List.all_eq_true.mp e1 x hx)).2).1⟩
theorem raK_of (X : K.In h) (G : h.Ns mainGlobals mg) (e : exB K = true) {x : Str} (hx : x ∈ RAI) (hx2 : x ∈ EXC) : RaK K mg x := by
  obtain ⟨_, e⟩ := bb e
  obtain ⟨e0, e⟩ := bb e
  obtain ⟨e1, e2⟩ := bb e
  obtain ⟨a, b, c, d⟩ := He.exc_ok (List.all_eq_true.mp e0 x hx)
  exact ⟨He.glo_ok X G (bb (List.all_eq_true.mp e1 x hx2)).1, a, b, c, d⟩
end
end Pr
set_option maxRecDepth 100000
set_option maxHeartbeats 2000000
/-! what the head tells -/
namespace HX
open PySem PySem.W PyProof.Rows L2 Tx
def nm0 : List PySem.Str := ["__name__", "KeywaitError", "NoMap", "NoState", "NoKeys", "NoCommand", "NoRow", "NoTime", "NoFlag", "Unlike", "NoGaps", "NoNumber", "NoBinding", "NoText", "LONGEST_NAME", "MOST_KEYS", "is_integer", "is_boolean", "is_within", "is_word", "is_name", "is_keys", "is_ascending", "MOST_FLAGS", "MOST_COMMANDS", "MOST_LAYERS", "MOST_BINDINGS", "LONGEST_WAIT", "is_map", "check_map"]
def nm1 : List PySem.Str := ["check_state", "fits_state", "bound_in", "facts_of", "holds", "are_flags", "are_outside", "are_names", "are_settings", "are_commands", "are_layers", "is_binding", "row_of", "LONGEST_TEXT", "type_text", "is_apart", "check_text", "is_occurrence", "are_apart", "pausing", "_law_open", "_law_spread", "_law_take", "_law_one_of", "_law_any_effect", "_law_any_keys", "_law_any_form", "_law_any_binding", "_law_any_map", "_law_any_state"]
def nm2 : List PySem.Str := ["_law_any_text", "_law_caught", "_law_odd_map", "_law_odd_state", "_law_wrong_sign", "_law_door"]
def names : List PySem.Str := nm0 ++ nm1 ++ nm2
abbrev fa0 : List He.Fa := [.glo "is_boolean", .glo "is_integer", .glo "is_word", .glo "is_name", .glo "is_keys", .glo "is_within", .glo "is_ascending", .glo "are_names", .glo "are_flags", .glo "are_outside", .glo "are_settings", .glo "are_commands", .glo "is_binding", .glo "are_layers", .glo "is_map", .glo "fits_state", .glo "check_map", .glo "check_state", .glo "check_text", .glo "facts_of", .glo "holds", .glo "bound_in", .glo "is_occurrence", .glo "are_apart", .glo "is_apart"]
abbrev fa1 : List He.Fa := [.glo "pausing", .glo "row_of", .glo "type_text", .glo "_law_spread", .glo "_law_open", .glo "_law_take", .glo "_law_one_of", .glo "_law_any_effect", .glo "_law_any_keys", .glo "_law_any_form", .glo "_law_any_binding", .glo "_law_any_map", .glo "_law_any_state", .glo "_law_any_text", .glo "_law_caught", .glo "_law_odd_map", .glo "_law_odd_state", .glo "_law_wrong_sign", .glo "_law_door", .glo "law", .int "LONGEST_NAME" 8, .int "MOST_KEYS" 4, .int "MOST_FLAGS" 3, .int "MOST_COMMANDS" 8, .int "MOST_LAYERS" 4]
abbrev fa2 : List He.Fa := [.int "MOST_BINDINGS" 16, .int "LONGEST_WAIT" 1000, .int "LONGEST_TEXT" 40, .free "isinstance", .free "len", .free "all", .free "sum", .free "zip", .free "range", .free "repr", .free "enumerate", .free "tuple", .free "list", .free "dict", .free "str", .free "int", .free "bool", .free "sorted", .free "max", .free "min", .free "ValueError"]
abbrev fa : List He.Fa := fa0 ++ fa1 ++ fa2
abbrev dd0 : He.DefD := ⟨("is_boolean", none), "is_boolean", "is_boolean", defArgs s_is_boolean, defBody s_is_boolean, defScope s_is_boolean, [], []⟩
abbrev dd1 : He.DefD := ⟨("is_integer", none), "is_integer", "is_integer", defArgs s_is_integer, defBody s_is_integer, defScope s_is_integer, [], []⟩
abbrev dd2 : He.DefD := ⟨("is_word", none), "is_word", "is_word", defArgs s_is_word, defBody s_is_word, defScope s_is_word, [], []⟩
abbrev dd3 : He.DefD := ⟨("is_name", none), "is_name", "is_name", defArgs s_is_name, defBody s_is_name, defScope s_is_name, [], []⟩
abbrev dd4 : He.DefD := ⟨("is_keys", none), "is_keys", "is_keys", defArgs s_is_keys, defBody s_is_keys, defScope s_is_keys, [], []⟩
abbrev dd5 : He.DefD := ⟨("is_within", none), "is_within", "is_within", defArgs s_is_within, defBody s_is_within, defScope s_is_within, [], []⟩
abbrev dd6 : He.DefD := ⟨("is_ascending", none), "is_ascending", "is_ascending", defArgs s_is_ascending, defBody s_is_ascending, defScope s_is_ascending, [], []⟩
abbrev dd7 : He.DefD := ⟨("are_names", none), "are_names", "are_names", defArgs s_are_names, defBody s_are_names, defScope s_are_names, [], []⟩
abbrev dd8 : He.DefD := ⟨("are_flags", none), "are_flags", "are_flags", defArgs s_are_flags, defBody s_are_flags, defScope s_are_flags, [], []⟩
abbrev dd9 : He.DefD := ⟨("are_outside", none), "are_outside", "are_outside", defArgs s_are_outside, defBody s_are_outside, defScope s_are_outside, [], []⟩
abbrev dd10 : He.DefD := ⟨("are_settings", none), "are_settings", "are_settings", defArgs s_are_settings, defBody s_are_settings, defScope s_are_settings, [], []⟩
abbrev dd11 : He.DefD := ⟨("are_commands", none), "are_commands", "are_commands", defArgs s_are_commands, defBody s_are_commands, defScope s_are_commands, [], []⟩
abbrev dd12 : He.DefD := ⟨("is_binding", none), "is_binding", "is_binding", defArgs s_is_binding, defBody s_is_binding, defScope s_is_binding, [], []⟩
abbrev dd13 : He.DefD := ⟨("are_layers", none), "are_layers", "are_layers", defArgs s_are_layers, defBody s_are_layers, defScope s_are_layers, [], []⟩
abbrev dd14 : He.DefD := ⟨("is_map", none), "is_map", "is_map", defArgs s_is_map, defBody s_is_map, defScope s_is_map, [], []⟩
abbrev dd15 : He.DefD := ⟨("fits_state", none), "fits_state", "fits_state", defArgs s_fits_state, defBody s_fits_state, defScope s_fits_state, [], []⟩
abbrev dd16 : He.DefD := ⟨("check_map", none), "check_map", "check_map", defArgs s_check_map, defBody s_check_map, defScope s_check_map, [], []⟩
abbrev dd17 : He.DefD := ⟨("check_state", none), "check_state", "check_state", defArgs s_check_state, defBody s_check_state, defScope s_check_state, [], []⟩
abbrev dd18 : He.DefD := ⟨("check_text", none), "check_text", "check_text", defArgs s_check_text, defBody s_check_text, defScope s_check_text, [], []⟩
abbrev dd19 : He.DefD := ⟨("facts_of", none), "facts_of", "facts_of", defArgs s_facts_of, defBody s_facts_of, defScope s_facts_of, [], []⟩
abbrev dd20 : He.DefD := ⟨("holds", none), "holds", "holds", defArgs s_holds, defBody s_holds, defScope s_holds, [], []⟩
abbrev dd21 : He.DefD := ⟨("bound_in", none), "bound_in", "bound_in", defArgs s_bound_in, defBody s_bound_in, defScope s_bound_in, [], []⟩
abbrev dd22 : He.DefD := ⟨("is_occurrence", none), "is_occurrence", "is_occurrence", defArgs s_is_occurrence, defBody s_is_occurrence, defScope s_is_occurrence, [], []⟩
abbrev dd23 : He.DefD := ⟨("are_apart", none), "are_apart", "are_apart", defArgs s_are_apart, defBody s_are_apart, defScope s_are_apart, [], []⟩
abbrev dd24 : He.DefD := ⟨("is_apart", none), "is_apart", "is_apart", defArgs s_is_apart, defBody s_is_apart, defScope s_is_apart, [], []⟩
abbrev dd25 : He.DefD := ⟨("pausing", none), "pausing", "pausing", defArgs s_pausing, defBody s_pausing, defScope s_pausing, [], []⟩
abbrev dd26 : He.DefD := ⟨("row_of", none), "row_of", "row_of", defArgs s_row_of, defBody s_row_of, defScope s_row_of, [], []⟩
abbrev dd27 : He.DefD := ⟨("type_text", none), "type_text", "type_text", defArgs s_type_text, defBody s_type_text, defScope s_type_text, [], []⟩
abbrev dd28 : He.DefD := ⟨("_law_spread", none), "_law_spread", "_law_spread", defArgs s_law_spread, defBody s_law_spread, defScope s_law_spread, [], []⟩
abbrev dd29 : He.DefD := ⟨("_law_open", none), "_law_open", "_law_open", defArgs s_law_open, defBody s_law_open, defScope s_law_open, [], []⟩
abbrev dd30 : He.DefD := ⟨("_law_take", none), "_law_take", "_law_take", defArgs s_law_take, defBody s_law_take, defScope s_law_take, [], []⟩
abbrev dd31 : He.DefD := ⟨("_law_one_of", none), "_law_one_of", "_law_one_of", defArgs s_law_one_of, defBody s_law_one_of, defScope s_law_one_of, [], []⟩
abbrev dd32 : He.DefD := ⟨("_law_any_effect", none), "_law_any_effect", "_law_any_effect", defArgs s_law_any_effect, defBody s_law_any_effect, defScope s_law_any_effect, [], []⟩
abbrev dd33 : He.DefD := ⟨("_law_any_keys", none), "_law_any_keys", "_law_any_keys", defArgs s_law_any_keys, defBody s_law_any_keys, defScope s_law_any_keys, [], []⟩
abbrev dd34 : He.DefD := ⟨("_law_any_form", none), "_law_any_form", "_law_any_form", defArgs s_law_any_form, defBody s_law_any_form, defScope s_law_any_form, [], []⟩
abbrev dd35 : He.DefD := ⟨("_law_any_binding", none), "_law_any_binding", "_law_any_binding", defArgs s_law_any_binding, defBody s_law_any_binding, defScope s_law_any_binding, [], []⟩
abbrev dd36 : He.DefD := ⟨("_law_any_map", none), "_law_any_map", "_law_any_map", defArgs s_law_any_map, defBody s_law_any_map, defScope s_law_any_map, [], []⟩
abbrev dd37 : He.DefD := ⟨("_law_any_state", none), "_law_any_state", "_law_any_state", defArgs s_law_any_state, defBody s_law_any_state, defScope s_law_any_state, [], []⟩
abbrev dd38 : He.DefD := ⟨("_law_any_text", none), "_law_any_text", "_law_any_text", defArgs s_law_any_text, defBody s_law_any_text, defScope s_law_any_text, [], []⟩
abbrev dd39 : He.DefD := ⟨("_law_caught", none), "_law_caught", "_law_caught", defArgs s_law_caught, defBody s_law_caught, defScope s_law_caught, [], []⟩
abbrev dd40 : He.DefD := ⟨("_law_odd_map", none), "_law_odd_map", "_law_odd_map", defArgs s_law_odd_map, defBody s_law_odd_map, defScope s_law_odd_map, [], []⟩
abbrev dd41 : He.DefD := ⟨("_law_odd_state", none), "_law_odd_state", "_law_odd_state", defArgs s_law_odd_state, defBody s_law_odd_state, defScope s_law_odd_state, [], []⟩
abbrev dd42 : He.DefD := ⟨("_law_wrong_sign", none), "_law_wrong_sign", "_law_wrong_sign", defArgs s_law_wrong_sign, defBody s_law_wrong_sign, defScope s_law_wrong_sign, [], []⟩
abbrev dd43 : He.DefD := ⟨("_law_door", none), "_law_door", "_law_door", defArgs s_law_door, defBody s_law_door, defScope s_law_door, [], []⟩
abbrev dd44 : He.DefD := ⟨("law", none), "law", "law", defArgs s_law, defBody s_law, defScope s_law, [], []⟩
abbrev fn0 : List He.DefD := [dd0, dd1, dd2, dd3, dd4, dd5, dd6, dd7, dd8, dd9, dd10, dd11, dd12, dd13, dd14, dd15, dd16, dd17, dd18, dd19, dd20, dd21, dd22, dd23, dd24]
abbrev fn1 : List He.DefD := [dd25, dd26, dd27, dd28, dd29, dd30, dd31, dd32, dd33, dd34, dd35, dd36, dd37, dd38, dd39, dd40, dd41, dd42, dd43, dd44]
abbrev fn : List He.DefD := fn0 ++ fn1
abbrev tf : List He.Defn := [("is_word", none), ("are_names", none), ("are_outside", none), ("are_settings", none), ("are_commands", none), ("are_layers", none), ("fits_state", none), ("holds", none), ("is_apart", none)]
end HX
set_option maxRecDepth 100000
set_option maxHeartbeats 0
namespace HX
open PySem PySem.W PySem.Calls PyProof.Rows
abbrev R : OpenRow := OpenLaw.row PySem.Challenge.rw_keywait_k53_typing_refused
abbrev hk : Hook := He.hookX 4 fa fn [] tf Pr.exB
def ob (s : SharedT) : He.AlX := He.obsX 4 fa fn [] tf Pr.exB (HandSHeadRun.getT s)
theorem ob_eq (s : SharedT) : ob s = hk.obs s.abs := He.obsX_eq (HandSHeadRun.getT_eq s)
theorem run (w : World) : HandSHeadRun.RunEq R (view R.prog [71]) hk ob 20000 names w := by
  intro os
  kernel_rfl
end HX
set_option maxRecDepth 100000
set_option maxHeartbeats 4000000
namespace Pr
open PySem PySem.Spec PyProof.Rows L2 GxR Gx Rp Dl Pd Tx HX
theorem law_end {l : PySem.W.OpenLaw} {w : World} {K : PySem.W.Frag} {h : Heap} {mg : Str → Option Value} {fa0 : Addr} (X : K.In h) (G : h.Ns mainGlobals mg) (hfa : mg "law" = some (.ref fa0)) (S : He.SaysX fa fn [] tf Pr.exB w h K) :
    Lw.LawAtG l w K CX0 14 63 "_law_script" mg fa0 h := by
  have SD := S.t.d
  obtain ⟨fd0, q0⟩ := SD.def_ 0 (d := dd0) rfl
  obtain ⟨g0, D0, e0⟩ := def_told (st := s_is_boolean) (SD.fact 0 (f := .glo "is_boolean") rfl) q0
  clear q0
  clear e0
  obtain ⟨fd1, q1⟩ := SD.def_ 1 (d := dd1) rfl
  obtain ⟨g1, D1, e1⟩ := def_told (st := s_is_integer) (SD.fact 1 (f := .glo "is_integer") rfl) q1
  clear q1
  clear e1
  obtain ⟨fd2, q2⟩ := SD.def_ 2 (d := dd2) rfl
  obtain ⟨g2, D2, e2⟩ := def_told (st := s_is_word) (SD.fact 2 (f := .glo "is_word") rfl) q2
  clear q2
  obtain ⟨P2, T2⟩ := tab_told X S (p := ("is_word", none)) (List.mem_of_getElem? (i := 0) rfl) e2
  clear e2
  obtain ⟨fd3, q3⟩ := SD.def_ 3 (d := dd3) rfl
  obtain ⟨g3, D3, e3⟩ := def_told (st := s_is_name) (SD.fact 3 (f := .glo "is_name") rfl) q3
  clear q3
  clear e3
  obtain ⟨fd4, q4⟩ := SD.def_ 4 (d := dd4) rfl
  obtain ⟨g4, D4, e4⟩ := def_told (st := s_is_keys) (SD.fact 4 (f := .glo "is_keys") rfl) q4
  clear q4
  clear e4
  obtain ⟨fd5, q5⟩ := SD.def_ 5 (d := dd5) rfl
  obtain ⟨g5, D5, e5⟩ := def_told (st := s_is_within) (SD.fact 5 (f := .glo "is_within") rfl) q5
  clear q5
  clear e5
  obtain ⟨fd6, q6⟩ := SD.def_ 6 (d := dd6) rfl
  obtain ⟨g6, D6, e6⟩ := def_told (st := s_is_ascending) (SD.fact 6 (f := .glo "is_ascending") rfl) q6
  clear q6
  clear e6
  obtain ⟨fd7, q7⟩ := SD.def_ 7 (d := dd7) rfl
  obtain ⟨g7, D7, e7⟩ := def_told (st := s_are_names) (SD.fact 7 (f := .glo "are_names") rfl) q7
  clear q7
  obtain ⟨P7, T7⟩ := tab_told X S (p := ("are_names", none)) (List.mem_of_getElem? (i := 1) rfl) e7
  clear e7
  obtain ⟨fd8, q8⟩ := SD.def_ 8 (d := dd8) rfl
  obtain ⟨g8, D8, e8⟩ := def_told (st := s_are_flags) (SD.fact 8 (f := .glo "are_flags") rfl) q8
  clear q8
  clear e8
  obtain ⟨fd9, q9⟩ := SD.def_ 9 (d := dd9) rfl
  obtain ⟨g9, D9, e9⟩ := def_told (st := s_are_outside) (SD.fact 9 (f := .glo "are_outside") rfl) q9
  clear q9
  obtain ⟨P9, T9⟩ := tab_told X S (p := ("are_outside", none)) (List.mem_of_getElem? (i := 2) rfl) e9
  clear e9
  obtain ⟨fd10, q10⟩ := SD.def_ 10 (d := dd10) rfl
  obtain ⟨g10, D10, e10⟩ := def_told (st := s_are_settings) (SD.fact 10 (f := .glo "are_settings") rfl) q10
  clear q10
  obtain ⟨P10, T10⟩ := tab_told X S (p := ("are_settings", none)) (List.mem_of_getElem? (i := 3) rfl) e10
  clear e10
  obtain ⟨fd11, q11⟩ := SD.def_ 11 (d := dd11) rfl
  obtain ⟨g11, D11, e11⟩ := def_told (st := s_are_commands) (SD.fact 11 (f := .glo "are_commands") rfl) q11
  clear q11
  obtain ⟨P11, T11⟩ := tab_told X S (p := ("are_commands", none)) (List.mem_of_getElem? (i := 4) rfl) e11
  clear e11
  obtain ⟨fd12, q12⟩ := SD.def_ 12 (d := dd12) rfl
  obtain ⟨g12, D12, e12⟩ := def_told (st := s_is_binding) (SD.fact 12 (f := .glo "is_binding") rfl) q12
  clear q12
  clear e12
  obtain ⟨fd13, q13⟩ := SD.def_ 13 (d := dd13) rfl
  obtain ⟨g13, D13, e13⟩ := def_told (st := s_are_layers) (SD.fact 13 (f := .glo "are_layers") rfl) q13
  clear q13
  obtain ⟨P13, T13⟩ := tab_told X S (p := ("are_layers", none)) (List.mem_of_getElem? (i := 5) rfl) e13
  clear e13
  obtain ⟨fd14, q14⟩ := SD.def_ 14 (d := dd14) rfl
  obtain ⟨g14, D14, e14⟩ := def_told (st := s_is_map) (SD.fact 14 (f := .glo "is_map") rfl) q14
  clear q14
  clear e14
  obtain ⟨fd15, q15⟩ := SD.def_ 15 (d := dd15) rfl
  obtain ⟨g15, D15, e15⟩ := def_told (st := s_fits_state) (SD.fact 15 (f := .glo "fits_state") rfl) q15
  clear q15
  obtain ⟨P15, T15⟩ := tab_told X S (p := ("fits_state", none)) (List.mem_of_getElem? (i := 6) rfl) e15
  clear e15
  obtain ⟨fd16, q16⟩ := SD.def_ 16 (d := dd16) rfl
  obtain ⟨g16, D16, e16⟩ := def_told (st := s_check_map) (SD.fact 16 (f := .glo "check_map") rfl) q16
  clear q16
  clear e16
  obtain ⟨fd17, q17⟩ := SD.def_ 17 (d := dd17) rfl
  obtain ⟨g17, D17, e17⟩ := def_told (st := s_check_state) (SD.fact 17 (f := .glo "check_state") rfl) q17
  clear q17
  clear e17
  obtain ⟨fd18, q18⟩ := SD.def_ 18 (d := dd18) rfl
  obtain ⟨g18, D18, e18⟩ := def_told (st := s_check_text) (SD.fact 18 (f := .glo "check_text") rfl) q18
  clear q18
  clear e18
  obtain ⟨fd19, q19⟩ := SD.def_ 19 (d := dd19) rfl
  obtain ⟨g19, D19, e19⟩ := def_told (st := s_facts_of) (SD.fact 19 (f := .glo "facts_of") rfl) q19
  clear q19
  clear e19
  obtain ⟨fd20, q20⟩ := SD.def_ 20 (d := dd20) rfl
  obtain ⟨g20, D20, e20⟩ := def_told (st := s_holds) (SD.fact 20 (f := .glo "holds") rfl) q20
  clear q20
  obtain ⟨P20, T20⟩ := tab_told X S (p := ("holds", none)) (List.mem_of_getElem? (i := 7) rfl) e20
  clear e20
  obtain ⟨fd21, q21⟩ := SD.def_ 21 (d := dd21) rfl
  obtain ⟨g21, D21, e21⟩ := def_told (st := s_bound_in) (SD.fact 21 (f := .glo "bound_in") rfl) q21
  clear q21
  clear e21
  obtain ⟨fd22, q22⟩ := SD.def_ 22 (d := dd22) rfl
  obtain ⟨g22, D22, e22⟩ := def_told (st := s_is_occurrence) (SD.fact 22 (f := .glo "is_occurrence") rfl) q22
  clear q22
  clear e22
  obtain ⟨fd23, q23⟩ := SD.def_ 23 (d := dd23) rfl
  obtain ⟨g23, D23, e23⟩ := def_told (st := s_are_apart) (SD.fact 23 (f := .glo "are_apart") rfl) q23
  clear q23
  clear e23
  obtain ⟨fd24, q24⟩ := SD.def_ 24 (d := dd24) rfl
  obtain ⟨g24, D24, e24⟩ := def_told (st := s_is_apart) (SD.fact 24 (f := .glo "is_apart") rfl) q24
  clear q24
  obtain ⟨P24, T24⟩ := tab_told X S (p := ("is_apart", none)) (List.mem_of_getElem? (i := 8) rfl) e24
  clear e24
  obtain ⟨fd25, q25⟩ := SD.def_ 25 (d := dd25) rfl
  obtain ⟨g25, D25, e25⟩ := def_told (st := s_pausing) (SD.fact 25 (f := .glo "pausing") rfl) q25
  clear q25
  clear e25
  obtain ⟨fd26, q26⟩ := SD.def_ 26 (d := dd26) rfl
  obtain ⟨g26, D26, e26⟩ := def_told (st := s_row_of) (SD.fact 26 (f := .glo "row_of") rfl) q26
  clear q26
  clear e26
  obtain ⟨fd27, q27⟩ := SD.def_ 27 (d := dd27) rfl
  obtain ⟨g27, D27, e27⟩ := def_told (st := s_type_text) (SD.fact 27 (f := .glo "type_text") rfl) q27
  clear q27
  clear e27
  obtain ⟨fd28, q28⟩ := SD.def_ 28 (d := dd28) rfl
  obtain ⟨g28, D28, e28⟩ := def_told (st := s_law_spread) (SD.fact 28 (f := .glo "_law_spread") rfl) q28
  clear q28
  clear e28
  obtain ⟨fd29, q29⟩ := SD.def_ 29 (d := dd29) rfl
  obtain ⟨g29, D29, e29⟩ := def_told (st := s_law_open) (SD.fact 29 (f := .glo "_law_open") rfl) q29
  clear q29
  clear e29
  obtain ⟨fd30, q30⟩ := SD.def_ 30 (d := dd30) rfl
  obtain ⟨g30, D30, e30⟩ := def_told (st := s_law_take) (SD.fact 30 (f := .glo "_law_take") rfl) q30
  clear q30
  clear e30
  obtain ⟨fd31, q31⟩ := SD.def_ 31 (d := dd31) rfl
  obtain ⟨g31, D31, e31⟩ := def_told (st := s_law_one_of) (SD.fact 31 (f := .glo "_law_one_of") rfl) q31
  clear q31
  clear e31
  obtain ⟨fd32, q32⟩ := SD.def_ 32 (d := dd32) rfl
  obtain ⟨g32, D32, e32⟩ := def_told (st := s_law_any_effect) (SD.fact 32 (f := .glo "_law_any_effect") rfl) q32
  clear q32
  clear e32
  obtain ⟨fd33, q33⟩ := SD.def_ 33 (d := dd33) rfl
  obtain ⟨g33, D33, e33⟩ := def_told (st := s_law_any_keys) (SD.fact 33 (f := .glo "_law_any_keys") rfl) q33
  clear q33
  clear e33
  obtain ⟨fd34, q34⟩ := SD.def_ 34 (d := dd34) rfl
  obtain ⟨g34, D34, e34⟩ := def_told (st := s_law_any_form) (SD.fact 34 (f := .glo "_law_any_form") rfl) q34
  clear q34
  clear e34
  obtain ⟨fd35, q35⟩ := SD.def_ 35 (d := dd35) rfl
  obtain ⟨g35, D35, e35⟩ := def_told (st := s_law_any_binding) (SD.fact 35 (f := .glo "_law_any_binding") rfl) q35
  clear q35
  clear e35
  obtain ⟨fd36, q36⟩ := SD.def_ 36 (d := dd36) rfl
  obtain ⟨g36, D36, e36⟩ := def_told (st := s_law_any_map) (SD.fact 36 (f := .glo "_law_any_map") rfl) q36
  clear q36
  clear e36
  obtain ⟨fd37, q37⟩ := SD.def_ 37 (d := dd37) rfl
  obtain ⟨g37, D37, e37⟩ := def_told (st := s_law_any_state) (SD.fact 37 (f := .glo "_law_any_state") rfl) q37
  clear q37
  clear e37
  obtain ⟨fd38, q38⟩ := SD.def_ 38 (d := dd38) rfl
  obtain ⟨g38, D38, e38⟩ := def_told (st := s_law_any_text) (SD.fact 38 (f := .glo "_law_any_text") rfl) q38
  clear q38
  clear e38
  obtain ⟨fd39, q39⟩ := SD.def_ 39 (d := dd39) rfl
  obtain ⟨g39, D39, e39⟩ := def_told (st := s_law_caught) (SD.fact 39 (f := .glo "_law_caught") rfl) q39
  clear q39
  clear e39
  obtain ⟨fd40, q40⟩ := SD.def_ 40 (d := dd40) rfl
  obtain ⟨g40, D40, e40⟩ := def_told (st := s_law_odd_map) (SD.fact 40 (f := .glo "_law_odd_map") rfl) q40
  clear q40
  clear e40
  obtain ⟨fd41, q41⟩ := SD.def_ 41 (d := dd41) rfl
  obtain ⟨g41, D41, e41⟩ := def_told (st := s_law_odd_state) (SD.fact 41 (f := .glo "_law_odd_state") rfl) q41
  clear q41
  clear e41
  obtain ⟨fd42, q42⟩ := SD.def_ 42 (d := dd42) rfl
  obtain ⟨g42, D42, e42⟩ := def_told (st := s_law_wrong_sign) (SD.fact 42 (f := .glo "_law_wrong_sign") rfl) q42
  clear q42
  clear e42
  obtain ⟨fd43, q43⟩ := SD.def_ 43 (d := dd43) rfl
  obtain ⟨g43, D43, e43⟩ := def_told (st := s_law_door) (SD.fact 43 (f := .glo "_law_door") rfl) q43
  clear q43
  clear e43
  obtain ⟨fd44, q44⟩ := SD.def_ 44 (d := dd44) rfl
  obtain ⟨g44, D44, e44⟩ := def_told (st := s_law) (SD.fact 44 (f := .glo "law") rfl) q44
  clear q44
  clear e44
  have hfe : fa0 = He.ga K "law" := by
    have z := PySem.W.mg_of X G D44.1
    rw [hfa] at z
    cases z
    rfl
  subst hfe
  obtain ⟨t1, c1⟩ := He.int_ok X G (SD.fact 45 (f := .int "LONGEST_NAME" 8) rfl)
  obtain ⟨t2, c2⟩ := He.int_ok X G (SD.fact 46 (f := .int "MOST_KEYS" 4) rfl)
  obtain ⟨t3, c3⟩ := He.int_ok X G (SD.fact 47 (f := .int "MOST_FLAGS" 3) rfl)
  obtain ⟨t4, c4⟩ := He.int_ok X G (SD.fact 48 (f := .int "MOST_COMMANDS" 8) rfl)
  obtain ⟨t5, c5⟩ := He.int_ok X G (SD.fact 49 (f := .int "MOST_LAYERS" 4) rfl)
  obtain ⟨t6, c6⟩ := He.int_ok X G (SD.fact 50 (f := .int "MOST_BINDINGS" 16) rfl)
  obtain ⟨t7, c7⟩ := He.int_ok X G (SD.fact 51 (f := .int "LONGEST_WAIT" 1000) rfl)
  obtain ⟨t8, c8⟩ := He.int_ok X G (SD.fact 52 (f := .int "LONGEST_TEXT" 40) rfl)
  have b0 := He.free_ok X G (SD.fact 53 (f := .free "isinstance") rfl)
  have b1 := He.free_ok X G (SD.fact 54 (f := .free "len") rfl)
  have b2 := He.free_ok X G (SD.fact 55 (f := .free "all") rfl)
  have b3 := He.free_ok X G (SD.fact 56 (f := .free "sum") rfl)
  have b4 := He.free_ok X G (SD.fact 57 (f := .free "zip") rfl)
  have b5 := He.free_ok X G (SD.fact 58 (f := .free "range") rfl)
  have b6 := He.free_ok X G (SD.fact 59 (f := .free "repr") rfl)
  have b7 := He.free_ok X G (SD.fact 60 (f := .free "enumerate") rfl)
  have b8 := He.free_ok X G (SD.fact 61 (f := .free "tuple") rfl)
  have b9 := He.free_ok X G (SD.fact 62 (f := .free "list") rfl)
  have b10 := He.free_ok X G (SD.fact 63 (f := .free "dict") rfl)
  have b11 := He.free_ok X G (SD.fact 64 (f := .free "str") rfl)
  have b12 := He.free_ok X G (SD.fact 65 (f := .free "int") rfl)
  have b13 := He.free_ok X G (SD.fact 66 (f := .free "bool") rfl)
  have b14 := He.free_ok X G (SD.fact 67 (f := .free "sorted") rfl)
  have b15 := He.free_ok X G (SD.fact 68 (f := .free "max") rfl)
  have b16 := He.free_ok X G (SD.fact 69 (f := .free "min") rfl)
  have b17 := He.free_ok X G (SD.fact 70 (f := .free "ValueError") rfl)
  have B : Bn mg := ⟨b0, b1, b2, b3, b4, b5, b6, b7, b8, b9, b10, b11, b12, b13⟩
  let cs : List (Addr × Addr) := [(g2, P2), (g7, P7), (g9, P9), (g10, P10), (g11, P11), (g13, P13), (g15, P15), (g20, P20), (g24, P24)]
  have alls : ∀ R : Addr × Addr → Prop, R (g2, P2) → R (g7, P7) → R (g9, P9) → R (g10, P10) → R (g11, P11) → R (g13, P13) → R (g15, P15) → R (g20, P20) → R (g24, P24) → ∀ p ∈ cs, R p := fun R r2 r7 r9 r10 r11 r13 r15 r20 r24 p hp => by
    have hp' : p = (g2, P2) ∨ p = (g7, P7) ∨ p = (g9, P9) ∨ p = (g10, P10) ∨ p = (g11, P11) ∨ p = (g13, P13) ∨ p = (g15, P15) ∨ p = (g20, P20) ∨ p = (g24, P24) := by simpa [cs] using hp
    rcases hp' with rfl | rfl | rfl | rfl | rfl | rfl | rfl | rfl | rfl <;> assumption
  refine ⟨fd44, cs, spLaw K (cs.map (·.2)), alls (fun p => h.get? p.2 = some { cls := .none, data := .fields #[] }) T2.e T7.e T9.e T10.e T11.e T13.e T15.e T20.e T24.e, alls (fun p => K.lookup p.2 = none) T2.n T7.n T9.n T10.n T11.n T13.n T15.n T20.n T24.n,
    alls (fun p => PySem.W.CodeHd h p.1 p.2) T2.hd T7.hd T9.hd T10.hd T11.hd T13.hd T15.hd T20.hd T24.hd, ?_, fun H a ns hl _ hT hS => ⟨a, ns, rfl, hS, hl, fun Pt hPt => ?_, fun _ => rfl⟩, fun base Xb Gb TB => ?_⟩
  · obtain ⟨_, ⟨oc, od, kV, doc, pm, an, ct, osl, rfl, _⟩, _, _⟩ := D44
    exact fun s u => .of_eq rfl
  · obtain ⟨p, hp, rfl⟩ := List.mem_map.mp hPt
    exact ⟨#[], hT p hp, by simp [TriplesOk]⟩
  · have inT : ∀ {c Pt : Addr}, (c, Pt) ∈ cs → Pt ∈ cs.map (·.2) := fun hp => List.mem_map.mpr ⟨_, hp, rfl⟩
    have i2 : (g2, P2) ∈ cs := by simp [cs]
    have i7 : (g7, P7) ∈ cs := by simp [cs]
    have i9 : (g9, P9) ∈ cs := by simp [cs]
    have i10 : (g10, P10) ∈ cs := by simp [cs]
    have i11 : (g11, P11) ∈ cs := by simp [cs]
    have i13 : (g13, P13) ∈ cs := by simp [cs]
    have i15 : (g15, P15) ∈ cs := by simp [cs]
    have i20 : (g20, P20) ∈ cs := by simp [cs]
    have i24 : (g24, P24) ∈ cs := by simp [cs]
    have EK := errK_of X G S.more
    have DK := doorK_of X G S.more
    have RM := raK_of X G S.more (x := "NoMap") (by decide +kernel) (by decide +kernel)
    have RS := raK_of X G S.more (x := "NoState") (by decide +kernel) (by decide +kernel)
    have RX := raK_of X G S.more (x := "NoKeys") (by decide +kernel) (by decide +kernel)
    have xBoo := D0.df X G (base := base) (ok_is_boolean (P := l.prog) (w := w) (base := base) (T := cs.map (·.2)) D0.F B) (fun _ _ _ _ _ _ us hl => match us, hl with | [_], _ => rfl)
    have xInt := D1.df X G (base := base) (ok_is_integer (P := l.prog) (w := w) (base := base) (T := cs.map (·.2)) D1.F B) (fun _ _ _ _ _ _ us hl => match us, hl with | [_], _ => rfl)
    have xWor := D2.df X G (base := base) (ok_is_word (P := l.prog) (w := w) D2.F B (TB _ i2) (inT i2)) (fun _ _ _ _ _ _ us hl => match us, hl with | [_, _], _ => rfl)
    have xNam := D3.df X G (base := base) (ok_is_name (P := l.prog) (w := w) D3.F xWor c1) (fun _ _ _ _ _ _ us hl => match us, hl with | [_], _ => rfl)
    have xKey := D4.df X G (base := base) (ok_is_keys (P := l.prog) (w := w) D4.F xWor c2) (fun _ _ _ _ _ _ us hl => match us, hl with | [_], _ => rfl)
    have xWit := D5.df X G (base := base) (ok_is_within (P := l.prog) (w := w) D5.F xInt) (fun _ _ _ _ _ _ us hl => match us, hl with | [_, _, _], _ => rfl)
    have xAsc := D6.df X G (base := base) (ok_is_ascending (P := l.prog) (w := w) (base := base) D6.F B) (fun _ _ _ _ _ _ us hl => match us, hl with | [_], _ => rfl)
    have xNms := D7.df X G (base := base) (ok_are_names (P := l.prog) (w := w) D7.F B (TB _ i7) (inT i7) xNam xAsc) (fun _ _ _ _ _ _ us hl => match us, hl with | [_], _ => rfl)
    have xFla := D8.df X G (base := base) (ok_are_flags (P := l.prog) (w := w) D8.F B xNms c3) (fun _ _ _ _ _ _ us hl => match us, hl with | [_], _ => rfl)
    have xOut := D9.df X G (base := base) (ok_are_outside (P := l.prog) (w := w) D9.F B (TB _ i9) (inT i9) xNms) (fun _ _ _ _ _ _ us hl => match us, hl with | [_, _], _ => rfl)
    have xSet := D10.df X G (base := base) (ok_are_settings (P := l.prog) (w := w) D10.F B (TB _ i10) (inT i10) xBoo) (fun _ _ _ _ _ _ us hl => match us, hl with | [_, _], _ => rfl)
    have xCom := D11.df X G (base := base) (ok_are_commands (P := l.prog) (w := w) D11.F B (TB _ i11) (inT i11) xNam xSet c4) (fun _ _ _ _ _ _ us hl => match us, hl with | [_, _], _ => rfl)
    have xBin := D12.df X G (base := base) (ok_is_binding (P := l.prog) (w := w) D12.F B xKey xSet xNam) (fun _ _ _ _ _ _ us hl => match us, hl with | [_, _, _], _ => rfl)
    have xLay := D13.df X G (base := base) (ok_are_layers (P := l.prog) (w := w) D13.F B (TB _ i13) (inT i13) xBin c5 c6) (fun _ _ _ _ _ _ us hl => match us, hl with | [_, _, _], _ => rfl)
    have xMap := D14.df X G (base := base) (ok_is_map (P := l.prog) (w := w) D14.F B xFla xOut xCom xLay xWit c7) (fun _ _ _ _ _ _ us hl => match us, hl with | [_], _ => rfl)
    have xFit := D15.df X G (base := base) (ok_fits_state (P := l.prog) (w := w) D15.F B (TB _ i15) (inT i15) xBoo) (fun _ _ _ _ _ _ us hl => match us, hl with | [_, _], _ => rfl)
    have xCmX := D16.dfX X G (base := base) (ok_check_mapX (P := l.prog) (w := w) D16.F RM xMap) (fun _ _ _ _ _ _ us hl => match us, hl with | [_], _ => rfl)
    have xCsX := D17.dfX X G (base := base) (ok_check_stateX (P := l.prog) (w := w) D17.F RS xCmX xFit) (fun _ _ _ _ _ _ us hl => match us, hl with | [_, _], _ => rfl)
    have xCtX := D18.dfX X G (base := base) (ok_check_textX (P := l.prog) (w := w) D18.F RX xCsX xWor c8) (fun _ _ _ _ _ _ us hl => match us, hl with | [_, _, _], _ => rfl)
    have xFac := D19.df X G (base := base) (ok_facts_of (P := l.prog) (w := w) (base := base) D19.F B) (fun _ _ _ _ _ _ us hl => match us, hl with | [_, _], _ => rfl)
    have xHol := D20.df X G (base := base) (ok_holds (P := l.prog) (w := w) D20.F B (TB _ i20) (inT i20)) (fun _ _ _ _ _ _ us hl => match us, hl with | [_, _], _ => rfl)
    have xBoI := D21.df X G (base := base) (ok_bound_in (P := l.prog) (w := w) D21.F xFac xHol) (fun _ _ _ _ _ _ us hl => match us, hl with | [_, _], _ => rfl)
    have xIsO := D22.df X G (base := base) (ok_is_occurrence (P := l.prog) (w := w) D22.F B xWit xKey) (fun _ _ _ _ _ _ us hl => match us, hl with | [_, _, _], _ => rfl)
    have xArA := D23.df X G (base := base) (ok_are_apart (P := l.prog) (w := w) (base := base) D23.F B) (fun _ _ _ _ _ _ us hl => match us, hl with | [_], _ => rfl)
    have xAsL := D6.df X G (base := base) (ok_is_ascendingL (P := l.prog) (w := w) (base := base) D6.F B) (fun _ _ _ _ _ _ us hl => match us, hl with | [_], _ => rfl)
    have xIsA := D24.dfX X G (base := base) (ok_is_apartX (P := l.prog) (w := w) D24.F B (TB _ i24) (inT i24) xCtX xBoI xIsO xAsL xArA) (fun _ _ _ _ _ _ us hl => match us, hl with | [_, _, _, _], _ => rfl)
    have xPau := D25.df X G (base := base) (ok_pausing (P := l.prog) (w := w) (base := base) D25.F B b15 c2) (fun _ _ _ _ _ _ us hl => match us, hl with | [_, _], _ => rfl)
    have xRof := D26.df X G (base := base) (ok_row_of (P := l.prog) (w := w) (base := base) D26.F B) (fun _ _ _ _ _ _ us hl => match us, hl with | [_, _], _ => rfl)
    have xTyT := D27.dfX X G (base := base) (ok_type_textX (P := l.prog) (w := w) D27.F B xCtX xBoI xPau xRof) (fun _ _ _ _ _ _ us hl => match us, hl with | [_, _, _], _ => rfl)
    have xSpr := D28.df X G (base := base) (ok_law_spread (P := l.prog) (w := w) (base := base) (mg := mg) D28.F) (fun _ _ _ _ _ _ us hl => match us, hl with | [_, _], _ => rfl)
    have xOpe := D29.df X G (base := base) (ok_law_open (P := l.prog) (w := w) (base := base) D29.F B) (fun _ _ _ _ _ _ us hl => match us, hl with | [_], _ => rfl)
    have xTak := D30.df X G (base := base) (ok_law_take (P := l.prog) (w := w) D30.F B xSpr) (fun _ _ _ _ _ _ us hl => match us, hl with | [_, _], _ => rfl)
    have xOne := D31.df X G (base := base) (ok_law_one_of (P := l.prog) (w := w) D31.F B xTak) (fun _ _ _ _ _ _ us hl => match us, hl with | [_, _], _ => rfl)
    have xEff := D32.df X G (base := base) (ok_law_any_effect (P := l.prog) (w := w) D32.F xTak) (fun _ _ _ _ _ _ us hl => match us, hl with | [_, _], _ => rfl)
    have xKys := D33.df X G (base := base) (ok_law_any_keys (P := l.prog) (w := w) D33.F B xTak) (fun _ _ _ _ _ _ us hl => match us, hl with | [_, _], _ => rfl)
    have xFor := D34.df X G (base := base) (ok_law_any_form (P := l.prog) (w := w) D34.F B xEff xTak) (fun _ _ _ _ _ _ us hl => match us, hl with | [_], _ => rfl)
    have xBnd := D35.df X G (base := base) (ok_law_any_binding (P := l.prog) (w := w) D35.F B b14 xKys xEff xTak xOne) (fun _ _ _ _ _ _ us hl => match us, hl with | [_, _, _], _ => rfl)
    have xMps := D36.df X G (base := base) (ok_law_any_map (P := l.prog) (w := w) D36.F B xTak xOne xBnd) (fun _ _ _ _ _ _ us hl => match us, hl with | [_, _, _], _ => rfl)
    have xSts := D37.df X G (base := base) (ok_law_any_state (P := l.prog) (w := w) D37.F B xTak) (fun _ _ _ _ _ _ us hl => match us, hl with | [_, _], _ => rfl)
    have xTxt := D38.df X G (base := base) (ok_law_any_text (P := l.prog) (w := w) D38.F B xTak) (fun _ _ _ _ _ _ us hl => match us, hl with | [_, _, _], _ => rfl)
    have xCau := D39.df X G (base := base) (ok_law_caught (P := l.prog) (w := w) D39.F B EK b17) (fun _ _ _ _ _ _ us hl => match us, hl with | [_], _ => rfl)
    have xOdM := D40.df X G (base := base) (ok_law_odd_map (P := l.prog) (w := w) D40.F B xTak) (fun _ _ _ _ _ _ us hl => match us, hl with | [_, _], _ => rfl)
    have xOdS := D41.df X G (base := base) (ok_law_odd_state (P := l.prog) (w := w) D41.F B xTak xOne) (fun _ _ _ _ _ _ us hl => match us, hl with | [_, _], _ => rfl)
    have xWSg := D42.df X G (base := base) (ok_law_wrong_sign (P := l.prog) (w := w) D42.F B xTak) (fun _ _ _ _ _ _ us hl => match us, hl with | [_], _ => rfl)
    have xDoo := D43.df X G (base := base) (ok_law_door (P := l.prog) (w := w) D43.F DK xTyT xIsA xCau) (fun _ _ _ _ _ _ us hl => match us, hl with | [_, _, _, _, _], _ => rfl)
    exact ok_law (P := l.prog) (w := w) D44.F B xOpe xOne xFor xMps xSts xTxt xTak xWSg xOdM xOdS xDoo
end Pr
open PySem PySem.W PySem.Calls PyProof.Rows
set_option maxRecDepth 100000
set_option maxHeartbeats 0
theorem PySem.Challenge.cw_keywait_k53_typing_refused_holds : PySem.Challenge.rw_keywait_k53_typing_refused.Holds := by
  w_on; o_law
  refine HandSHeadRun.head_any (r := OpenLaw.row PySem.Challenge.rw_keywait_k53_typing_refused) (q := view (OpenLaw.row PySem.Challenge.rw_keywait_k53_typing_refused).prog [71]) (H := HX.hk) (ob := HX.ob) (M := 20000) (loose := HX.names) (d := HandSHeadRun.topDef (OpenLaw.row PySem.Challenge.rw_keywait_k53_typing_refused).prog 71) (kwd := []) HX.ob_eq
    (by kernel_rfl) (fun s => by kernel_rfl) HX.run (by kernel_rfl) (by kernel_rfl) (by kernel_rfl) (by rfl) (by first | assumption | decide +kernel) (by decide +kernel) ⟨rfl, rfl, rfl, rfl, rfl, by decide +kernel⟩ ?hw ?hc
  case hw => w_witness2
  case hc =>
    refine Pr.walkX (l := PySem.Challenge.rw_keywait_k53_typing_refused) (n := 63) (k := 14) (x := "_law_script") rfl (by decide) (by kernel_rfl) ⟨rfl, by decide, by decide⟩ ?F
    intro w mg fa h Y G hmg0
    obtain ⟨K, KX, c⟩ := Y
    have hmg : mg ("law" : PySem.Str) = some (.ref fa) := by
      have e : (HandSHeadRun.topDef (OpenLaw.row PySem.Challenge.rw_keywait_k53_typing_refused).prog 71).name = ("law" : PySem.Str) := by kernel_rfl
      rw [← e]
      exact hmg0
    exact ⟨K, KX, Pr.law_end KX G hmg c⟩
